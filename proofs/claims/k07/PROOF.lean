import PyProof.Rows.All
import Wide.All
import OpenK.AllK
import Wide.FinOn
import HandS.ForMost
import HandS.IsInst
import HandS.SetKeys
import HandS.NoneIn
import HandS.Style
import HandS.More
import HandS.Zip
import HandS.Walk
import HandS.TupAny
import KE.GoesMore
import KE.GoesEnum
import HandS.DictTup
import HandS.SortKw
import KE.DataMinMax
import PyProof.P3In
import HandS.TupSets
import HandS.SetFor
import HandS.SetBool
import HandS.SortInts
import KE.KSetDisp
import HandS.Strs
import KE.KDictZip
import KE.KItemsList
import HandS.ListItems
import HandS.SetIn
import PySem.Challenge.RW_lateboxes_k07_blocks
set_option Elab.async false
set_option linter.all false
set_option maxRecDepth 100000
set_option maxHeartbeats 4000000
/-! Lateboxes, common to all laws: the drawer's list, what stays, rows as data. Own text. -/
namespace LB
open PySem L2
/-- the drawer: a list at p, its own list of numbers at l -/
def HAt (H : Hp) (p l : Addr) : Prop := ∃ (m t : Int) (ns : List Int), H p = some (.lst [.int m, .ref l, .int t]) ∧ H l = some (.lst (ns.map V.int)) ∧ 0 ≤ m ∧ m < 2147483647 ∧ ns.length ≤ 63
/-- all that stood stands, but for what stands at p and l -/
def Keep (p l : Addr) (H H' : Hp) : Prop := ∀ b o, H b = some o → b ≠ p → b ≠ l → H' b = some o
theorem HAt.ne {H : Hp} {p l : Addr} (h : HAt H p l) : p ≠ l := by
  obtain ⟨m, t, ns, h1, h2, _⟩ := h
  intro e
  rw [e, h2] at h1
  cases ns with
  | nil => cases h1
  | cons x r =>
    cases r with
    | nil => cases h1
    | cons y r => cases h1
theorem Keep.refl (p l : Addr) (H : Hp) : Keep p l H H := fun _ _ h _ _ => h
theorem Keep.trans {p l : Addr} {H H1 H2 : Hp} (a : Keep p l H H1) (b : Keep p l H1 H2) : Keep p l H H2 := fun c o e n1 n2 => b c o (a c o e n1 n2) n1 n2
theorem Keep.of_same {p l : Addr} {H H' : Hp} (s : Same H H') : Keep p l H H' := fun c o e _ _ => s c o e
theorem same_new {H : Hp} {a : Addr} (h : H a = none) (o : HO) : Same H (upd H a o) := fun b u q => by
  rw [upd_ne (ne_of_none q h)]
  exact q
theorem Keep.new {p l a : Addr} {H H' : Hp} {o : HO} (s : Keep p l H H') (h : H' a = none) : Keep p l H (upd H' a o) := s.trans (.of_same (same_new h o))
/-- a drawer stands when others are made or changed -/
theorem HAt.same {H H' : Hp} {p l : Addr} (h : HAt H p l) (s : Same H H') : HAt H' p l := by
  obtain ⟨m, t, ns, h1, h2, h3⟩ := h
  exact ⟨m, t, ns, s _ _ h1, s _ _ h2, h3⟩
theorem HAt.new {H : Hp} {p l a : Addr} {o : HO} (h : HAt H p l) (n : H a = none) : HAt (upd H a o) p l := h.same (same_new n o)
/-- what is not there at the end was not there ahead -/
theorem Keep.free {p l a : Addr} {H H' : Hp} (hh : HAt H' p l) (s : Keep p l H H') (h : H' a = none) : H a = none := by
  cases q : H a with
  | none => rfl
  | some o =>
    obtain ⟨m, t, ns, h1, h2, _⟩ := hh
    by_cases e1 : a = p
    · rw [e1, h1] at h; cases h
    · by_cases e2 : a = l
      · rw [e2, h2] at h; cases h
      · rw [s a o q e1 e2] at h; cases h
theorem keep_tup {K : PySem.W.Frag} {p l a : Addr} {H H' : Hp} {xs : List V} (hh : HAt H p l) (s : Keep p l H H') (h : SqT K H a xs) : SqT K H' a xs := by
  obtain ⟨m, t, ns, h1, h2, _⟩ := hh
  rcases h with (h | ⟨o, h⟩) | h
  · refine .inl (.inl (s _ _ h (fun e => ?_) (fun e => ?_)))
    · rw [e, h1] at h; cases h
    · rw [e, h2] at h; cases h
  · refine .inl (.inr ⟨o, s _ _ h (fun e => ?_) (fun e => ?_)⟩)
    · rw [e, h1] at h; cases h
    · rw [e, h2] at h; cases h
  · exact .inr h
theorem HAt.nep {H : Hp} {p l d : Addr} (h : HAt H p l) (hd : H d = none) : d ≠ p := fun e => by
  obtain ⟨m, t, ns, q, _⟩ := h
  rw [e, q] at hd; cases hd
theorem HAt.nel {H : Hp} {p l d : Addr} (h : HAt H p l) (hd : H d = none) : d ≠ l := fun e => by
  obtain ⟨m, t, ns, _, q, _⟩ := h
  rw [e, q] at hd; cases hd
/-- what stands at d, made behind H0, may change -/
theorem Keep.over {p l d : Addr} {H0 H : Hp} {o : HO} (s : Keep p l H0 H) (hd : H0 d = none) : Keep p l H0 (upd H d o) := fun b u e n1 n2 => by
  rw [upd_ne (ne_of_none e hd)]
  exact s b u e n1 n2
theorem HAt.over {H : Hp} {p l d : Addr} {o : HO} (h : HAt H p l) (n1 : d ≠ p) (n2 : d ≠ l) : HAt (upd H d o) p l := by
  obtain ⟨m, t, ns, h1, h2, h3⟩ := h
  exact ⟨m, t, ns, by rw [upd_ne n1.symm]; exact h1, by rw [upd_ne n2.symm]; exact h2, h3⟩
theorem small {n : Nat} (h : n ≤ 1000) : n ≤ sizeLine := Nat.le_of_lt (small1000 h)
theorem map_get {ns : List Int} {i : Nat} {y : V} (h : (ns.map V.int)[i]? = some y) : ∃ u, ns[i]? = some u ∧ y = V.int u := by
  rw [List.getElem?_map] at h
  cases e : ns[i]? with
  | none => rw [e] at h; cases h
  | some u => rw [e] at h; exact ⟨u, rfl, (Option.some.inj h).symm⟩
/-! ### joining ways -/
theorem if_cut {b : Bool} {ta tb : TE} {σ : L2.St} {H : Hp} {Q : V → Hp → Prop} (G : V → Hp → Prop) (hT : b = true → ∀ Q' : V → Hp → Prop, (∀ v H', G v H' → Q' v H') → ta σ H Q') (hF : b = false → ∀ Q' : V → Hp → Prop, (∀ v H', G v H' → Q' v H') → tb σ H Q')
    (k : ∀ v H', G v H' → Q v H') : if b = true then ta σ H Q else tb σ H Q := by
  cases b with
  | true => rw [if_pos rfl]; exact hT rfl Q k
  | false => rw [if_neg (by decide)]; exact hF rfl Q k
theorem ifs_cut {b : Bool} {t u : TS} {D : Ends} {σ : L2.St} {H : Hp} (G : L2.St → Hp → Prop) (hT : b = true → ∀ D' : Ends, D'.rt = D.rt → (∀ σ' H', G σ' H' → D'.nx σ' H') → t D' σ H)
    (hF : b = false → ∀ D' : Ends, D'.rt = D.rt → (∀ σ' H', G σ' H' → D'.nx σ' H') → u D' σ H) (k : ∀ σ' H', G σ' H' → D.nx σ' H') : if b = true then t D σ H else u D σ H := by
  cases b with
  | true => rw [if_pos rfl]; exact hT rfl D rfl k
  | false => rw [if_neg (by decide)]; exact hF rfl D rfl k
theorem yes_if {σ : L2.St} {H : Hp} {A B : Hp → Prop} (h : A H) : tYes σ H fun b H3 => if b = true then A H3 else B H3 := by
  show if (true : Bool) = true then A H else B H
  exact iteT h
theorem if_both {b : Bool} {A B : Prop} (hT : b = true → A) (hF : b = false → B) : if b = true then A else B := by
  cases b with
  | true => rw [if_pos rfl]; exact hT rfl
  | false => rw [if_neg (by decide)]; exact hF rfl
/-! ### lists of numbers as data -/
theorem all_ints (K : PySem.W.Frag) (H : Hp) : ∀ ns : List Int, DpAll K H (ns.map V.int) (ns.map PyData.int)
  | [] => .nil
  | x :: r => .cons (.int x) (all_ints K H r)
theorem lay_ints : ∀ ns : List Int, PyData.canLayAll0 (ns.map PyData.int) = true
  | [] => rfl
  | x :: r => by
    show (PyData.canLay0 (.int x) && PyData.canLayAll0 (r.map PyData.int)) = true
    rw [lay_ints r]
    rfl
theorem deep_ints : ∀ ns : List Int, PyData.depthAll (ns.map PyData.int) = 0
  | [] => rfl
  | x :: r => by
    show max (PyData.depth (.int x)) (PyData.depthAll (r.map PyData.int)) = 0
    rw [deep_ints r]
    rfl
theorem shaped_ints (ns : List Int) : SeqAt.shaped (.list (ns.map PyData.int)) = true := by
  have h1 : PyData.canLay0 (.list (ns.map PyData.int)) = true := lay_ints ns
  have h2 : PyData.depth (.list (ns.map PyData.int)) = 1 := by
    show PyData.depthAll (ns.map PyData.int) + 1 = 1
    rw [deep_ints]
  unfold SeqAt.shaped
  rw [h1, h2]
  rfl
theorem eqv_ints : ∀ ns ms : List Int, PyData.eqvAll (ns.map PyData.int) (ms.map PyData.int) = decide (ns = ms)
  | [], [] => rfl
  | [], _ :: _ => rfl
  | _ :: _, [] => rfl
  | x :: r, y :: t => by
    show ((x == y) && PyData.eqvAll (r.map PyData.int) (t.map PyData.int)) = decide (x :: r = y :: t)
    rw [eqv_ints r t]
    by_cases h : x = y <;> by_cases h2 : r = t <;> simp [h, h2]
theorem eqv_lists (ns ms : List Int) : PyData.eqv (.list (ns.map PyData.int)) (.list (ms.map PyData.int)) = decide (ns = ms) := eqv_ints ns ms
theorem Dp.ints {K : PySem.W.Frag} {H : Hp} {a : Addr} {ns : List Int} (h : SqL K H a (ns.map V.int)) : Dp K H (.ref a) (.list (ns.map PyData.int)) := .lst h (all_ints K H ns)
theorem set_ints (ns : List Int) (j : Nat) (z : Int) : (ns.map V.int).set j (.int z) = (ns.set j z).map V.int := by rw [List.map_set]
/-! ### a def as its callers see it -/
structure Cal (P : Program) (w : World) (K : PySem.W.Frag) (mg : Str → Option Value) (base : Heap) (k : Nat) (x : Str) (ps : List Str) (sp : Sp) : Prop where
  ex : ∃ (f : Addr) (fd : FuncData), FnOk P w K mg base CX0 k f fd ps sp ∧ mg x = some (.ref f) ∧ PySem.W.keepIn K (.ref f) = true ∧ Binds K fd ps []
theorem Cal.mk' {P : Program} {w : World} {K : PySem.W.Frag} {mg : Str → Option Value} {base : Heap} {k : Nat} {x : Str} {ps : List Str} {sp : Sp} {f : Addr} {fd : FuncData} (F : FnOk P w K mg base CX0 k f fd ps sp) (m : mg x = some (.ref f)) (kp : PySem.W.keepIn K (.ref f) = true)
    (b : Binds K fd ps []) : Cal P w K mg base k x ps sp := ⟨f, fd, F, m, kp, b⟩
theorem Cal.mono {P : Program} {w : World} {K : PySem.W.Frag} {mg : Str → Option Value} {base : Heap} {j k : Nat} {x : Str} {ps : List Str} {sp : Sp} (C : Cal P w K mg base j x ps sp) (h : j ≤ k) : Cal P w K mg base k x ps sp := by
  obtain ⟨f, fd, F, m, kp, b⟩ := C.ex
  exact ⟨f, fd, F.mono h, m, kp, b⟩
def tCal (sp : Sp) (t : TA) : TE := fun σ H Q => t σ H fun vs H1 => sp vs H1 Q fun _ _ _ => False
theorem pe_cal {X : Cx} {x : Str} {e : Expr} {es : List Expr} {p pos : Pos} {k : Nat} {ps : List Str} {sp : Sp} {t : TA} (C : Cal X.prog X.w X.K X.mg X.base k x ps sp) (hr : Room k X.A) (ha : PA X (e :: es) t) (hg : Gl X x := by rfl)
    (hdb : (x == ("__debug__" : Str)) = false := by decide) (he : starEach (e :: es) X.env = (false, eval e X.env) :: starEach es X.env := by rfl) (hpl : (backTo pos (starEach es X.env)).any (·.1) = false := by rfl) :
    PE X (.Call (.Name x p) (e :: es) [] pos) (tCal sp t) := by
  obtain ⟨f, fd, F, m, kp, b⟩ := C.ex
  have r := pe_call (p := p) (pos := pos) (E := fun _ _ _ => False) F hr hg m kp b .nil pass0 ha hdb he hpl
  have q : (tCall sp [] (fun _ _ _ => False) t) = tCal sp t := by
    funext σ H Q
    show (t σ H fun vs H1 => sp (vs ++ []) H1 Q fun _ _ _ => False) = _
    simp only [List.append_nil]
    rfl
  rw [q] at r
  exact r
/-- which names of the top are the built-ins still -/
structure Bl (mg : Str → Option Value) : Prop where
  len : mg "len" = none
  list : mg "list" = none
  max : mg "max" = none
  min : mg "min" = none
  tuple : mg "tuple" = none
  range : mg "range" = none
/-! ### rows as data -/
inductive Rw where
  | put (b n : Int) | move (b c : Int) | add (b c d : Int) | take (b c d : Int) | times (b c d : Int) | get (b c : Int) | set (c d : Int) | say (c : Int) | rest | go (r : Int) | iff (c r : Int) | stop
def Rw.vals : Rw → List V
  | .put b n => [.str "put", .int b, .int n]
  | .move b c => [.str "move", .int b, .int c]
  | .add b c d => [.str "add", .int b, .int c, .int d]
  | .take b c d => [.str "take", .int b, .int c, .int d]
  | .times b c d => [.str "times", .int b, .int c, .int d]
  | .get b c => [.str "get", .int b, .int c]
  | .set c d => [.str "set", .int c, .int d]
  | .say c => [.str "say", .int c]
  | .rest => [.str "rest"]
  | .go r => [.str "go", .int r]
  | .iff c r => [.str "if", .int c, .int r]
  | .stop => [.str "stop"]
def Rw.isGo : Rw → Bool
  | .go _ => true
  | .iff _ _ => true
  | _ => false
def Rw.leaves : Rw → Bool
  | .go _ => true
  | .iff _ _ => true
  | .stop => true
  | _ => false
def Bx (b : Int) : Prop := 0 ≤ b ∧ b < 8
/-- a row of a program of so many rows -/
def Rw.ok (many : Int) : Rw → Prop
  | .put b n => Bx b ∧ 0 ≤ n ∧ n < 1000
  | .move b c => Bx b ∧ Bx c
  | .add b c d => Bx b ∧ Bx c ∧ Bx d
  | .take b c d => Bx b ∧ Bx c ∧ Bx d
  | .times b c d => Bx b ∧ Bx c ∧ Bx d
  | .get b c => Bx b ∧ Bx c
  | .set c d => Bx c ∧ Bx d
  | .say c => Bx c
  | .rest => True
  | .go r => 0 ≤ r ∧ r < many
  | .iff c r => Bx c ∧ 0 ≤ r ∧ r < many
  | .stop => True
/-- a row stands at the value -/
def RowAt (K : PySem.W.Frag) (H : Hp) (v : V) (r : Rw) : Prop := ∃ a, v = .ref a ∧ SqT K H a r.vals
/-- a tuple of rows stands at a -/
def ProgAt (K : PySem.W.Frag) (H : Hp) (a : Addr) (rs : List Rw) : Prop := ∃ vs : List V, SqT K H a vs ∧ vs.length = rs.length ∧ ∀ (i : Nat) (r : Rw), rs[i]? = some r → ∃ v, vs[i]? = some v ∧ RowAt K H v r
theorem same_tup {K : PySem.W.Frag} {a : Addr} {H H' : Hp} {xs : List V} (s : Same H H') (h : SqT K H a xs) : SqT K H' a xs := by
  rcases h with (h | ⟨o, h⟩) | h
  · exact .inl (.inl (s _ _ h))
  · exact .inl (.inr ⟨o, s _ _ h⟩)
  · exact .inr h
theorem keep_row {K : PySem.W.Frag} {p l : Addr} {H H' : Hp} {v : V} {r : Rw} (hh : HAt H p l) (s : Keep p l H H') (h : RowAt K H v r) : RowAt K H' v r := by
  obtain ⟨a, e, q⟩ := h
  exact ⟨a, e, keep_tup hh s q⟩
theorem keep_prog {K : PySem.W.Frag} {p l a : Addr} {H H' : Hp} {rs : List Rw} (hh : HAt H p l) (s : Keep p l H H') (h : ProgAt K H a rs) : ProgAt K H' a rs := by
  obtain ⟨vs, q, hl, g⟩ := h
  refine ⟨vs, keep_tup hh s q, hl, fun i r e => ?_⟩
  obtain ⟨v, e1, e2⟩ := g i r e
  exact ⟨v, e1, keep_row hh s e2⟩
theorem tup_of {K : PySem.W.Frag} {H : Hp} {a : Addr} {xs : List V} (h : H a = some (.tup xs)) : SqT K H a xs := .inl (.inl h)
theorem atI_in {xs : List V} {z : Int} (h0 : 0 ≤ z) (h1 : z < (xs.length : Int)) : ∃ v, xs[z.toNat]? = some v ∧ atI xs z = some v := by
  have hj : z.toNat < xs.length := by omega
  exact ⟨xs[z.toNat], List.getElem?_eq_getElem hj, at_of (j := z.toNat) (by omega) (List.getElem?_eq_getElem hj)⟩
/-! ### a list filled by drawing: D holds what is made so far -/
def Kp3 (p l D : Addr) (Ha Hb : Hp) : Prop := ∀ b o, Ha b = some o → b ≠ p → b ≠ l → b ≠ D → Hb b = some o
structure Acc (p l D : Addr) (H0 : Hp) (F : V → Hp → Prop) (i : Nat) (H : Hp) : Prop where
  ex : ∃ acc : List V, H D = some (.lst acc) ∧ acc.length = i ∧ ∀ v, v ∈ acc → F v H
  at_ : HAt H p l
  keep : Keep p l H0 H
def Fmono (p l D : Addr) (F : V → Hp → Prop) : Prop := ∀ v Ha Hb, HAt Ha p l → (∃ acc, Ha D = some (.lst acc)) → Kp3 p l D Ha Hb → F v Ha → F v Hb
theorem Acc.start {p l D : Addr} {H0 H : Hp} {F : V → Hp → Prop} (h : HAt H p l) (k : Keep p l H0 H) (hD : H D = none) : Acc p l D H0 F 0 (upd H D (.lst [])) :=
  ⟨⟨[], upd_same, rfl, fun v h => by cases h⟩, h.new hD, k.new hD⟩
theorem Acc.step {p l D : Addr} {H0 H H3 : Hp} {F : V → Hp → Prop} {i : Nat} {v : V} (A : Acc p l D H0 F i H) (m : Fmono p l D F) (np : D ≠ p) (nl : D ≠ l) (h0 : H0 D = none) (hi : i ≤ 500) (h3 : HAt H3 p l) (k3 : Keep p l H H3) (new : F v H3) :
    ∃ acc, H3 D = some (.lst acc) ∧ acc.length < sizeLine ∧ Acc p l D H0 F (i + 1) (upd H3 D (.lst (acc ++ [v]))) := by
  obtain ⟨⟨acc, e1, e2, e3⟩, h, k⟩ := A
  have e4 := k3 _ _ e1 np nl
  refine ⟨acc, e4, small1000 (by omega), ⟨acc ++ [v], upd_same, by rw [List.length_append, e2]; rfl, fun x hx => ?_⟩, h3.over np nl, (k.trans k3).over h0⟩
  have up : Kp3 p l D H3 (upd H3 D (.lst (acc ++ [v]))) := fun b o e _ _ n => by rw [upd_ne n]; exact e
  rcases List.mem_append.mp hx with hx | hx
  · exact m x H _ h ⟨acc, e1⟩ (fun b o e n1 n2 n3 => up b o (k3 b o e n1 n2) n1 n2 n3) (e3 x hx)
  · have ex : x = v := by simpa using hx
    subst ex
    exact m x H3 _ h3 ⟨acc, e4⟩ up new
theorem kp3_tup {K : PySem.W.Frag} {p l D a : Addr} {H H' : Hp} {xs : List V} (hh : HAt H p l) (hD : ∃ acc, H D = some (.lst acc)) (s : Kp3 p l D H H') (h : SqT K H a xs) : SqT K H' a xs := by
  obtain ⟨m, t, ns, h1, h2, _⟩ := hh
  obtain ⟨acc, h3⟩ := hD
  rcases h with (h | ⟨o, h⟩) | h
  · refine .inl (.inl (s _ _ h (fun e => ?_) (fun e => ?_) (fun e => ?_)))
    · rw [e, h1] at h; cases h
    · rw [e, h2] at h; cases h
    · rw [e, h3] at h; cases h
  · refine .inl (.inr ⟨o, s _ _ h (fun e => ?_) (fun e => ?_) (fun e => ?_)⟩)
    · rw [e, h1] at h; cases h
    · rw [e, h2] at h; cases h
    · rw [e, h3] at h; cases h
  · exact .inr h
theorem kp3_row {K : PySem.W.Frag} {p l D : Addr} {H H' : Hp} {v : V} {r : Rw} (hh : HAt H p l) (hD : ∃ acc, H D = some (.lst acc)) (s : Kp3 p l D H H') (h : RowAt K H v r) : RowAt K H' v r := by
  obtain ⟨a, e, q⟩ := h
  exact ⟨a, e, kp3_tup hh hD s q⟩
theorem ints_of {P : Int → Prop} : ∀ {acc : List V}, (∀ v, v ∈ acc → ∃ z, v = .int z ∧ P z) → ∃ ns : List Int, acc = ns.map V.int ∧ ∀ z, z ∈ ns → P z
  | [], _ => ⟨[], rfl, fun z h => by cases h⟩
  | v :: r, h => by
    obtain ⟨z, e, hz⟩ := h v (List.mem_cons_self ..)
    obtain ⟨ns, e2, h2⟩ := ints_of (acc := r) fun x hx => h x (List.mem_cons_of_mem _ hx)
    refine ⟨z :: ns, by rw [e, e2]; rfl, fun y hy => ?_⟩
    rcases List.mem_cons.mp hy with q | q
    · rw [q]; exact hz
    · exact h2 y q
theorem fmono_int {p l D : Addr} {P : Int → Prop} : Fmono p l D fun v _ => ∃ z, v = .int z ∧ P z := fun _ _ _ _ _ _ h => h
theorem if_t {b : Bool} {A B : Prop} (e : b = true) (h : A) : if b = true then A else B := by rw [e]; exact iteT h
theorem if_f {b : Bool} {A B : Prop} (e : b = false) (h : B) : if b = true then A else B := by rw [e]; exact iteF h
theorem merge3 (a b c : Str) (x y z : V) (j : Str) : valV (mergeK [] [(Sum.inr a, x), (Sum.inr b, y), (Sum.inr c, z)]) (Sum.inr j) = if j = c then some z else if j = b then some y else if j = a then some x else none := by
  show valV (putK (putK (putK [] (Sum.inr a) x) (Sum.inr b) y) (Sum.inr c) z) (Sum.inr j) = _
  rw [valV_put, valV_put, valV_put, valV_nil]
  simp only [Sum.inr.injEq]
theorem merge2 (a b : Str) (x y : V) (j : Str) : valV (mergeK [] [(Sum.inr a, x), (Sum.inr b, y)]) (Sum.inr j) = if j = b then some y else if j = a then some x else none := by
  show valV (putK (putK [] (Sum.inr a) x) (Sum.inr b) y) (Sum.inr j) = _
  rw [valV_put, valV_put, valV_nil]
  simp only [Sum.inr.injEq]
theorem at4 {α : Type} {a0 a1 a2 a3 : α} {z : Int} (h0 : 0 ≤ z) (h1 : z < 4) : ∃ v, (v = a0 ∨ v = a1 ∨ v = a2 ∨ v = a3) ∧ atI [a0, a1, a2, a3] z = some v := by
  have e : z = 0 ∨ z = 1 ∨ z = 2 ∨ z = 3 := by omega
  rcases e with rfl | rfl | rfl | rfl
  · exact ⟨a0, .inl rfl, rfl⟩
  · exact ⟨a1, .inr (.inl rfl), rfl⟩
  · exact ⟨a2, .inr (.inr (.inl rfl)), rfl⟩
  · exact ⟨a3, .inr (.inr (.inr rfl)), rfl⟩
theorem at3 {α : Type} {a0 a1 a2 : α} {z : Int} (h0 : 0 ≤ z) (h1 : z < 3) : ∃ v, (v = a0 ∨ v = a1 ∨ v = a2) ∧ atI [a0, a1, a2] z = some v := by
  have e : z = 0 ∨ z = 1 ∨ z = 2 := by omega
  rcases e with rfl | rfl | rfl
  · exact ⟨a0, .inl rfl, rfl⟩
  · exact ⟨a1, .inr (.inl rfl), rfl⟩
  · exact ⟨a2, .inr (.inr rfl), rfl⟩
theorem le8_of {x : Int} : 0 ≤ x % 8 ∧ x % 8 < 8 := ⟨Int.emod_nonneg _ (by decide), Int.emod_lt_of_pos _ (by decide)⟩
theorem at15 {α : Type} {a0 a1 a2 a3 a4 a5 a6 a7 a8 a9 aa ab ac ad ae : α} {z : Int} (h0 : 0 ≤ z) (h1 : z < 15) : ∃ v, v ∈ [a0, a1, a2, a3, a4, a5, a6, a7, a8, a9, aa, ab, ac, ad, ae] ∧ atI [a0, a1, a2, a3, a4, a5, a6, a7, a8, a9, aa, ab, ac, ad, ae] z = some v := by
  have hj : z.toNat < [a0, a1, a2, a3, a4, a5, a6, a7, a8, a9, aa, ab, ac, ad, ae].length := by
    show z.toNat < 15
    omega
  refine ⟨_, List.getElem_mem hj, ?_⟩
  have e : z = ((z.toNat : Nat) : Int) := by omega
  have q := atI_nat (List.getElem?_eq_getElem hj)
  rw [← e] at q
  exact q
end LB
namespace LB
open PySem L2
def top (i : Nat) : Stmt := PySem.Challenge.pw_lateboxes_k07_blocks.main.body.getD i (.Pass ⟨0, 0, 0, 0⟩)
abbrev s_BadProgram___init__ : Stmt := inClass (top 2) 0
abbrev sWhole : Stmt := top 10
abbrev sMost : Stmt := top 11
abbrev sRow : Stmt := top 12
abbrev s_first_flaw : Stmt := top 13
abbrev sChkP : Stmt := top 14
abbrev s_blocks : Stmt := top 16
abbrev sMix : Stmt := top 18
abbrev sNext : Stmt := top 19
abbrev sAlike : Stmt := top 20
abbrev sMill : Stmt := top 21
abbrev sNumber : Stmt := top 22
abbrev sBoxes : Stmt := top 23
abbrev sDeed : Stmt := top 24
abbrev sJump : Stmt := top 25
abbrev sPlain : Stmt := top 26
abbrev s__law_blocks : Stmt := top 27
abbrev sLaw : Stmt := top 28
end LB
namespace LB
open PySem L2
section
variable {P : Program} {w : World} {K : PySem.W.Frag} {mg : Str → Option Value} {base : Heap}
def spMix (K : PySem.W.Frag) : Sp := fun vs H Q _ => ∃ (a : Addr) (ns : List Int) (z : Int), vs = [.ref a, .int z] ∧ SqL K H a (ns.map V.int) ∧ ns.length ≤ 63 ∧ 0 ≤ z ∧ z < 1000 ∧
  ∀ p l H', Same H H' → H p = none → H l = none → HAt H' p l → Q (.ref p) H'
theorem scMix : FnScope ["_law_script", "_law_seed", "_law_mixed", "_law_cell"] ["_law_script", "_law_seed"] (defScope sMix) := ⟨rfl, rfl, rfl, by decide +kernel, rfl, by decide +kernel, by decide +kernel⟩
theorem ok_mix {f : Addr} {fd : FuncData} (F : Fun K "_law_mix" "_law_mix" sMix f fd) (mL : mg "list" = none) : FnOk P w K mg base CX0 1 f fd ["_law_script", "_law_seed"] (spMix K) := by
  refine F.ok scMix (fun vs H Q E h => ?_) (fun cdv A outer s H vs Q E hr h => ?_)
  · obtain ⟨a, ns, z, rfl, _⟩ := h
    rfl
  · obtain ⟨a, ns, z, rfl, hS, hlen, hz0, hz1, k⟩ := h
    refine ⟨_, pss_cons (ps_set (i := 2) scMix.nd rfl (Or.inl rfl) (pv 1))
      (pss_cons (ps_for PassesOwn.never rfl (pi_list (pv 0)) (pg_name (i := 3) scMix.nd rfl (Or.inl rfl))
        (pss_one (ps_set (i := 2) scMix.nd rfl (Or.inl rfl) (pe_op op_mod (pe_op op_add (pe_op op_add (pe_op op_mul (pv 2) pe_int) (pe_op op_mod (pv 3) pe_int)) pe_int) pe_int))))
      (pss_one (ps_ret (pe_lst (pa_cons (pv 2) (pa_cons (pe_callTy call_list_of (by rfl) mL (by decide +kernel) (pa_cons (pv 0) pa_nil)) (pa_cons pe_int pa_nil))))))), ?_⟩
    refine ⟨_, rfl, _, rfl, a, rfl, ⟨_, hS⟩, for_list (K := K) (a := a) (xs := ns.map V.int) (fun i σ H' => ∃ (m : Int) (v : Option V), σ = [some (.ref a), some (.int z), some (.int m), v] ∧ H' = H ∧ 0 ≤ m ∧ m < 2147483647)
      ⟨z, none, rfl, rfl, hz0, by omega⟩ (fun i σ H' _ ⟨_, _, _, e, _⟩ => by rw [e]; exact hS) ?_ ?_⟩
    · rintro i y σ H' hi ⟨m, v, rfl, rfl, h0, h1⟩
      obtain ⟨u, _, rfl⟩ := map_get hi
      refine ⟨_, rfl, _, _, rfl, rfl, .inl ⟨by omega, by omega⟩, _, rfl, _, _, rfl, rfl, (by show (0 : Int) < 2147483629; decide), _, _, rfl, rfl, _, _, rfl, rfl, _, _, rfl, rfl, (by show (0 : Int) < 2147483647; decide), ?_⟩
      exact ⟨_, _, rfl, rfl, Int.emod_nonneg _ (by decide), Int.emod_lt_of_pos _ (by decide)⟩
    · rintro σ H' ⟨m, v, rfl, rfl, h0, h1⟩
      refine ⟨_, rfl, _, rfl, a, _, rfl, .inl hS, fun l hl => ?_⟩
      refine ⟨by show 3 ≤ sizeLine; decide, fun p hp => ?_⟩
      have npl : p ≠ l := (ne_of_none upd_same hp).symm
      have hp0 : H' p = none := by rw [upd_ne npl] at hp; exact hp
      exact k p l _ ((same_new hl _).trans (same_new hp _)) hp0 hl ⟨m, 0, ns, upd_same, by rw [upd_ne npl.symm, upd_same], h0, h1, hlen⟩
def spNext : Sp := fun vs H Q _ => ∃ (p l : Addr) (many : Int), vs = [.ref p, .int many] ∧ HAt H p l ∧ 0 < many ∧ many ≤ 100000 ∧
  ∀ k H', 0 ≤ k → k < many → HAt H' p l → Keep p l H H' → Q (.int k) H'
theorem scNext : FnScope ["_law_h", "_law_many", "_law_at", "_law_cell"] ["_law_h", "_law_many"] (defScope sNext) := ⟨rfl, rfl, rfl, by decide +kernel, rfl, by decide +kernel, by decide +kernel⟩
theorem ok_next {f : Addr} {fd : FuncData} (F : Fun K "_law_next" "_law_next" sNext f fd) (mM : mg "max" = none) (mL : mg "len" = none) : FnOk P w K mg base CX0 1 f fd ["_law_h", "_law_many"] spNext := by
  refine F.ok scNext (fun vs H Q E h => ?_) (fun cdv A outer s H vs Q E hr h => ?_)
  · obtain ⟨p, l, many, rfl, _⟩ := h
    rfl
  · obtain ⟨p, l, many, rfl, hH, hm0, hm1, k⟩ := h
    obtain ⟨m, t, ns, h1, h2, h3, h4, h5⟩ := id hH
    have npl := hH.ne
    refine ⟨_, pss_cons (ps_set (i := 2) scNext.nd rfl (Or.inl rfl) (pe_op op_modN (pe_ix ix_list (pv 0) pe_int (fun _ _ => rfl)) (pe_callB (call_max2 rfl) (by rfl) mM (by decide +kernel) (pa_cons pe_int (pa_cons (pe_callB call_len_seq (by rfl) mL PySem.boot_len (pa_cons (pe_ix ix_list (pv 0) pe_int (fun _ _ => rfl)) pa_nil)) pa_nil)))))
      (pss_cons (ps_set (i := 3) scNext.nd rfl (Or.inl rfl) (pe_ifExp (pt_cmpR (op_neD hr.units) (pe_ix ix_list (pv 0) pe_int (fun _ _ => rfl)) (pe_lst pa_nil) (nomark _)) (pe_ix ix_list (pe_ix ix_list (pv 0) pe_int (fun _ _ => rfl)) (pv 2) (fun _ _ => rfl)) pe_int))
      (pss_cons (ps_if (pt_cmpR op_ge (pv 3) (pe_op op_pow pe_int pe_int) (nomark _))
        (pss_cons (ps_asg (pe_op op_fdivN (pv 3) (pv 1)) (pg_sub (pe_ix ix_list (pv 0) pe_int (fun _ _ => rfl)) (pv 2) set_list))
        (pss_one (ps_ret (pe_op op_modN (pv 3) (pv 1))))) pss_nil)
      (pss_cons (ps_asg (pe_op op_mod (pe_op op_add (pe_op op_add (pe_op op_mul (pe_ix ix_list (pv 0) pe_int (fun _ _ => rfl)) pe_int) (pe_op op_mul (pv 3) pe_int)) pe_int) pe_int) (pg_sub (pv 0) pe_int set_list))
      (pss_cons (ps_asg (pe_op op_add (pe_ix ix_list (pv 0) pe_int (fun _ _ => rfl)) pe_int) (pg_sub (pv 0) pe_int set_list))
      (pss_one (ps_ret (pe_op op_modN (pe_op op_fdiv (pe_ix ix_list (pv 0) pe_int (fun _ _ => rfl)) pe_int) (pv 1)))))))), ?_⟩
    have i0 : atI [V.int m, V.ref l, V.int t] 0 = some (V.int m) := rfl
    have i1 : atI [V.int m, V.ref l, V.int t] 1 = some (V.ref l) := rfl
    have i2 : atI [V.int m, V.ref l, V.int t] 2 = some (V.int t) := rfl
    -- _law_at
    have hlen : (if (((ns.map V.int).length : Nat) : Int) > 1 then (((ns.map V.int).length : Nat) : Int) else 1) > 0 := by split <;> omega
    generalize hg : (if (((ns.map V.int).length : Nat) : Int) > 1 then (((ns.map V.int).length : Nat) : Int) else 1) = g at hlen
    refine ⟨_, rfl, p, _, _, _, rfl, rfl, SqL.of h1, i2, _, rfl, p, _, _, _, rfl, rfl, SqL.of h1, i1, l, _, rfl, .inl (SqL.of h2), _, _, rfl, ?_⟩
    rw [hg]
    refine ⟨_, _, rfl, rfl, by omega, ?_⟩
    have q0 : 0 ≤ t.fmod g := by rw [Int.fmod_eq_emod_of_nonneg _ (by omega)]; exact Int.emod_nonneg _ (by omega)
    have q1 : t.fmod g < g := by rw [Int.fmod_eq_emod_of_nonneg _ (by omega)]; exact Int.emod_lt_of_pos _ (by omega)
    -- _law_cell
    refine ⟨_, rfl, p, _, _, _, rfl, rfl, SqL.of h1, i1, by show 0 ≤ sizeLine; decide, fun n hn => ?_⟩
    have sn := same_new hn (.lst [])
    have h1' := sn _ _ h1
    have h2' := sn _ _ h2
    have kn : Keep p l H (upd H n (.lst [])) := .of_same sn
    refine ⟨_, _, Dp.ints (SqL.of h2'), Dp.ints (ns := []) (SqL.of upd_same), shaped_ints ns, shaped_ints [], _, rfl, ?_⟩
    refine if_cut (fun v H' => H' = upd H n (.lst []) ∧ ∃ c : Int, v = .int c ∧ (c ≥ 10 ^ 18 → (t.fmod g).toNat < ns.length)) (fun e Q' k' => ?_) (fun e Q' k' => ?_) ?_
    · rw [eqv_lists] at e
      have e' : ns ≠ [] := by simpa using e
      have hl : 0 < ns.length := List.length_pos_iff.mpr e'
      have hj : (t.fmod g).toNat < ns.length := by
        rw [List.length_map] at hg
        split at hg <;> omega
      refine ⟨_, rfl, p, _, _, _, rfl, rfl, SqL.of h1', i1, _, rfl, l, _, _, _, rfl, rfl, SqL.of h2', at_of (j := (t.fmod g).toNat) (v := V.int ns[(t.fmod g).toNat]) (by omega) (by rw [List.getElem?_map, List.getElem?_eq_getElem hj]; rfl), ?_⟩
      exact k' _ _ ⟨rfl, _, rfl, fun _ => hj⟩
    · exact k' _ _ ⟨rfl, 0, rfl, fun h => absurd h (by decide)⟩
    rintro v _ ⟨rfl, c, rfl, hc⟩
    -- if _law_cell >= 10 ** 18
    refine ⟨_, rfl, _, _, rfl, rfl, ⟨by decide, by decide, by decide⟩, _, _, rfl, rfl, _, rfl, if_both (fun e => ?_) (fun e => ?_)⟩
    · have hj := hc (of_decide_eq_true e)
      refine ⟨_, rfl, _, rfl, _, _, rfl, rfl, ⟨by omega, by omega⟩, _, rfl, p, _, _, _, rfl, rfl, SqL.of h1', i1, _, rfl, l, _, _, (t.fmod g).toNat, rfl, rfl, h2', ?_, ?_⟩
      · unfold ixN
        rw [List.length_map, if_pos q0, if_pos (by omega)]
      · refine ⟨_, rfl, _, rfl, _, _, rfl, rfl, by omega, ?_⟩
        refine k _ _ (by rw [Int.fmod_eq_emod_of_nonneg _ (by omega)]; exact Int.emod_nonneg _ (by omega)) (by rw [Int.fmod_eq_emod_of_nonneg _ (by omega)]; exact Int.emod_lt_of_pos _ (by omega)) ⟨m, t, _, by rw [upd_ne npl]; exact h1', by rw [upd_same, set_ints], h3, h4, by rw [List.length_set]; exact h5⟩ ?_
        exact fun b o e1 n1 n2 => by rw [upd_ne n2]; exact sn _ _ e1
    · refine ⟨_, rfl, p, _, _, _, rfl, rfl, SqL.of h1', i0, _, _, rfl, rfl, .inr ⟨by decide, by decide⟩, _, rfl, _, _, rfl, rfl, .inr ⟨by decide, by decide⟩, _, _, rfl, rfl, _, _, rfl, rfl, _, _, rfl, rfl, (by show (0 : Int) < 2147483647; decide), _, rfl, p, _, _, 0, rfl, rfl, h1', rfl, ?_⟩
      have b0 : 0 ≤ (m * 48271 + c * 69621 + 11) % 2147483647 := by exact Int.emod_nonneg _ (by decide)
      have b1 : (m * 48271 + c * 69621 + 11) % 2147483647 < 2147483647 := by exact Int.emod_lt_of_pos _ (by decide)
      refine ⟨_, rfl, p, _, _, _, rfl, rfl, SqL.of upd_same, (rfl : atI [V.int ((m * 48271 + c * 69621 + 11) % 2147483647), V.ref l, V.int t] 2 = some (V.int t)), _, _, rfl, rfl, _, rfl, p, _, _, 2, rfl, rfl, upd_same, rfl, ?_⟩
      refine ⟨_, rfl, p, _, _, _, rfl, rfl, SqL.of upd_same, (rfl : atI [V.int ((m * 48271 + c * 69621 + 11) % 2147483647), V.ref l, V.int (t + 1)] 0 = some (V.int ((m * 48271 + c * 69621 + 11) % 2147483647))), _, _, rfl, rfl, ⟨by decide, by decide⟩, _, rfl, _, _, rfl, rfl, by omega, ?_⟩
      refine k _ _ (by rw [Int.fmod_eq_emod_of_nonneg _ (by omega)]; exact Int.emod_nonneg _ (by omega)) (by rw [Int.fmod_eq_emod_of_nonneg _ (by omega)]; exact Int.emod_lt_of_pos _ (by omega)) ⟨_, t + 1, ns, upd_same, by rw [upd_ne npl.symm, upd_ne npl.symm]; exact h2', b0, b1, h5⟩ ?_
      exact fun b o e1 n1 n2 => by rw [upd_ne n1, upd_ne n1]; exact sn _ _ e1
end
end LB
namespace LB
open PySem L2
section
variable {P : Program} {w : World} {K : PySem.W.Frag} {mg : Str → Option Value} {base : Heap}
abbrev psN : List Str := ["_law_h", "_law_many"]
/-- a number drawn -/
def spNumber : Sp := fun vs H Q _ => ∃ (p l : Addr), vs = [.ref p] ∧ HAt H p l ∧ ∀ k H', 0 ≤ k → k < 1000 → HAt H' p l → Keep p l H H' → Q (.int k) H'
theorem scNumber : FnScope ["_law_h"] ["_law_h"] (defScope sNumber) := ⟨rfl, rfl, rfl, by decide +kernel, rfl, by decide +kernel, by decide +kernel⟩
theorem ok_number {f : Addr} {fd : FuncData} (F : Fun K "_law_number" "_law_number" sNumber f fd) (N : Cal P w K mg base 1 "_law_next" psN spNext) : FnOk P w K mg base CX0 2 f fd ["_law_h"] spNumber := by
  refine F.ok scNumber (fun vs H Q E h => ?_) (fun cdv A outer s H vs Q E hr h => ?_)
  · obtain ⟨p, l, rfl, _⟩ := h
    rfl
  · obtain ⟨p, l, rfl, hH, k⟩ := h
    refine ⟨_, pss_one (ps_ret (pe_ix ix_list (pe_lst (pa_cons (pe_cal N hr (pa_cons (pv 0) (pa_cons pe_int pa_nil))) (pa_cons (pe_cal N hr (pa_cons (pv 0) (pa_cons pe_int pa_nil))) pa_nil))) (pe_cal N hr (pa_cons (pv 0) (pa_cons pe_int pa_nil))) (fun _ _ => rfl))), ?_⟩
    refine ⟨_, rfl, p, l, 4, rfl, hH, by decide, by decide, fun a H1 a0 a1 h1 k1 => ?_⟩
    refine ⟨_, rfl, p, l, 1000, rfl, h1, by decide, by decide, fun b H2 b0 b1 h2 k2 => ?_⟩
    refine ⟨by show 2 ≤ sizeLine; decide, fun d hd => ?_⟩
    refine ⟨_, rfl, p, l, 2, rfl, h2.new hd, by decide, by decide, fun c H3 c0 c1 h3 k3 => ?_⟩
    have hd3 : H3 d = some (.lst [.int a, .int b]) := k3 _ _ upd_same (fun e => by obtain ⟨m, t, ns, q, _⟩ := h2; rw [e, q] at hd; cases hd) (fun e => by obtain ⟨m, t, ns, _, q, _⟩ := h2; rw [e, q] at hd; cases hd)
    have kk : Keep p l H H3 := (k1.trans k2).trans ((Keep.of_same (same_new hd _)).trans k3)
    by_cases e : c = 0
    · subst e
      exact ⟨d, _, _, .int a, rfl, rfl, SqL.of hd3, rfl, k a H3 a0 (by omega) h3 kk⟩
    · have e : c = 1 := by omega
      subst e
      exact ⟨d, _, _, .int b, rfl, rfl, SqL.of hd3, rfl, k b H3 b0 b1 h3 kk⟩
/-- a mill drawn -/
def MillAt (K : PySem.W.Frag) (H : Hp) (a : Addr) (ms : List Int) : Prop := SqT K H a (ms.map V.int)
def MillOk (ms : List Int) : Prop := ∃ p g t j : Int, ms = [p, g, t, j] ∧ (0 ≤ p ∧ p ≤ 2) ∧ (0 ≤ g ∧ g ≤ 4) ∧ (0 ≤ t ∧ t ≤ 4) ∧ (0 ≤ j ∧ j ≤ 3)
def spMill (K : PySem.W.Frag) : Sp := fun vs H Q _ => ∃ (p l : Addr), vs = [.ref p] ∧ HAt H p l ∧ ∀ a ms H', MillAt K H' a ms → MillOk ms → HAt H' p l → Keep p l H H' → Q (.ref a) H'
theorem scMill : FnScope ["_law_h", "_law_turn", "_law_most"] ["_law_h"] (defScope sMill) := ⟨rfl, rfl, rfl, by decide +kernel, rfl, by decide +kernel, by decide +kernel⟩
theorem ok_mill {f : Addr} {fd : FuncData} (F : Fun K "_law_mill" "_law_mill" sMill f fd) (N : Cal P w K mg base 1 "_law_next" psN spNext) (B : Bl mg) : FnOk P w K mg base CX0 2 f fd ["_law_h"] (spMill K) := by
  refine F.ok scMill (fun vs H Q E h => ?_) (fun cdv A outer s H vs Q E hr h => ?_)
  · obtain ⟨p, l, rfl, _⟩ := h
    rfl
  · obtain ⟨p, l, rfl, hH, k⟩ := h
    refine ⟨_, pss_cons (ps_set (i := 1) scMill.nd rfl (Or.inl rfl) (pe_cal N hr (pa_cons (pv 0) (pa_cons pe_int pa_nil))))
      (pss_cons (ps_if (pt_cmpR op_lt (pv 1) pe_int (nomark _)) (pss_one (ps_ret (pe_ix ix_list (pe_lst (pa_cons (pe_tup (pa_cons pe_int (pa_cons pe_int (pa_cons pe_int (pa_cons pe_int pa_nil))))) (pa_cons (pe_tup (pa_cons pe_int (pa_cons pe_int (pa_cons pe_int (pa_cons pe_int pa_nil))))) pa_nil))) (pv 1) (fun _ _ => rfl)))) pss_nil)
      (pss_one (ps_ret (pe_callTy call_tuple_of (by rfl) B.tuple (by decide +kernel) (pa_cons
        (pe_lc (own := [("_law_most", 2)]) (g := gName 2) (by rfl) scMill.nd (pi_tup (pe_tup (pa_cons pe_int (pa_cons pe_int (pa_cons pe_int (pa_cons pe_int pa_nil)))))) (blkOk_by (own := [("_law_most", 2)]) (N := ["_law_h", "_law_turn", "_law_most"]) (sc := defScope sMill) (by decide +kernel))
          (fun _ _ _ _ _ => pg_name (i := 2) scMill.nd rfl (Or.inl rfl)) (fun _ _ _ _ _ => pts_nil) (fun _ _ _ _ _ => pe_cal N hr (pa_cons (pv 0) (pa_cons (pe_op op_add (pv 2) pe_int) pa_nil)))) pa_nil))))), ?_⟩
    refine ⟨_, rfl, p, l, 9, rfl, hH, by decide, by decide, fun c H1 c0 c1 h1 k1 => ?_⟩
    refine ⟨_, rfl, _, _, rfl, rfl, _, rfl, if_both (fun e => ?_) (fun e => ?_)⟩
    · have e' : c < 2 := of_decide_eq_true e
      refine ⟨by show 4 ≤ sizeLine; decide, fun a ha => ⟨by show 4 ≤ sizeLine; decide, fun b hb => ⟨by show 2 ≤ sizeLine; decide, fun d hd => ?_⟩⟩⟩
      have h2 := ((h1.new (o := .tup [.int 0, .int 0, .int 0, .int 0]) ha).new (o := .tup [.int 2, .int 4, .int 4, .int 3]) hb).new (o := .lst [.ref a, .ref b]) hd
      have k2 := ((k1.new (o := .tup [.int 0, .int 0, .int 0, .int 0]) ha).new (o := .tup [.int 2, .int 4, .int 4, .int 3]) hb).new (o := .lst [.ref a, .ref b]) hd
      have ab : a ≠ b := ne_of_none upd_same hb
      have bd : b ≠ d := ne_of_none upd_same hd
      have ad : a ≠ d := ne_of_none (by rw [upd_ne ab, upd_same]) hd
      have ec : c = 0 ∨ c = 1 := by omega
      rcases ec with rfl | rfl
      · refine ⟨_, rfl, d, _, _, .ref a, rfl, rfl, SqL.of upd_same, rfl, k a [0, 0, 0, 0] _ (tup_of (by rw [upd_ne ad, upd_ne ab, upd_same]; rfl)) ⟨0, 0, 0, 0, rfl, by omega, by omega, by omega, by omega⟩ h2 k2⟩
      · refine ⟨_, rfl, d, _, _, .ref b, rfl, rfl, SqL.of upd_same, rfl, k b [2, 4, 4, 3] _ (tup_of (by rw [upd_ne bd, upd_same]; rfl)) ⟨2, 4, 4, 3, rfl, by omega, by omega, by omega, by omega⟩ h2 k2⟩
    · refine ⟨by show 4 ≤ sizeLine; decide, fun a ha => ⟨a, rfl, ⟨_, tup_of upd_same⟩, fun D hD => ?_⟩⟩
      have k2 := k1.new (o := .tup [.int 2, .int 4, .int 4, .int 3]) ha
      have hD1 : H1 D = none := by rw [upd_ne (ne_of_none upd_same hD).symm] at hD; exact hD
      have hD0 : H D = none := k1.free h1 hD1
      have aD : a ≠ D := ne_of_none upd_same hD
      have hp : D ≠ p := (h1.new ha).nep hD
      have hl : D ≠ l := (h1.new ha).nel hD
      refine lc_tup (K := K) (xs := [.int 2, .int 4, .int 4, .int 3]) (fun i H' => ∃ acc : List Int, H' D = some (.lst (acc.map V.int)) ∧ acc.length = i ∧ (∀ (j : Nat) (z m : Int), acc[j]? = some z → [(2 : Int), 4, 4, 3][j]? = some m → 0 ≤ z ∧ z ≤ m) ∧ HAt H' p l ∧ Keep p l H H' ∧ H' a = some (.tup [.int 2, .int 4, .int 4, .int 3]))
        ⟨[], upd_same, rfl, fun j z m e => by simp at e, (h1.new ha).over hp hl, k2.over hD0, by rw [upd_ne aD, upd_same]⟩ (fun i H' _ ⟨_, _, _, _, _, _, q⟩ => tup_of q) ?_ ?_
      · rintro i x H' hx ⟨acc, e1, e2, e3, e4, e5, e6⟩
        obtain ⟨m, hm, rfl, m0, m1⟩ : ∃ m : Int, [(2 : Int), 4, 4, 3][i]? = some m ∧ x = .int m ∧ 0 ≤ m ∧ m < 10 := by
          match i, hx with
          | 0, hx => exact ⟨2, rfl, (Option.some.inj hx).symm, by omega, by omega⟩
          | 1, hx => exact ⟨4, rfl, (Option.some.inj hx).symm, by omega, by omega⟩
          | 2, hx => exact ⟨4, rfl, (Option.some.inj hx).symm, by omega, by omega⟩
          | 3, hx => exact ⟨3, rfl, (Option.some.inj hx).symm, by omega, by omega⟩
        refine ⟨rfl, yes_if ?_⟩
        refine ⟨_, rfl, _, rfl, _, _, rfl, rfl, p, l, m + 1, rfl, e4, by omega, by omega, fun z H3 z0 z1 h3 k3 => ?_⟩
        refine ⟨acc.map V.int, k3 _ _ e1 hp hl, small1000 (by rw [List.length_map]; have := (List.getElem?_eq_some_iff.mp hm).1; simp at this; omega), acc ++ [z], ?_, by rw [List.length_append, e2]; rfl, ?_, h3.over hp hl, (e5.trans k3).over hD0, ?_⟩
        · rw [upd_same, List.map_append]; rfl
        · intro j y m' ey em
          by_cases hj : j < acc.length
          · rw [List.getElem?_append_left hj] at ey
            exact e3 j y m' ey em
          · have hj2 : j = i := by
              have := (List.getElem?_eq_some_iff.mp ey).1
              rw [List.length_append, List.length_singleton] at this
              omega
            subst hj2
            rw [← e2, List.getElem?_concat_length] at ey
            have e8 := Option.some.inj ey
            have e9 := Option.some.inj (em.symm.trans hm)
            omega
        · rw [upd_ne aD]; exact k3 _ _ e6 (h1.nep ha) (h1.nel ha)
      · rintro H' ⟨acc, e1, e2, e3, e4, e5, e6⟩
        refine ⟨D, _, rfl, .inl ⟨SqL.of e1, fun T hT => ?_⟩⟩
        match acc, e2, e3 with
        | [x0, x1, x2, x3], _, e3 =>
          refine k T [x0, x1, x2, x3] _ (tup_of upd_same) ⟨x0, x1, x2, x3, rfl, e3 0 _ _ rfl rfl, e3 1 _ _ rfl rfl, e3 2 _ _ rfl rfl, e3 3 _ _ rfl rfl⟩ (e4.new hT) (e5.new hT)
end
end LB
namespace LB
open PySem L2
section
variable {P : Program} {w : World} {K : PySem.W.Frag} {mg : Str → Option Value} {base : Heap}
/-- which boxes rows use -/
def BxAt (K : PySem.W.Frag) (H : Hp) (e : Addr) : Prop := ∃ c n : Int, SqT K H e [.int c, .int n] ∧ 0 ≤ c ∧ c < 8 ∧ 1 ≤ n ∧ n ≤ 8
def spBoxes (K : PySem.W.Frag) : Sp := fun vs H Q _ => ∃ (p l : Addr), vs = [.ref p] ∧ HAt H p l ∧ ∀ e H', BxAt K H' e → HAt H' p l → Keep p l H H' → Q (.ref e) H'
theorem scBoxes : FnScope ["_law_h"] ["_law_h"] (defScope sBoxes) := ⟨rfl, rfl, rfl, by decide +kernel, rfl, by decide +kernel, by decide +kernel⟩
theorem ok_boxes {f : Addr} {fd : FuncData} (F : Fun K "_law_boxes" "_law_boxes" sBoxes f fd) (N : Cal P w K mg base 1 "_law_next" psN spNext) : FnOk P w K mg base CX0 2 f fd ["_law_h"] (spBoxes K) := by
  refine F.ok scBoxes (fun vs H Q E h => ?_) (fun cdv A outer s H vs Q E hr h => ?_)
  · obtain ⟨p, l, rfl, _⟩ := h
    rfl
  · obtain ⟨p, l, rfl, hH, k⟩ := h
    refine ⟨_, pss_one (ps_ret (pe_tup (pa_cons (pe_cal N hr (pa_cons (pv 0) (pa_cons pe_int pa_nil))) (pa_cons (pe_ix ix_list (pe_lst (pa_cons pe_int (pa_cons pe_int (pa_cons pe_int pa_nil)))) (pe_cal N hr (pa_cons (pv 0) (pa_cons pe_int pa_nil))) (fun _ _ => rfl)) pa_nil)))), ?_⟩
    refine ⟨_, rfl, p, l, 8, rfl, hH, by decide, by decide, fun a H1 a0 a1 h1 k1 => ?_⟩
    refine ⟨by show 3 ≤ sizeLine; decide, fun d hd => ?_⟩
    refine ⟨_, rfl, p, l, 3, rfl, h1.new hd, by decide, by decide, fun c H3 c0 c1 h3 k3 => ?_⟩
    have hd3 : H3 d = some (.lst [.int 2, .int 3, .int 8]) := k3 _ _ upd_same (h1.nep hd) (h1.nel hd)
    have kk : Keep p l H H3 := (k1.new hd).trans k3
    obtain ⟨n, hn, n0, n1⟩ : ∃ n : Int, atI [V.int 2, V.int 3, V.int 8] c = some (.int n) ∧ 1 ≤ n ∧ n ≤ 8 := by
      have ec : c = 0 ∨ c = 1 ∨ c = 2 := by omega
      rcases ec with rfl | rfl | rfl
      · exact ⟨2, rfl, by decide, by decide⟩
      · exact ⟨3, rfl, by decide, by decide⟩
      · exact ⟨8, rfl, by decide, by decide⟩
    refine ⟨d, _, _, _, rfl, rfl, SqL.of hd3, hn, by show 2 ≤ sizeLine; decide, fun t ht => ?_⟩
    exact k t _ ⟨a, n, tup_of upd_same, a0, a1, n0, n1⟩ (h3.new ht) (kk.new ht)
/-- a row that goes nowhere -/
def spDeed (K : PySem.W.Frag) : Sp := fun vs H Q _ => ∃ (p l e : Addr), vs = [.ref p, .ref e] ∧ HAt H p l ∧ BxAt K H e ∧ ∀ v r H', RowAt K H' v r → (∀ many, r.ok many) → r.leaves = false → HAt H' p l → Keep p l H H' → Q v H'
abbrev psD : List Str := ["_law_h", "_law_e"]
abbrev nsDeed : List Str := ["_law_h", "_law_e", "_law_words", "_law_word", "_law_b", "_law_c", "_law_d", "_law_k"]
theorem scDeed : FnScope nsDeed psD (defScope sDeed) := ⟨rfl, rfl, rfl, by decide +kernel, rfl, by decide +kernel, by decide +kernel⟩
abbrev deedWords : List V := [.str "put", .str "put", .str "move", .str "add", .str "add", .str "take", .str "times", .str "times", .str "get", .str "get", .str "set", .str "set", .str "say", .str "say"]
theorem ok_deed {f : Addr} {fd : FuncData} (F : Fun K "_law_deed" "_law_deed" sDeed f fd) (N : Cal P w K mg base 1 "_law_next" psN spNext) (M : Cal P w K mg base 2 "_law_number" ["_law_h"] spNumber) (B : Bl mg) : FnOk P w K mg base CX0 3 f fd psD (spDeed K) := by
  refine F.ok scDeed (fun vs H Q E h => ?_) (fun cdv A outer s H vs Q E hr h => ?_)
  · obtain ⟨p, l, e, rfl, _⟩ := h
    rfl
  · obtain ⟨p, l, e, rfl, hH, hE, k⟩ := h
    have hr1 : Room 1 _ := hr.mono (by decide)
    refine ⟨_, pss_cons (ps_set (i := 2) scDeed.nd rfl (Or.inl rfl) (pe_lst (pa_cons pe_str (pa_cons pe_str (pa_cons pe_str (pa_cons pe_str (pa_cons pe_str (pa_cons pe_str (pa_cons pe_str (pa_cons pe_str (pa_cons pe_str (pa_cons pe_str (pa_cons pe_str (pa_cons pe_str (pa_cons pe_str (pa_cons pe_str pa_nil))))))))))))))))
      (pss_cons (ps_set (i := 3) scDeed.nd rfl (Or.inl rfl) (pe_ix ix_list (pe_op op_cat (pv 2) (pe_lst (pa_cons pe_str pa_nil))) (pe_cal N hr1 (pa_cons (pv 0) (pa_cons pe_int pa_nil))) (fun _ _ => rfl)))
      (pss_cons (ps_asg (pe_lc (own := [("_law_k", 7)]) (g := gName 7) (by rfl) scDeed.nd (pi_range1 (by rfl) B.range (pa_cons pe_int pa_nil)) (blkOk_by (own := [("_law_k", 7)]) (N := nsDeed) (sc := defScope sDeed) (by decide +kernel))
          (fun _ _ _ _ _ => pg_name (i := 7) scDeed.nd rfl (Or.inl rfl)) (fun _ _ _ _ _ => pts_nil) (fun _ _ _ _ _ => pe_op op_mod (pe_op op_add (pe_ix (show IxR _ (rIxT K) from ix_tup) (pv 1) pe_int (fun _ _ => rfl)) (pe_cal N hr1 (pa_cons (pv 0) (pa_cons (pe_ix (show IxR _ (rIxT K) from ix_tup) (pv 1) pe_int (fun _ _ => rfl)) pa_nil)))) pe_int))
          (pg_unl (by rfl) (pgs_cons (pg_name (i := 4) scDeed.nd rfl (Or.inl rfl)) (pgs_cons (pg_name (i := 5) scDeed.nd rfl (Or.inl rfl)) (pgs_cons (pg_name (i := 6) scDeed.nd rfl (Or.inl rfl)) pgs_nil)))))
      (pss_cons (ps_if (pt_cmpR op_in_seq (pv 3) (pe_tup (pa_cons pe_str (pa_cons pe_str (pa_cons pe_str pa_nil)))) (by rfl)) (pss_one (ps_ret (pe_tup (pa_cons (pv 3) (pa_cons (pv 4) (pa_cons (pv 5) (pa_cons (pv 6) pa_nil))))))) pss_nil)
      (pss_one (ps_ret (pe_dget2 (hu_of hr) (pe_disp (pps_cons pe_str (pe_tup (pa_cons (pv 3) (pa_cons (pv 4) (pa_cons (pe_cal M hr (pa_cons (pv 0) pa_nil)) pa_nil)))) (pps_cons pe_str (pe_tup (pa_cons (pv 3) (pa_cons (pv 5) pa_nil))) (pps_cons pe_str (pe_tup (pa_cons (pv 3) pa_nil)) pps_nil))) (by rfl) (by rfl) (fun z => by cases z) (by decide))
          (pv 3) (pe_tup (pa_cons (pv 3) (pa_cons (pv 4) (pa_cons (pv 5) pa_nil)))) ⟨by rfl, by rfl, by rfl, by rfl⟩)))))), ?_⟩
    refine ⟨by show 14 ≤ sizeLine; decide, fun wl hwl => ?_⟩
    have h1 := hH.new (o := .lst deedWords) hwl
    have k1 := (Keep.refl p l H).new (o := .lst deedWords) hwl
    refine ⟨_, rfl, by show 1 ≤ sizeLine; decide, fun rl hrl => ?_⟩
    have h2 := h1.new (o := .lst [.str "rest"]) hrl
    have k2 := k1.new (o := .lst [.str "rest"]) hrl
    have nwr : wl ≠ rl := ne_of_none upd_same hrl
    refine ⟨wl, rl, deedWords, [.str "rest"], rfl, rfl, by rw [upd_ne nwr, upd_same], upd_same, by show 15 ≤ sizeLine; decide, fun cl hcl => ?_⟩
    have h3 := h2.new (o := .lst (deedWords ++ [.str "rest"])) hcl
    have k3 := k2.new (o := .lst (deedWords ++ [.str "rest"])) hcl
    refine ⟨_, rfl, p, l, 15, rfl, h3, by decide, by decide, fun wi H4 w0 w1 h4 k4 => ?_⟩
    have kk4 := k3.trans k4
    have hc4 : H4 cl = some (.lst (deedWords ++ [.str "rest"])) := k4 _ _ upd_same (h2.nep hcl) (h2.nel hcl)
    obtain ⟨wv, hwv, hat⟩ := at15 (a0 := V.str "put") (a1 := V.str "put") (a2 := V.str "move") (a3 := V.str "add") (a4 := V.str "add") (a5 := V.str "take") (a6 := V.str "times") (a7 := V.str "times") (a8 := V.str "get") (a9 := V.str "get") (aa := V.str "set") (ab := V.str "set") (ac := V.str "say") (ad := V.str "say") (ae := V.str "rest") w0 w1
    refine ⟨cl, _, _, wv, rfl, rfl, SqL.of hc4, hat, ?_⟩
    have hE4 : BxAt K H4 e := by
      obtain ⟨c, n, q, h⟩ := hE
      exact ⟨c, n, keep_tup hH kk4 q, h⟩
    -- _law_b, _law_c, _law_d
    refine ⟨3, rfl, by decide, by decide, fun D hD => ?_⟩
    have np := h4.nep hD
    have nl := h4.nel hD
    have hD0 : H D = none := kk4.free h4 hD
    refine lc_range (lo := 0) (n := 3) (fun i H' => Acc p l D H (fun v _ => ∃ z, v = .int z ∧ Bx z) i H') (Acc.start h4 kk4 hD) ?_ ?_
    · intro i H' hi A
      obtain ⟨c, n, q, c0, c1, n0, n1⟩ := hE
      have q' := keep_tup hH A.keep q
      refine ⟨rfl, yes_if ?_⟩
      refine ⟨_, rfl, e, _, _, _, rfl, rfl, q', (rfl : atI [V.int c, V.int n] 0 = some (V.int c)), ?_⟩
      refine ⟨_, rfl, _, rfl, e, _, _, _, rfl, rfl, q', (rfl : atI [V.int c, V.int n] 1 = some (V.int n)), p, l, n, rfl, A.at_, by omega, by omega, fun z H5 z0 z1 h5 k5 => ?_⟩
      refine ⟨_, _, rfl, rfl, _, _, rfl, rfl, (by show (0 : Int) < 8; decide), ?_⟩
      exact A.step fmono_int np nl hD0 (by omega) h5 k5 ⟨_, rfl, le8_of⟩
    intro H5 A
    obtain ⟨acc, e1, e2, e3⟩ := A.ex
    obtain ⟨ns, rfl, e4⟩ := ints_of e3
    have h5 := A.at_
    have k5 := A.keep
    match ns, e2, e4 with
    | [b, c, d], _, e4 =>
    have hb : Bx b := e4 b (by simp)
    have hc : Bx c := e4 c (by simp)
    have hd : Bx d := e4 d (by simp)
    refine ⟨D, _, rfl, SqL.of e1, rfl, ?_⟩
    refine ⟨.int b, [.int c, .int d], rfl, .int c, [.int d], rfl, .int d, [], rfl, rfl, ?_⟩
    have ret : ∀ (t : Addr) (r : Rw) (H6 : Hp), Keep p l H5 H6 → HAt H6 p l → H6 t = none → (∀ many, r.ok many) → r.leaves = false → Q (.ref t) (upd H6 t (.tup r.vals)) := fun t r H6 k6 h6 ht hr hlv => k (.ref t) r _ ⟨t, rfl, tup_of upd_same⟩ hr hlv (h6.new ht) ((k5.trans k6).new ht)
    have hw : (wv = .str "add" ∨ wv = .str "take" ∨ wv = .str "times") ∨ ∃ u : Str, wv = .str u ∧ (u = "put" ∨ u = "say" ∨ u = "rest" ∨ u = "move" ∨ u = "get" ∨ u = "set") := by
      simp only [List.mem_cons, List.not_mem_nil, or_false] at hwv
      rcases hwv with h | h | h | h | h | h | h | h | h | h | h | h | h | h | h
      · exact .inr ⟨_, h, .inl rfl⟩
      · exact .inr ⟨_, h, .inl rfl⟩
      · exact .inr ⟨_, h, .inr (.inr (.inr (.inl rfl)))⟩
      · exact .inl (.inl h)
      · exact .inl (.inl h)
      · exact .inl (.inr (.inl h))
      · exact .inl (.inr (.inr h))
      · exact .inl (.inr (.inr h))
      · exact .inr ⟨_, h, .inr (.inr (.inr (.inr (.inl rfl))))⟩
      · exact .inr ⟨_, h, .inr (.inr (.inr (.inr (.inl rfl))))⟩
      · exact .inr ⟨_, h, .inr (.inr (.inr (.inr (.inr rfl))))⟩
      · exact .inr ⟨_, h, .inr (.inr (.inr (.inr (.inr rfl))))⟩
      · exact .inr ⟨_, h, .inr (.inl rfl)⟩
      · exact .inr ⟨_, h, .inr (.inl rfl)⟩
      · exact .inr ⟨_, h, .inr (.inr (.inl rfl))⟩
    rcases hw with (rfl | rfl | rfl) | ⟨u, rfl, hu⟩
    · refine ⟨_, rfl, by show 3 ≤ sizeLine; decide, fun T hT => ⟨T, _, rfl, .inr (tup_of upd_same), rfl, rfl, _, rfl, if_t (by decide +kernel) ?_⟩⟩
      refine ⟨_, rfl, _, rfl, _, rfl, _, rfl, by show 4 ≤ sizeLine; decide, fun t ht => ?_⟩
      exact ret t (.add b c d) _ ((Keep.refl _ _ _).new hT) (h5.new hT) ht (fun _ => ⟨hb, hc, hd⟩) rfl
    · refine ⟨_, rfl, by show 3 ≤ sizeLine; decide, fun T hT => ⟨T, _, rfl, .inr (tup_of upd_same), rfl, rfl, _, rfl, if_t (by decide +kernel) ?_⟩⟩
      refine ⟨_, rfl, _, rfl, _, rfl, _, rfl, by show 4 ≤ sizeLine; decide, fun t ht => ?_⟩
      exact ret t (.take b c d) _ ((Keep.refl _ _ _).new hT) (h5.new hT) ht (fun _ => ⟨hb, hc, hd⟩) rfl
    · refine ⟨_, rfl, by show 3 ≤ sizeLine; decide, fun T hT => ⟨T, _, rfl, .inr (tup_of upd_same), rfl, rfl, _, rfl, if_t (by decide +kernel) ?_⟩⟩
      refine ⟨_, rfl, _, rfl, _, rfl, _, rfl, by show 4 ≤ sizeLine; decide, fun t ht => ?_⟩
      exact ret t (.times b c d) _ ((Keep.refl _ _ _).new hT) (h5.new hT) ht (fun _ => ⟨hb, hc, hd⟩) rfl
    · have nu : inV (.str u) [.str "add", .str "take", .str "times"] = false := by rcases hu with rfl | rfl | rfl | rfl | rfl | rfl <;> decide +kernel
      refine ⟨_, rfl, by show 3 ≤ sizeLine; decide, fun T hT => ⟨T, _, rfl, .inr (tup_of upd_same), rfl, rfl, _, rfl, if_f nu ?_⟩⟩
      have h6 := h5.new (o := .tup [.str "add", .str "take", .str "times"]) hT
      have k6 := (Keep.refl p l H5).new (o := .tup [.str "add", .str "take", .str "times"]) hT
      intro dd hdd
      have nd1 := h6.nep hdd
      have nd2 := h6.nel hdd
      refine ⟨_, rfl, _, rfl, _, rfl, p, l, rfl, h6.new hdd, fun n H8 n0 n1 h8 k8 => ⟨by show 3 ≤ sizeLine; decide, fun t1 ht1 => ⟨_, rfl, _, rfl, by show 2 ≤ sizeLine; decide, fun t2 ht2 => ⟨_, rfl, by show 1 ≤ sizeLine; decide, fun t3 ht3 => ?_⟩⟩⟩⟩
      have d8 : H8 dd = some (.dK []) := k8 _ _ upd_same nd1 nd2
      have d1 : dd ≠ t1 := ne_of_none d8 ht1
      have d8' : (upd H8 t1 (.tup [.str u, .int b, .int n])) dd = some (.dK []) := by rw [upd_ne d1]; exact d8
      have d2 : dd ≠ t2 := ne_of_none d8' ht2
      have d8'' : (upd (upd H8 t1 (.tup [.str u, .int b, .int n])) t2 (.tup [.str u, .int c])) dd = some (.dK []) := by rw [upd_ne d2]; exact d8'
      have d3 : dd ≠ t3 := ne_of_none d8'' ht3
      have h9 := ((h8.new (o := .tup [.str u, .int b, .int n]) ht1).new (o := .tup [.str u, .int c]) ht2).new (o := .tup [.str u]) ht3
      have k9 : Keep p l H5 _ := ((((k6.new (o := .dK []) hdd).trans k8).new (o := .tup [.str u, .int b, .int n]) ht1).new (o := .tup [.str u, .int c]) ht2).new (o := .tup [.str u]) ht3
      have nt12 : t1 ≠ t2 := ne_of_none upd_same ht2
      have nt23 : t2 ≠ t3 := ne_of_none upd_same ht3
      have nt13 : t1 ≠ t3 := ne_of_none (by rw [upd_ne nt12, upd_same]) ht3
      have hd5 : H5 dd = none := by
        have q := hdd
        rw [upd_ne (ne_of_none upd_same hdd).symm] at q
        exact q
      refine ⟨by rw [upd_ne d3]; exact d8'', [(Sum.inr "put", .ref t1), (Sum.inr "say", .ref t2), (Sum.inr "rest", .ref t3)], rfl, by show 3 ≤ 15; decide, ?_⟩
      refine ⟨dd, rfl, .inl ⟨_, .inl upd_same⟩, _, rfl, _, rfl, _, rfl, _, rfl, by show 3 ≤ sizeLine; decide, fun t4 ht4 => ?_⟩
      have nd4 : dd ≠ t4 := ne_of_none upd_same ht4
      refine ⟨_, DGet.k (k := Sum.inr u) (by rw [upd_ne nd4, upd_same]), ?_⟩
      rw [merge3]
      have fin : ∀ (t : Addr) (r : Rw), upd (upd (upd (upd (upd H8 t1 (.tup [.str u, .int b, .int n])) t2 (.tup [.str u, .int c])) t3 (.tup [.str u])) dd (.dK (mergeK [] [(Sum.inr "put", .ref t1), (Sum.inr "say", .ref t2), (Sum.inr "rest", .ref t3)]))) t4 (.tup [.str u, .int b, .int c]) t = some (.tup r.vals) → (∀ many, r.ok many) → r.leaves = false → _ := fun t r e ho hlv =>
        k (.ref t) r _ ⟨t, rfl, tup_of e⟩ ho hlv ((h9.over (o := .dK (mergeK [] [(Sum.inr "put", .ref t1), (Sum.inr "say", .ref t2), (Sum.inr "rest", .ref t3)])) nd1 nd2).new ht4) ((k5.trans (k9.over hd5)).new ht4)
      have f1 : upd (upd (upd (upd H8 t1 (.tup [.str u, .int b, .int n])) t2 (.tup [.str u, .int c])) t3 (.tup [.str u])) dd (.dK (mergeK [] [(Sum.inr "put", .ref t1), (Sum.inr "say", .ref t2), (Sum.inr "rest", .ref t3)])) t1 = some (.tup [.str u, .int b, .int n]) := by
        rw [upd_ne d1.symm, upd_ne nt13, upd_ne nt12, upd_same]
      have f2 : upd (upd (upd (upd H8 t1 (.tup [.str u, .int b, .int n])) t2 (.tup [.str u, .int c])) t3 (.tup [.str u])) dd (.dK (mergeK [] [(Sum.inr "put", .ref t1), (Sum.inr "say", .ref t2), (Sum.inr "rest", .ref t3)])) t2 = some (.tup [.str u, .int c]) := by
        rw [upd_ne d2.symm, upd_ne nt23, upd_same]
      have f3 : upd (upd (upd (upd H8 t1 (.tup [.str u, .int b, .int n])) t2 (.tup [.str u, .int c])) t3 (.tup [.str u])) dd (.dK (mergeK [] [(Sum.inr "put", .ref t1), (Sum.inr "say", .ref t2), (Sum.inr "rest", .ref t3)])) t3 = some (.tup [.str u]) := by
        rw [upd_ne d3.symm, upd_same]
      rcases hu with rfl | rfl | rfl | rfl | rfl | rfl
      · rw [if_neg (by decide +kernel), if_neg (by decide +kernel), if_pos rfl]
        exact fin t1 (.put b n) (by rw [upd_ne (ne_of_none f1 ht4)]; exact f1) (fun _ => ⟨hb, n0, n1⟩) rfl
      · rw [if_neg (by decide +kernel), if_pos rfl]
        exact fin t2 (.say c) (by rw [upd_ne (ne_of_none f2 ht4)]; exact f2) (fun _ => hc) rfl
      · rw [if_pos rfl]
        exact fin t3 .rest (by rw [upd_ne (ne_of_none f3 ht4)]; exact f3) (fun _ => trivial) rfl
      · rw [if_neg (by decide +kernel), if_neg (by decide +kernel), if_neg (by decide +kernel)]
        exact fin t4 (.move b c) upd_same (fun _ => ⟨hb, hc⟩) rfl
      · rw [if_neg (by decide +kernel), if_neg (by decide +kernel), if_neg (by decide +kernel)]
        exact fin t4 (.get b c) upd_same (fun _ => ⟨hb, hc⟩) rfl
      · rw [if_neg (by decide +kernel), if_neg (by decide +kernel), if_neg (by decide +kernel)]
        exact fin t4 (.set b c) upd_same (fun _ => ⟨hb, hc⟩) rfl
end
end LB
namespace LB
open PySem L2
section
variable {P : Program} {w : World} {K : PySem.W.Frag} {mg : Str → Option Value} {base : Heap}
/-- a row that goes, or stops -/
def spJump (K : PySem.W.Frag) : Sp := fun vs H Q _ => ∃ (p l e : Addr) (at_ rows : Int), vs = [.ref p, .ref e, .int at_, .int rows] ∧ HAt H p l ∧ BxAt K H e ∧ 0 ≤ at_ ∧ at_ < rows ∧ rows ≤ 1000 ∧ ∀ v r H', RowAt K H' v r → r.ok rows → HAt H' p l → Keep p l H H' → Q v H'
abbrev psJ : List Str := ["_law_h", "_law_e", "_law_at", "_law_rows"]
theorem scJump : FnScope ["_law_h", "_law_e", "_law_at", "_law_rows", "_law_goal", "_law_box"] psJ (defScope sJump) := ⟨rfl, rfl, rfl, by decide +kernel, rfl, by decide +kernel, by decide +kernel⟩
theorem ok_jump {f : Addr} {fd : FuncData} (F : Fun K "_law_jump" "_law_jump" sJump f fd) (N : Cal P w K mg base 1 "_law_next" psN spNext) (B : Bl mg) : FnOk P w K mg base CX0 2 f fd psJ (spJump K) := by
  refine F.ok scJump (fun vs H Q E h => ?_) (fun cdv A outer s H vs Q E hr h => ?_)
  · obtain ⟨p, l, e, a, r, rfl, _⟩ := h
    rfl
  · obtain ⟨p, l, e, a, rows, rfl, hH, hE, a0, a1, r1, k⟩ := h
    refine ⟨_, pss_cons (ps_set (i := 4) scJump.nd rfl (Or.inl rfl) (pe_callB (call_min2 rfl) (by rfl) B.min (by decide +kernel) (pa_cons (pe_op op_sub (pv 3) pe_int) (pa_cons (pe_op op_add (pe_op op_add (pv 2) pe_int) (pe_cal N hr (pa_cons (pv 0) (pa_cons (pe_op op_sub (pv 3) (pv 2)) pa_nil)))) pa_nil))))
      (pss_cons (ps_if (pt_cmpR op_eq (pe_cal N hr (pa_cons (pv 0) (pa_cons pe_int pa_nil))) pe_int (nomark _)) (pss_one (ps_set (i := 4) scJump.nd rfl (Or.inl rfl) (pe_cal N hr (pa_cons (pv 0) (pa_cons (pv 3) pa_nil))))) pss_nil)
      (pss_cons (ps_set (i := 5) scJump.nd rfl (Or.inl rfl) (pe_op op_mod (pe_op op_add (pe_ix ix_tup (pv 1) pe_int (fun _ _ => rfl)) (pe_cal N hr (pa_cons (pv 0) (pa_cons (pe_ix ix_tup (pv 1) pe_int (fun _ _ => rfl)) pa_nil)))) pe_int))
      (pss_one (ps_ret (pe_ix ix_list (pe_lst (pa_cons (pe_tup (pa_cons pe_str (pa_cons (pv 4) pa_nil))) (pa_cons (pe_tup (pa_cons pe_str (pa_cons (pv 5) (pa_cons (pv 4) pa_nil)))) (pa_cons (pe_tup (pa_cons pe_str (pa_cons (pv 5) (pa_cons (pv 4) pa_nil)))) (pa_cons (pe_tup (pa_cons pe_str pa_nil)) pa_nil)))))
          (pe_cal N hr (pa_cons (pv 0) (pa_cons pe_int pa_nil))) (fun _ _ => rfl)))))), ?_⟩
    refine ⟨_, rfl, _, _, rfl, rfl, _, rfl, _, _, rfl, rfl, _, rfl, _, rfl, _, rfl, _, _, rfl, rfl, p, l, rows - a, rfl, hH, by omega, by omega, fun n H1 n0 n1 h1 k1 => ?_⟩
    refine ⟨_, _, rfl, rfl, _, _, rfl, ?_⟩
    refine ⟨_, rfl, p, l, 4, rfl, h1, by decide, by decide, fun m H2 m0 m1 h2 k2 => ⟨rfl, _, rfl, ?_⟩⟩
    have kk2 := k1.trans k2
    refine ifs_cut (fun σ' H' => ∃ g : Int, σ' = [some (.ref p), some (.ref e), some (.int a), some (.int rows), some (.int g), none] ∧ 0 ≤ g ∧ g < rows ∧ HAt H' p l ∧ Keep p l H H') (fun _ D' _ k' => ?_) (fun _ D' _ k' => ?_) ?_
    · refine ⟨_, rfl, _, rfl, p, l, rows, rfl, h2, by omega, by omega, fun g H3 g0 g1 h3 k3 => ?_⟩
      exact k' _ _ ⟨g, rfl, g0, g1, h3, kk2.trans k3⟩
    · refine k' _ _ ⟨_, rfl, ?_, ?_, h2, kk2⟩
      · show (0 : Int) ≤ if a + 1 + n < rows - 1 then a + 1 + n else rows - 1
        split <;> omega
      · show (if a + 1 + n < rows - 1 then a + 1 + n else rows - 1) < rows
        split <;> omega
    rintro σ' H3 ⟨g, rfl, g0, g1, h3, k3⟩
    obtain ⟨c, bn, q, c0, c1, b0, b1⟩ := hE
    have q3 := keep_tup hH k3 q
    refine ⟨_, rfl, e, _, _, _, rfl, rfl, q3, (rfl : atI [V.int c, V.int bn] 0 = some (V.int c)), ?_⟩
    refine ⟨_, rfl, _, rfl, e, _, _, _, rfl, rfl, q3, (rfl : atI [V.int c, V.int bn] 1 = some (V.int bn)), p, l, bn, rfl, h3, by omega, by omega, fun z H4 z0 z1 h4 k4 => ?_⟩
    refine ⟨_, _, rfl, rfl, _, _, rfl, rfl, (by show (0 : Int) < 8; decide), ?_⟩
    have hx : Bx ((c + z) % 8) := le8_of
    refine ⟨_, rfl, by show 2 ≤ sizeLine; decide, fun t1 ht1 => ⟨_, rfl, _, rfl, by show 3 ≤ sizeLine; decide, fun t2 ht2 => ⟨_, rfl, _, rfl, by show 3 ≤ sizeLine; decide, fun t3 ht3 => ⟨by show 1 ≤ sizeLine; decide, fun t4 ht4 => ⟨by show 4 ≤ sizeLine; decide, fun d hd => ?_⟩⟩⟩⟩⟩
    have hh := ((((h4.new (o := .tup (Rw.go g).vals) ht1).new (o := .tup (Rw.iff ((c + z) % 8) g).vals) ht2).new (o := .tup (Rw.iff ((c + z) % 8) g).vals) ht3).new (o := .tup Rw.stop.vals) ht4).new (o := .lst [.ref t1, .ref t2, .ref t3, .ref t4]) hd
    have hk := (((((k3.trans k4).new (o := .tup (Rw.go g).vals) ht1).new (o := .tup (Rw.iff ((c + z) % 8) g).vals) ht2).new (o := .tup (Rw.iff ((c + z) % 8) g).vals) ht3).new (o := .tup Rw.stop.vals) ht4).new (o := .lst [.ref t1, .ref t2, .ref t3, .ref t4]) hd
    refine ⟨_, rfl, p, l, 4, rfl, hh, by decide, by decide, fun y H5 y0 y1 h5 k5 => ?_⟩
    have s1 := same_new ht2 (.tup (Rw.iff ((c + z) % 8) g).vals)
    have s2 := s1.trans (same_new ht3 (.tup (Rw.iff ((c + z) % 8) g).vals))
    have s3 := s2.trans (same_new ht4 (.tup Rw.stop.vals))
    have s4 := s3.trans (same_new hd (.lst [.ref t1, .ref t2, .ref t3, .ref t4]))
    have p1 := ((h4.new (o := .tup (Rw.go g).vals) ht1).new (o := .tup (Rw.iff ((c + z) % 8) g).vals) ht2)
    have p2 := p1.new (o := .tup (Rw.iff ((c + z) % 8) g).vals) ht3
    have p3 := p2.new (o := .tup Rw.stop.vals) ht4
    have e1 := k5 t1 _ (s4 _ _ upd_same) (h4.nep ht1) (h4.nel ht1)
    have e2 := k5 t2 _ (((same_new ht3 (.tup (Rw.iff ((c + z) % 8) g).vals)).trans ((same_new ht4 (.tup Rw.stop.vals)).trans (same_new hd (.lst [.ref t1, .ref t2, .ref t3, .ref t4])))) _ _ upd_same) ((h4.new ht1).nep ht2) ((h4.new ht1).nel ht2)
    have e3 := k5 t3 _ (((same_new ht4 (.tup Rw.stop.vals)).trans (same_new hd (.lst [.ref t1, .ref t2, .ref t3, .ref t4]))) _ _ upd_same) (p1.nep ht3) (p1.nel ht3)
    have e4 := k5 t4 _ ((same_new hd (.lst [.ref t1, .ref t2, .ref t3, .ref t4])) _ _ upd_same) (p2.nep ht4) (p2.nel ht4)
    have ed := k5 d _ upd_same (p3.nep hd) (p3.nel hd)
    obtain ⟨v, hv, hat⟩ := at4 (a0 := V.ref t1) (a1 := V.ref t2) (a2 := V.ref t3) (a3 := V.ref t4) y0 y1
    refine ⟨d, _, _, v, rfl, rfl, SqL.of ed, hat, ?_⟩
    rcases hv with rfl | rfl | rfl | rfl
    · exact k _ (.go g) H5 ⟨t1, rfl, tup_of e1⟩ ⟨g0, g1⟩ h5 (hk.trans k5)
    · exact k _ (.iff _ g) H5 ⟨t2, rfl, tup_of e2⟩ ⟨hx, g0, g1⟩ h5 (hk.trans k5)
    · exact k _ (.iff _ g) H5 ⟨t3, rfl, tup_of e3⟩ ⟨hx, g0, g1⟩ h5 (hk.trans k5)
    · exact k _ .stop H5 ⟨t4, rfl, tup_of e4⟩ trivial h5 (hk.trans k5)
/-- a program -/
def spPlain (K : PySem.W.Frag) : Sp := fun vs H Q _ => ∃ (p l : Addr) (most : Int), vs = [.ref p, .int most] ∧ HAt H p l ∧ 0 < most ∧ most ≤ 200 ∧ ∀ (a : Addr) (rs : List Rw) (H' : Hp), ProgAt K H' a rs → 1 ≤ rs.length → rs.length ≤ 200 → (∀ r, r ∈ rs → r.ok rs.length) → HAt H' p l → Keep p l H H' → Q (.ref a) H'
abbrev nsPlain : List Str := ["_law_h", "_law_most", "_law_e", "_law_rows", "_law_often", "_law_at"]
theorem scPlain : FnScope nsPlain ["_law_h", "_law_most"] (defScope sPlain) := ⟨rfl, rfl, rfl, by decide +kernel, rfl, by decide +kernel, by decide +kernel⟩
theorem rows_of {K : PySem.W.Frag} {H : Hp} {F : Rw → Prop} : ∀ {acc : List V}, (∀ v, v ∈ acc → ∃ r, RowAt K H v r ∧ F r) → ∃ rs : List Rw, acc.length = rs.length ∧ (∀ (i : Nat) (r : Rw), rs[i]? = some r → ∃ v, acc[i]? = some v ∧ RowAt K H v r) ∧ ∀ r, r ∈ rs → F r
  | [], _ => ⟨[], rfl, fun i r h => by simp at h, fun r h => by cases h⟩
  | v :: t, h => by
    obtain ⟨r, hr, hf⟩ := h v (List.mem_cons_self ..)
    obtain ⟨rs, e1, e2, e3⟩ := rows_of (acc := t) fun x hx => h x (List.mem_cons_of_mem _ hx)
    refine ⟨r :: rs, by simp [e1], fun i q hq => ?_, fun q hq => ?_⟩
    · cases i with
      | zero => exact ⟨v, rfl, by rw [← Option.some.inj hq]; exact hr⟩
      | succ i => exact e2 i q hq
    · rcases List.mem_cons.mp hq with z | z
      · rw [z]; exact hf
      · exact e3 q z
theorem fmono_row {p l D : Addr} {F : Rw → Prop} : Fmono p l D fun v H => ∃ r, RowAt K H v r ∧ F r := fun v Ha Hb hh hD s ⟨r, q, f⟩ => ⟨r, kp3_row hh hD s q, f⟩
theorem ok_plain {f : Addr} {fd : FuncData} (F : Fun K "_law_plain" "_law_plain" sPlain f fd) (N : Cal P w K mg base 1 "_law_next" psN spNext) (X : Cal P w K mg base 2 "_law_boxes" ["_law_h"] (spBoxes K)) (D : Cal P w K mg base 3 "_law_deed" psD (spDeed K)) (J : Cal P w K mg base 2 "_law_jump" psJ (spJump K)) (B : Bl mg) : FnOk P w K mg base CX0 4 f fd ["_law_h", "_law_most"] (spPlain K) := by
  refine F.ok scPlain (fun vs H Q E h => ?_) (fun cdv A outer s H vs Q E hr h => ?_)
  · obtain ⟨p, l, m, rfl, _⟩ := h
    rfl
  · obtain ⟨p, l, most, rfl, hH, m0, m1, k⟩ := h
    have hr1 : Room 1 _ := hr.mono (by decide)
    have hr2 : Room 2 _ := hr.mono (by decide)
    refine ⟨_, pss_cons (ps_set (i := 2) scPlain.nd rfl (Or.inr rfl) (pe_cal X hr2 (pa_cons (pv 0) pa_nil)))
      (pss_cons (ps_set (i := 3) scPlain.nd rfl (Or.inr rfl) (pe_op op_add pe_int (pe_cal N hr1 (pa_cons (pv 0) (pa_cons (pv 1) pa_nil)))))
      (pss_cons (ps_set (i := 4) scPlain.nd rfl (Or.inr rfl) (pe_ix ix_list (pe_lst (pa_cons pe_int (pa_cons pe_int (pa_cons pe_int pa_nil)))) (pe_cal N hr1 (pa_cons (pv 0) (pa_cons pe_int pa_nil))) (fun _ _ => rfl)))
      (pss_one (ps_ret (pe_callTy call_tuple_of (by rfl) B.tuple (by decide +kernel) (pa_cons
        (pe_lc (own := [("_law_at", 5)]) (g := gName 5) (by rfl) scPlain.nd (pi_range1 (by rfl) B.range (pa_cons (pv 3) pa_nil)) (blkOk_by (own := [("_law_at", 5)]) (N := nsPlain) (sc := defScope sPlain) (by decide +kernel))
          (fun _ _ _ _ _ => pg_name (i := 5) scPlain.nd rfl (Or.inl rfl)) (fun _ _ _ _ _ => pts_nil)
          (fun _ _ _ _ _ => pe_ifExp (pt_cmpR op_eq (pe_cal N hr1 (pa_cons (pv 0) (pa_cons (pv 4) pa_nil))) pe_int (nomark _)) (pe_cal J hr2 (pa_cons (pv 0) (pa_cons (pv 2) (pa_cons (pv 5) (pa_cons (pv 3) pa_nil))))) (pe_cal D hr (pa_cons (pv 0) (pa_cons (pv 2) pa_nil))))) pa_nil)))))), ?_⟩
    refine ⟨_, rfl, p, l, rfl, hH, fun e H1 hE h1 k1 => ?_⟩
    refine ⟨_, rfl, _, rfl, p, l, most, rfl, h1, m0, by omega, fun n H2 n0 n1 h2 k2 => ⟨_, _, rfl, rfl, ?_⟩⟩
    refine ⟨by show 3 ≤ sizeLine; decide, fun d hd => ⟨_, rfl, p, l, 3, rfl, h2.new hd, by decide, by decide, fun c H3 c0 c1 h3 k3 => ?_⟩⟩
    have hd3 : H3 d = some (.lst [.int 3, .int 5, .int 12]) := k3 _ _ upd_same (h2.nep hd) (h2.nel hd)
    obtain ⟨v, hv, hat⟩ := at3 (a0 := V.int 3) (a1 := V.int 5) (a2 := V.int 12) c0 c1
    obtain ⟨o, rfl, o0, o1⟩ : ∃ o : Int, v = .int o ∧ 0 < o ∧ o < 100 := by
      rcases hv with rfl | rfl | rfl
      · exact ⟨3, rfl, by decide, by decide⟩
      · exact ⟨5, rfl, by decide, by decide⟩
      · exact ⟨12, rfl, by decide, by decide⟩
    refine ⟨d, _, _, _, rfl, rfl, SqL.of hd3, hat, ?_⟩
    have kE : Keep p l H1 H3 := (k2.new hd).trans k3
    have kk : Keep p l H H3 := k1.trans kE
    refine ⟨_, rfl, 1 + n, rfl, by omega, by omega, fun C hC => ?_⟩
    have np := h3.nep hC
    have nl := h3.nel hC
    have hC0 : H C = none := kk.free h3 hC
    have hC1 : H1 C = none := kE.free h3 hC
    refine lc_range (lo := 0) (n := (1 + n).toNat) (fun i H' => Acc p l C H (fun v H' => ∃ r, RowAt K H' v r ∧ r.ok (1 + n)) i H' ∧ Keep p l H1 H') ⟨Acc.start h3 kk hC, kE.new hC⟩ ?_ ?_
    · rintro i H' hi ⟨A, kA⟩
      refine ⟨rfl, yes_if ?_⟩
      refine ⟨_, rfl, _, rfl, p, l, o, rfl, A.at_, by omega, by omega, fun z H4 z0 z1 h4 k4 => ⟨rfl, _, rfl, ?_⟩⟩
      have hE4 : BxAt K H4 e := by
        obtain ⟨c, n, q, h⟩ := hE
        exact ⟨c, n, keep_tup h1 (kA.trans k4) q, h⟩
      refine if_both (fun _ => ?_) (fun _ => ?_)
      · refine ⟨_, rfl, _, rfl, _, rfl, _, rfl, p, l, e, _, 1 + n, rfl, h4, hE4, by omega, by omega, by omega, fun v r H5 hv hr h5 k5 => ?_⟩
        obtain ⟨acc, a1, a2, a3⟩ := A.step fmono_row np nl hC0 (by omega) h5 (k4.trans k5) ⟨r, hv, hr⟩
        exact ⟨acc, a1, a2, a3, (kA.trans (k4.trans k5)).over hC1⟩
      · refine ⟨_, rfl, _, rfl, p, l, e, rfl, h4, hE4, fun v r H5 hv hr _ h5 k5 => ?_⟩
        obtain ⟨acc, a1, a2, a3⟩ := A.step fmono_row np nl hC0 (by omega) h5 (k4.trans k5) ⟨r, hv, hr _⟩
        exact ⟨acc, a1, a2, a3, (kA.trans (k4.trans k5)).over hC1⟩
    · rintro H' ⟨A, _⟩
      obtain ⟨acc, e1, e2, e3⟩ := A.ex
      obtain ⟨rs, f1, f2, f3⟩ := rows_of e3
      refine ⟨C, _, rfl, .inl ⟨SqL.of e1, fun T hT => ?_⟩⟩
      have el : (rs.length : Int) = 1 + n := by omega
      refine k T rs _ ⟨acc, tup_of upd_same, f1, fun i r hi => ?_⟩ (by omega) (by omega) (fun r hm => by rw [el]; exact f3 r hm) (A.at_.new hT) (A.keep.new hT)
      obtain ⟨v, g1, a, g2, g3⟩ := f2 i r hi
      exact ⟨v, g1, a, g2, same_tup (same_new hT _) g3⟩
end
end LB
/-! enumerate(a tuple), zip(a text, a tuple): what is walked, and that a loop may walk it. Own text, over the library's draws. -/
namespace LB
open PySem PySem.Spec PyProof.Rows L2
/-- the tuple at a, each item with its number in a new pair -/
def ItET (K : PySem.W.Frag) (a : Addr) : It where
  go i H := ∃ (xs : List V) (x : V), SqT K H a xs ∧ xs[i]? = some x
  yld i H v H' := ∃ (T : Addr) (x : V), v = .ref T ∧ H T = none ∧ H' = upd H T (.tup [.int (i : Nat), x]) ∧ ∀ xs, SqT K H a xs → xs[i]? = some x
  stop i H := ∃ xs : List V, SqT K H a xs ∧ i = xs.length
/-- a text's signs and the items of the tuple at b -/
def ItST (K : PySem.W.Frag) (z : Str) (b : Addr) : It where
  go i H := ∃ (ys : List V) (y : V), SqT K H b ys ∧ ys[i]? = some y ∧ i < z.cps.size
  yld i H v H' := ∃ (T : Addr) (c : Nat) (y : V), v = .ref T ∧ H T = none ∧ H' = upd H T (.tup [.str ⟨#[c]⟩, y]) ∧ z.cps[i]? = some c ∧ ∀ ys, SqT K H b ys → ys[i]? = some y
  stop i H := ∃ ys : List V, SqT K H b ys ∧ i = z.cps.size ∧ i = ys.length
section
variable {P : Program} {w : World} {K : PySem.W.Frag}
theorem turnET {elts : List Expr} {kk : Nat} {tpos : Pos} (a e it : Addr) : Turn P w K (.Tuple elts kk tpos) (ItET K a) [e, it] e (fun i h => (∃ old, IsEnum h e it ((i : Nat) : Int) old) ∧ h.IsTupleIter it a i ∧ e ≠ it) := by
  refine ⟨by simp, ?_, ?_, ?_, ?_, ?_⟩
  · rintro i h ⟨⟨old, he⟩, ⟨o, ho, hc, hd⟩, _⟩ b hb
    rcases (by simpa using hb : b = e ∨ b = it) with rfl | rfl
    · exact ⟨_, he, fun v q => by cases q⟩
    · exact ⟨o, ho, fun v q => by rw [hd] at q; cases q⟩
  · rintro i h h' ⟨⟨old, he⟩, hi, hne⟩ k
    exact ⟨⟨old, k e (by simp) _ he⟩, hi.at fun o q => k it (by simp) o q, hne⟩
  · intro X hP hw hK hc i pins s σ H E I hf st hg
    subst hP hw hK
    obtain ⟨⟨old, he⟩, hit, hne⟩ := st
    obtain ⟨xs, x, hq, hx⟩ := hg
    obtain ⟨its, rv, p, hz⟩ := I.tuple hq
    obtain ⟨u, hu, ru⟩ := rv.get hx
    have hel := Heap.lt_size he
    have hil : it < s.heap.objs.size := by obtain ⟨_, q, _⟩ := hit; exact Heap.lt_size q
    have hat : a ≠ it := fun q => by
      obtain ⟨o1, e1, c1, _⟩ := id p
      obtain ⟨o2, e2, c2, _⟩ := hit
      rw [q, e2] at e1
      cases e1
      rw [c2] at c1
      injection c1 with c1
      exact absurd c1 (by decide)
    have hae : a ≠ e := fun q => by
      obtain ⟨o1, e1, c1, _⟩ := id p
      rw [q, he] at e1
      cases e1
      injection c1 with c1
      exact absurd c1 (by decide)
    have ult : i < its.toArray.size := by
      have := (List.getElem?_eq_some_iff.mp hu).1
      simpa using this
    refine wpAny_pyNext_enum_itemD (Draws.tuple (A := X.A.in1) (show X.A.in1.handled = none from I.ok.hd hc) it a hat its.toArray) he ⟨hit, p⟩ ult hne (by simp [hne, hae.symm]) fun x1 h' tk hp1 ho st' hT hsz hk => ?_
    have ex : x1 = u := by
      have q : its.toArray[i]? = some u := by simpa using hu
      exact Option.some.inj (hp1.symm.trans q)
    subst ex
    refine ⟨_, rfl, wpAny_letOwnedTupleGo_enum ho fun h'' he' sb => ?_⟩
    have hT2 := (sb.2 _ (Nat.ne_of_gt hel)).trans hT
    have new : ObjOk X.prog X.w (upd H s.heap.objs.size (.tup [.int (i : Nat), x])) h'' s.heap.objs.size (.tup [.int (i : Nat), x]) := by
      refine ⟨by show 2 ≤ sizeLine; decide, [.int i tk, x1], .cons ⟨_, rfl⟩ (.cons ru .nil), ⟨_, hT2, rfl, _, rfl⟩⟩
    have I1 : Inv X pins σ (upd H s.heap.objs.size (.tup [.int (i : Nat), x])) { s with heap := h'', toks := tk + 1 } := by
      refine I.turnedNew (ch := [e, it]) (fun b ob hb q => ?_) hf (Nat.le_refl _) new
      have n1 : b ≠ e := fun z => hb (by simp [z])
      have n2 : b ≠ it := fun z => hb (by simp [z])
      exact (sb.2 b n1).trans (hk b ob n1 n2 q)
    refine ⟨.ref s.heap.objs.size, _, I1, rfl, ⟨_, x, rfl, I.hok.fresh (Nat.le_refl _), rfl, fun ys hy => ?_⟩, ⟨⟨x1, ?_⟩, ?_, hne⟩, fun b hb => ?_⟩
    · rw [I.tuple_inj hy hq]
      exact hx
    · have e1 : ((i + 1 : Nat) : Int) = (i : Int) + 1 := by omega
      rw [e1]
      exact he'
    · exact st'.1.at fun o q => (sb.2 it hne.symm).trans q
    · have hb' : b < s.heap.objs.size := by
        rcases (by simpa using hb : b = e ∨ b = it) with rfl | rfl
        · exact hel
        · exact hil
      rw [upd_ne (Nat.ne_of_lt hb')]
      exact (hf b hb).1
  · intro X hP hw hK hc i pins s σ H E I hf st hg
    subst hP hw hK
    obtain ⟨⟨old, he⟩, hit, hne⟩ := st
    obtain ⟨xs, hq, hx⟩ := hg
    obtain ⟨its, rv, p, hz⟩ := I.tuple hq
    have hat : a ≠ it := fun q => by
      obtain ⟨o1, e1, c1, _⟩ := id p
      obtain ⟨o2, e2, c2, _⟩ := hit
      rw [q, e2] at e1
      cases e1
      rw [c2] at c1
      injection c1 with c1
      exact absurd c1 (by decide)
    have es : its.toArray.size = i := by
      have := rv.length
      simp
      omega
    refine wpAny_pyNext_enum_endD (Draws.tuple (A := X.A.in1) (show X.A.in1.handled = none from I.ok.hd hc) it a hat its.toArray) he (by rw [es]; exact ⟨hit, p⟩) fun h' eb => ⟨rfl, ?_⟩
    refine I.turnedL (t' := s.toks) (ch := [e, it]) (fun b ob hb q => eb b ob (fun z => hb (by simp [z])) q) hf
  · rintro A i s Q E ⟨⟨old, he⟩, _⟩ h
    exact wpAny_pyIter_enum he h
/-- enumerate(v) of anything whose iterator begins as a new object -/
theorem meets_enum1 {v : Value} {o : Obj} {H : Heap → Prop} (B : Begins v o H) :
    Meets (Builtin.«enumerate.__new__» ⟨[.type "enumerate", v], []⟩) (fun _ R s => H s.heap ∧
      R (.ok (.ret (.ref (s.heap.push o).objs.size))) { s with heap := (s.heap.push o).push { cls := .type "enumerate", data := .fields #[.none, .bool false, .ref s.heap.objs.size, rawInt 0, .none, .none] } }) :=
  .of_wp fun prog w A R s hh => by
    obtain ⟨hp, g, dd, tk, os⟩ := s
    obtain ⟨hb, hfin⟩ := hh
    have isub := sub_enumerate
    have beg : ∀ {A1 : Around} {E1 : Value → Shared → Prop} {Q1 : Value → Shared → Prop}, Q1 (.ref hp.objs.size) ⟨hp.push o, g, dd, tk, os⟩ → wpAny (model prog w) A1 (pyIter v) Q1 E1 ⟨hp, g, dd, tk, os⟩ := by
      intro A1 E1 Q1 q
      exact B.iter prog w A1 E1 ⟨hp, g, dd, tk, os⟩ Q1 hb q
    wp_walk using beg
    refine wpAny_stack_any fun frames => wpAny_pure ?_
    split
    · rename_i c _ _ _ _ _
      cases (c == Value.type "enumerate")
      · wp_walk using beg
        exact ⟨_, rfl, hfin⟩
      · wp_walk using beg
        exact ⟨_, rfl, hfin⟩
    · wp_walk using beg
      exact ⟨_, rfl, hfin⟩
theorem call_enum1 {A : Around} {E : Value → Shared → Prop} {s : Shared} {v : Value} {o : Obj} {H : Heap → Prop} {Q : Value → Shared → Prop} (B : Begins v o H) (h1 : H s.heap)
    (h : ∀ h', IsEnum h' (s.heap.objs.size + 1) s.heap.objs.size 0 .none → h'.get? s.heap.objs.size = some o → (∀ b u, s.heap.get? b = some u → h'.get? b = some u) → Q (.ref (s.heap.objs.size + 1)) { s with heap := h' }) :
    wpAny (model P w) A (call (.type "enumerate") [v]) Q E s := by
  refine callType_new F.called_enumerate (by decide) (F.typeCall_enumerate_1 _) (F.newCall_enumerate_1 _) (fun obj => F.args_object_init_2 obj _) F.entry_enumerate_new (meets_enum1 B) ⟨h1, ?_⟩
  have z1 : (s.heap.push o).objs.size = s.heap.objs.size + 1 := Heap.size_push ..
  show _ ∧ _
  rw [z1]
  have ie : IsEnum ((s.heap.push o).push { cls := .type "enumerate", data := .fields #[.none, .bool false, .ref s.heap.objs.size, rawInt 0, .none, .none] }) (s.heap.objs.size + 1) s.heap.objs.size 0 .none := by
    have q := Heap.get?_push_size (s.heap.push o) (o := { cls := .type "enumerate", data := .fields #[.none, .bool false, .ref s.heap.objs.size, rawInt 0, .none, .none] }) rfl
    rw [z1] at q
    exact q
  exact ⟨⟨_, ie, rfl⟩, h _ ie (Heap.get?_push_of_some _ (Heap.get?_push_size _ B.free)) fun b u x => Heap.get?_push_of_some _ (Heap.get?_push_of_some _ x)⟩
def iEnumT (K : PySem.W.Frag) (ta : TA) : TI := fun σ H R => ta σ H fun vs H1 => ∃ a xs, vs = [.ref a] ∧ SqT K H1 a xs ∧ R (ItET K a) H1
theorem pi_enumT {X : Cx} {e : Expr} {ta : TA} {p pos tpos : Pos} {elts : List Expr} {kk : Nat} (hg : Gl X "enumerate") (hm : X.mg "enumerate" = none) (ha : PA X [e] ta) (hs : starEach [e] X.env = [(false, eval e X.env)] := by rfl) :
    PI X (.Tuple elts kk tpos) (.Call (.Name "enumerate" p) [e] [] pos) (iEnumT X.K ta) := by
  refine ⟨fun pins s σ H R I h => ?_⟩
  refine Call_ (ld_blt I hg hm boot_enumerate (PyProof.Rows.callWith_type1 (thn (ha.run pos pins s σ H _ I h) fun us s1 ⟨vs, H1, I1, r1, q1⟩ => ?_) hs rfl))
  obtain ⟨a, xs, ex, hq, q⟩ := q1
  subst ex
  cases r1 with
  | cons r rr =>
    cases rr
    cases r
    obtain ⟨its, rv, p', hz⟩ := I1.tuple hq
    refine call_enum1 (begins_tuple a its.toArray) p' fun h' he hit hk => wpAny_pyIter_enum he ?_
    have I2 : Inv X pins σ H1 { s1 with heap := h' } := I1.kept (t' := s1.toks) hk
    refine ⟨s1.heap.objs.size + 1, [s1.heap.objs.size + 1, s1.heap.objs.size], _, _, H1, rfl, I2, turnET a (s1.heap.objs.size + 1) s1.heap.objs.size, ⟨⟨.none, he⟩, ⟨_, hit, rfl, rfl⟩, Nat.succ_ne_self _⟩, fun b hb => ?_, q⟩
    have hle : s1.heap.objs.size ≤ b := by
      rcases (by simpa using hb : b = s1.heap.objs.size + 1 ∨ b = s1.heap.objs.size) with z | z
      · rw [z]; exact Nat.le_succ _
      · rw [z]; exact Nat.le_refl _
    exact I1.fpOk hle (I1.hok.fresh hle)
/-- a for over it -/
theorem walkET {K : PySem.W.Frag} {a : Addr} {xs : List V} : Walk (ItET K a) xs.length (fun H => SqT K H a xs) (YPair (fun i => some (.int (i : Nat))) (fun i => xs[i]?)) := by
  refine ⟨fun i _ hi q => ⟨xs, xs[i], q, by simp [hi]⟩, fun _ q => ⟨xs, q, rfl⟩, fun i H v H' _ q y => ?_⟩
  obtain ⟨T, x, h1, h2, h3, h4⟩ := y
  exact ⟨T, .int (i : Nat), x, h1, h2, h3, rfl, h4 xs q⟩
/-! ### zip(a text, a tuple) -/
abbrev tnST (x : Str) (b z TI TO i1 i2 : Addr) (i : Nat) (h : Heap) : Prop :=
  IsZip h z TI TO .none ∧ IsTupOf2 h TI (.ref i1) (.ref i2) ∧ (∃ a1 a2, IsTupOf2 h TO a1 a2) ∧ (∃ t, h.IsStrIter i1 (strIterType x) x t i) ∧ h.IsTupleIter i2 b i
theorem turnST {elts : List Expr} {kk : Nat} {tpos : Pos} {x : Str} {b z TI TO i1 i2 : Addr} (S : ZipSep2 z TI TO i1 i2 [i1] [i2, b]) (hb2 : b ≠ i2) : Turn P w K (.Tuple elts kk tpos) (ItST K x b) [z, TI, TO, i1, i2] z (tnST x b z TI TO i1 i2) := by
  have five : ∀ c, c ∈ [z, TI, TO, i1, i2] → c = z ∨ c = TI ∨ c = TO ∨ c = i1 ∨ c = i2 := fun c hc => by simpa using hc
  refine ⟨by simp, ?_, ?_, ?_, ?_, ?_⟩
  · rintro i h ⟨hz, hTI, ⟨a1, a2, hTO⟩, ⟨t, o1, e1, _, d1⟩, ⟨o2, e2, _, d2⟩⟩ c hc
    rcases five c hc with rfl | rfl | rfl | rfl | rfl
    · exact ⟨_, hz, fun v q => by cases q⟩
    · exact ⟨_, hTI, fun v q => by cases q⟩
    · exact ⟨_, hTO, fun v q => by cases q⟩
    · exact ⟨o1, e1, fun v q => by rw [d1] at q; cases q⟩
    · exact ⟨o2, e2, fun v q => by rw [d2] at q; cases q⟩
  · rintro i h h' ⟨hz, hTI, ⟨a1, a2, hTO⟩, ⟨t, o1, e1, r1⟩, h2⟩ k
    exact ⟨k z (by simp) _ hz, k TI (by simp) _ hTI, ⟨a1, a2, k TO (by simp) _ hTO⟩, ⟨t, o1, k i1 (by simp) _ e1, r1⟩, h2.at fun o q => k i2 (by simp) o q⟩
  · intro X hP hw hK hc i pins s σ H E I hf st hg
    subst hP hw hK
    obtain ⟨hz, hTI, ⟨a1, a2, hTO⟩, ⟨t, h1⟩, h2⟩ := st
    obtain ⟨ys, y, hq, hy, hi⟩ := hg
    obtain ⟨its, rv, p, hzz⟩ := I.tuple hq
    obtain ⟨u, hu, ru⟩ := rv.get hy
    have ult : i < its.toArray.size := by
      have := (List.getElem?_eq_some_iff.mp hu).1
      simpa using this
    have hzl := Heap.lt_size hz
    refine wpAny_pyNext_zipD2_item S (Draws.text (A := X.A.in1) (show X.A.in1.handled = none from I.ok.hd hc) i1 x t) (Draws.tuple (A := X.A.in1) (show X.A.in1.handled = none from I.ok.hd hc) i2 b hb2 its.toArray) hz hTI hTO h1 ⟨h2, p⟩ hi ult fun x1 x2 h' tk hp1 hp2 ho hTO' st1 st2 hT hsz hk => ?_
    obtain ⟨c, tc, hcx, rfl⟩ := hp1
    have ex : x2 = u := by
      have q : its.toArray[i]? = some u := by simpa using hu
      exact Option.some.inj (hp2.symm.trans q)
    subst ex
    refine ⟨_, rfl, wpAny_letOwnedTupleGo_zip (s := { s with heap := h', toks := tk }) ho fun h'' hz'' sb => ?_⟩
    have hT2 := (sb.2 _ (Nat.ne_of_gt hzl)).trans hT
    have new : ObjOk X.prog X.w (upd H s.heap.objs.size (.tup [.str ⟨#[c]⟩, y])) h'' s.heap.objs.size (.tup [.str ⟨#[c]⟩, y]) := by
      refine ⟨by show 2 ≤ sizeLine; decide, [.str ⟨#[c]⟩ tc, x2], .cons ⟨_, rfl⟩ (.cons ru .nil), ⟨_, hT2, rfl, _, rfl⟩⟩
    have I1 : Inv X pins σ (upd H s.heap.objs.size (.tup [.str ⟨#[c]⟩, y])) { s with heap := h'', toks := tk } := by
      refine I.turnedNew (ch := [z, TI, TO, i1, i2]) (fun d ob hd q => ?_) hf (Nat.le_refl _) new
      have n1 : d ≠ z := fun q => hd (by simp [q])
      have n2 : d ≠ TO := fun q => hd (by simp [q])
      have n3 : d ≠ i1 := fun q => hd (by simp [q])
      have n4 : d ≠ i2 := fun q => hd (by simp [q])
      exact (sb.2 d n1).trans (hk d ob n1 n2 n3 n4 q)
    refine ⟨.ref s.heap.objs.size, _, I1, rfl, ⟨_, c, y, rfl, I.hok.fresh (Nat.le_refl _), rfl, hcx, fun vs hv => ?_⟩, ⟨hz'', ?_, ⟨.str ⟨#[c]⟩ tc, x2, ?_⟩, ⟨t, ?_⟩, ?_⟩, fun d hd => ?_⟩
    · rw [I.tuple_inj hv hq]
      exact hy
    · exact (sb.2 _ S.TIz).trans (hk _ _ S.TIz S.TITO S.TIi1 S.TIi2 hTI)
    · exact (sb.2 _ S.TOz).trans hTO'
    · obtain ⟨o1, e1, r1⟩ := st1
      exact ⟨o1, (sb.2 _ S.zi1.symm).trans e1, r1⟩
    · exact st2.1.at fun o q => (sb.2 _ S.zi2.symm).trans q
    · have hlt : d < s.heap.objs.size := by
        rcases five d hd with rfl | rfl | rfl | rfl | rfl
        · exact hzl
        · exact Heap.lt_size hTI
        · exact Heap.lt_size hTO
        · obtain ⟨_, q, _⟩ := h1; exact Heap.lt_size q
        · obtain ⟨_, q, _⟩ := h2; exact Heap.lt_size q
      rw [upd_ne (Nat.ne_of_lt hlt)]
      exact (hf d hd).1
  · intro X hP hw hK hc i pins s σ H E I hf st hg
    subst hP hw hK
    obtain ⟨hz, hTI, ⟨a1, a2, hTO⟩, ⟨t, h1⟩, h2⟩ := st
    obtain ⟨ys, hq, ei, ey⟩ := hg
    obtain ⟨its, rv, p, hzz⟩ := I.tuple hq
    have es : i = its.toArray.size := by
      have := rv.length
      simp
      omega
    refine wpAny_pyNext_zipD2_end S (Draws.text (A := X.A.in1) (show X.A.in1.handled = none from I.ok.hd hc) i1 x t) (Draws.tuple (A := X.A.in1) (show X.A.in1.handled = none from I.ok.hd hc) i2 b hb2 its.toArray) hz hTI hTO h1 ⟨h2, p⟩ (Nat.le_of_eq ei) (Nat.le_of_eq es) (.inl ei) fun h' tk hk => ⟨rfl, ?_⟩
    refine I.turnedL (t' := tk) (ch := [z, TI, TO, i1, i2]) (fun d ob hd q => ?_) hf
    exact hk d ob (fun q => hd (by simp [q])) (fun q => hd (by simp [q])) (fun q => hd (by simp [q])) (fun q => hd (by simp [q])) q
  · rintro A i s Q E ⟨hz, _⟩ h
    exact wpAny_pyIter_zip hz h
def iZipST (K : PySem.W.Frag) (ta : TA) : TI := fun σ H R => ta σ H fun vs H1 => ∃ x b ys, vs = [.str x, .ref b] ∧ SqT K H1 b ys ∧ R (ItST K x b) H1
theorem pi_zipST {X : Cx} {e e2 : Expr} {ta : TA} {p pos tpos : Pos} {elts : List Expr} {kk : Nat} (hg : Gl X "zip") (hm : X.mg "zip" = none) (ha : PA X [e, e2] ta)
    (hs : starEach [e, e2] X.env = (false, eval e X.env) :: starEach [e2] X.env := by rfl) (hpl : (backTo pos (starEach [e2] X.env)).any (·.1) = false := by rfl) :
    PI X (.Tuple elts kk tpos) (.Call (.Name "zip" p) [e, e2] [] pos) (iZipST X.K ta) := by
  refine ⟨fun pins s σ H R I h => ?_⟩
  refine Call_ (ld_blt I hg hm PyProof.Rows.boot_zip (PyProof.Rows.callWith_type1 (thn (ha.run pos pins s σ H _ I h) fun us s1 ⟨vs, H1, I1, r1, q1⟩ => ?_) hs hpl))
  obtain ⟨x, b, ys, ex, hq, q⟩ := q1
  subst ex
  cases r1 with
  | cons r rr =>
    cases rr with
    | cons r' rr =>
      cases rr
      cases r'
      obtain ⟨t, rfl⟩ := r
      obtain ⟨its, rv, p', hz⟩ := I1.tuple hq
      refine zip_begins2 (begins_text x t) (begins_tuple b its.toArray) trivial p' fun h' hz hTI hTO h1 h2 hsz hk => wpAny_pyIter_zip hz ?_
      have I2 : Inv X pins σ H1 { s1 with heap := h' } := I1.kept (t' := s1.toks) hk
      have hbl : b < s1.heap.objs.size := by obtain ⟨_, q, _⟩ := p'; exact Heap.lt_size q
      refine ⟨s1.heap.objs.size + 4, [s1.heap.objs.size + 4, s1.heap.objs.size + 2, s1.heap.objs.size + 3, s1.heap.objs.size, s1.heap.objs.size + 1], _, _, H1, rfl, I2,
        turnST (zip_sep2 (fp1 := []) (fp2 := [b]) (by simp) (by simpa using hbl)) (Nat.ne_of_lt (Nat.lt_succ_of_lt hbl)), ⟨hz, hTI, ⟨_, _, hTO⟩, ⟨t, _, h1, rfl, rfl⟩, ⟨_, h2, rfl, rfl⟩⟩, fun c hc => ?_, q⟩
      have hle : s1.heap.objs.size ≤ c := by
        rcases (by simpa using hc : c = s1.heap.objs.size + 4 ∨ c = s1.heap.objs.size + 2 ∨ c = s1.heap.objs.size + 3 ∨ c = s1.heap.objs.size ∨ c = s1.heap.objs.size + 1) with z | z | z | z | z <;> rw [z]
        · exact Nat.le_add_right _ _
        · exact Nat.le_add_right _ _
        · exact Nat.le_add_right _ _
        · exact Nat.le_refl _
        · exact Nat.le_add_right _ _
      exact I1.fpOk hle (I1.hok.fresh hle)
theorem walkST {K : PySem.W.Frag} {x : Str} {b : Addr} {ys : List V} (hn : x.cps.size = ys.length) : Walk (ItST K x b) ys.length (fun H => SqT K H b ys) (YPair (fun i => x.cps[i]?.map fun c => .str ⟨#[c]⟩) (fun i => ys[i]?)) := by
  refine ⟨fun i _ hi q => ⟨ys, ys[i], q, by simp [hi], by omega⟩, fun _ q => ⟨ys, q, hn.symm, rfl⟩, fun i H v H' _ q y => ?_⟩
  obtain ⟨T, c, z, h1, h2, h3, h4, h5⟩ := y
  exact ⟨T, .str ⟨#[c]⟩, z, h1, h2, h3, by simp [h4], h5 ys q⟩
end
end LB
/-! Written tables (dicts with text keys), constants, kinds. Own text. -/
namespace LB
open PySem PySem.Spec PyProof.Rows L2
/-- the value found, or nothing -/
def Rl : Option V → Option Value → Prop
  | some v, some u => RelV v u
  | none, none => True
  | _, _ => False
def EntsAt : List DictEntry → List (Str × V) → Prop
  | [], [] => True
  | e :: r, kv :: t => (∃ tk, e.key = .str kv.1 tk) ∧ RelV kv.2 e.val ∧ EntsAt r t
  | _, _ => False
/-- a written dict whose keys are texts -/
structure WD (K : PySem.W.Frag) (w : World) (d : Addr) (kvs : List (Str × V)) : Prop where
  ex : ∃ es n, KDict K w d es n ∧ EntsAt es.toList kvs
def lk (kvs : List (Str × V)) (z : Str) : Option V := (kvs.find? fun kv => kv.1 == z).map (·.2)
theorem ents_find (z : Str) : ∀ (es : List DictEntry) (kvs : List (Str × V)), EntsAt es kvs →
    (∃ e, es.find? (·.key.isStr z) = some e ∧ Rl (lk kvs z) (some e.val)) ∨ (es.find? (·.key.isStr z) = none ∧ es.any (·.refKey) = false ∧ lk kvs z = none)
  | [], [], _ => .inr ⟨rfl, rfl, rfl⟩
  | e :: r, kv :: t, h => by
    obtain ⟨⟨tk, h1⟩, h2, h3⟩ := h
    have ek : e.key.isStr z = (kv.1 == z) := by rw [h1]; rfl
    cases q : (kv.1 == z) with
    | true =>
      refine .inl ⟨e, ?_, ?_⟩
      · rw [List.find?_cons, ek, q]
      · unfold lk
        rw [List.find?_cons, q]
        exact h2
    | false =>
      have e2 : lk (kv :: t) z = lk t z := by
        unfold lk
        rw [List.find?_cons, q]
      rw [e2, List.find?_cons, ek, q, List.any_cons]
      have e3 : e.refKey = false := by
        unfold DictEntry.refKey
        rw [h1]
      rw [e3, Bool.false_or]
      exact ents_find z r t h3
theorem WD.ns {K : PySem.W.Frag} {w : World} {d : Addr} {kvs : List (Str × V)} (D : WD K w d kvs) (z : Str) : ∃ es n r, KDict K w d es n ∧ PySem.W.nsIn K d z = some r ∧ Rl (lk kvs z) r := by
  obtain ⟨es, n, kd, h⟩ := D.ex
  have q : PySem.W.nsIn K d z = (match es.toList.find? (·.key.isStr z) with
      | some e => some (some e.val)
      | none => if es.toList.any (·.refKey) then none else some none) := by
    unfold PySem.W.nsIn
    rw [kd.at_]
    rfl
  rcases ents_find z _ _ h with ⟨e, h1, h2⟩ | ⟨h1, h2, h3⟩
  · refine ⟨es, n, some e.val, kd, ?_, h2⟩
    rw [q, h1]
  · refine ⟨es, n, none, kd, ?_, by rw [h3]; trivial⟩
    rw [q, h1, h2]
    rfl
section
variable {X : Cx} {d : Addr} {kvs : List (Str × V)}
/-- z in TABLE -/
theorem op_inW (D : WD X.K X.w d kvs) : OpR X (compareOp .In) (fun x y H Q => ∃ z : Str, x = .str z ∧ y = .ref d ∧ Q (.bl (lk kvs z).isSome) H) := by
  intro pins s σ H x y v u Q I rx ry h
  obtain ⟨z, e1, e2, q⟩ := h
  obtain ⟨es, n, r, kd, e, rl⟩ := D.ns z
  have er : (lk kvs z).isSome = r.isSome := by
    cases h1 : lk kvs z <;> cases h2 : r <;> rw [h1, h2] at rl <;> first | rfl | exact rl.elim
  exact op_in_kd kd pins s σ H x y v u Q I rx ry ⟨z, r, e1, e2, e, by rw [← er]; exact q⟩
theorem WD.item (D : WD X.K X.w d kvs) {z : Str} {v : V} (h : lk kvs z = some v) : KDct X.K X.w d z v := by
  obtain ⟨es, n, r, kd, e, rl⟩ := D.ns z
  rw [h] at rl
  cases r with
  | none => exact rl.elim
  | some u => exact ⟨es, n, u, kd.at_, kd.lit, e, rl⟩
/-- TABLE.get(z) -/
theorem pe_getW {o e : Expr} {apos cpos : Pos} {td ty : TE} (D : WD X.K X.w d kvs) (ho : PE X o td) (he : PE X e ty) (m : M1 X o "get" apos e cpos) :
    PE X (.Call (.Attribute o "get" apos) [e] [] cpos) (fun σ H Q => td σ H fun x H1 => x = .ref d ∧ ty σ H1 fun y H2 => ∃ z : Str, y = .str z ∧ Q ((lk kvs z).getD .non) H2) := by
  refine ⟨fun pins s σ H Q I h => ?_⟩
  refine wpAny_Call_method m.base m.few m.line PySem.F.plainAttrs_dict PySem.F.slot_dict_get PySem.F.type_dict_get (thn (ho.run pins s σ H _ I h) fun u s1 ⟨x, H1, I1, rx, ex, q1⟩ => ?_)
  subst ex
  obtain rfl : u = Value.ref d := rx
  obtain ⟨es, n, kd, h0⟩ := D.ex
  refine ⟨kd_type kd I1, fun b q => ?_, ?_⟩
  · cases q
    exact ⟨_, I1.kIn d _ kd.at_, rfl⟩
  rw [m.trees]
  refine Calls.callWith_builtin rfl (Calls.evalArgs_plain (Calls.spliced_cons (thn (he.run pins s1 σ H1 _ I1 q1) fun iv s2 ⟨y, H2, I2, ry, z, ez, q2⟩ => Calls.spliced_nil ?_)))
  subst ez
  obtain ⟨t, rfl⟩ := ry
  obtain ⟨es', n', r, kd', e', rl⟩ := D.ns z
  refine call_meetsIn PySem.F.slot_dict_get (kd_type kd' I2) PySem.F.entry_dict_get (PySem.F.args_dict_get_2 _ _) (meets_dict_get (PySem.strKind X.prog X.w) d (PySem.strKind_is X.prog X.w z t) kd'.low) ⟨_, PySem.W.mapOf_K (prog := X.prog) I2.kIn kd'.at_ kd'.lit, ?_⟩
  rw [PySem.W.find_K kd'.at_ e']
  refine ⟨(lk kvs z).getD .non, H2, I2.tok _, ?_, q2⟩
  cases h1 : lk kvs z <;> cases h2 : r <;> rw [h1, h2] at rl <;> first | exact rl.elim | exact rl | rfl
/-- a constant of the module -/
theorem pe_gint {x : Str} {i : Int} {pos : Pos} (hm : ∃ t, X.mg x = some (.int i t)) (hg : Gl X x := by rfl) (hd : (x == ("__debug__" : Str)) = false := by decide) : PE X (.Name x pos) (tC (.int i)) := by
  obtain ⟨t, hm⟩ := hm
  exact pe_glob hg hm ⟨t, rfl⟩ hd
theorem pe_gref {x : Str} {a : Addr} {pos : Pos} (hm : X.mg x = some (.ref a)) (hg : Gl X x := by rfl) (hd : (x == ("__debug__" : Str)) = false := by decide) : PE X (.Name x pos) (tC (.ref a)) := pe_glob hg hm rfl hd
end
/-- a written tuple -/
def KTup (K : PySem.W.Frag) (a : Addr) (xs : List V) : Prop := ∃ (o : Obj) (its : Array Value) (n : Nat), K.lookup a = some o ∧ o.cls = .type "tuple" ∧ o.data = .seq its n ∧ its.size ≤ sizeLine ∧ Vals xs its.toList
theorem KTup.at_ {K : PySem.W.Frag} {H : Hp} {a : Addr} {xs : List V} (h : KTup K a xs) : SqT K H a xs := .inr h
theorem ty_tup {K : PySem.W.Frag} {H : Hp} {a : Addr} {xs : List V} (h : SqT K H a xs) : TyX K H (.ref a) (.type "tuple") := by
  rcases h with (h | ⟨o, h⟩) | ⟨o, its, n, h, c, _⟩
  · exact .base (.tup h)
  · exact .fTuple h
  · exact .kTuple h c
theorem ty_lst {K : PySem.W.Frag} {H : Hp} {a : Addr} {xs : List V} (h : SqL K H a xs) : TyX K H (.ref a) (.type "list") := by
  rcases h with (h | ⟨o, h⟩) | ⟨o, its, n, h, c, _⟩
  · exact .base (.lst h)
  · exact .base (.frz h)
  · exact .kList h c
theorem kit (a b : String) {K : PySem.W.Frag} {r : Bool} (h : kitB a b = some r) : PySem.W.kitOne K (.type a) (.type b) = some r := h
end LB
namespace LB
open PySem L2
def signsTab : List (Str × V) := [("put", .str "wn"), ("move", .str "wb"), ("add", .str "wbb"), ("take", .str "wbb"), ("times", .str "wbb"), ("get", .str "wb"), ("set", .str "bb"), ("say", .str "b"), ("rest", .str ""), ("go", .str "r"), ("if", .str "br"), ("stop", .str "")]
def lateTab : List (Str × V) := [("put", .int 0), ("move", .int 0), ("add", .int 0), ("take", .int 0), ("get", .int 1), ("times", .int 2)]
/-- what the module's top has bound -/
structure Gb (K : PySem.W.Frag) (w : World) (mg : Str → Option Value) (dS : Addr) : Prop where
  boxes : ∃ t, mg "BOXES" = some (.int 8 t)
  held : ∃ t, mg "MOST_HELD" = some (.int 999 t)
  rows : ∃ t, mg "MOST_ROWS" = some (.int 200 t)
  signs : mg "SIGNS" = some (.ref dS)
  signsAt : WD K w dS signsTab
structure Gs (K : PySem.W.Frag) (w : World) (mg : Str → Option Value) (dS dL tM : Addr) : Prop extends Gb K w mg dS where
  late : mg "LATE_AT" = some (.ref dL)
  lateAt : WD K w dL lateTab
  mostLate : mg "MOST_LATE" = some (.ref tM)
  mostLateAt : KTup K tM [.int 2, .int 4, .int 4, .int 3]
abbrev GC (mg : Str → Option Value) : Prop := ∃ t, mg "CELLS" = some (.int 16 t)
abbrev GJ (mg : Str → Option Value) : Prop := ∃ t, mg "JUMP_AT" = some (.int 3 t)
abbrev GF (mg : Str → Option Value) : Prop := ∃ t, mg "MOST_FUEL" = some (.int 1000 t)
/-- built-ins still, further -/
structure Bl2 (mg : Str → Option Value) : Prop where
  b : Bl mg
  isi : mg "isinstance" = none
  int : mg "int" = none
  bool : mg "bool" = none
  str : mg "str" = none
  all : mg "all" = none
  zip : mg "zip" = none
  enum : mg "enumerate" = none
def Rw.word : Rw → Str
  | .put _ _ => "put" | .move _ _ => "move" | .add _ _ _ => "add" | .take _ _ _ => "take" | .times _ _ _ => "times" | .get _ _ => "get" | .set _ _ => "set" | .say _ => "say" | .rest => "rest" | .go _ => "go" | .iff _ _ => "if" | .stop => "stop"
def Rw.signs : Rw → Str
  | .put _ _ => "wn" | .move _ _ => "wb" | .add _ _ _ => "wbb" | .take _ _ _ => "wbb" | .times _ _ _ => "wbb" | .get _ _ => "wb" | .set _ _ => "bb" | .say _ => "b" | .rest => "" | .go _ => "r" | .iff _ _ => "br" | .stop => ""
def Rw.args : Rw → List Int
  | .put b n => [b, n] | .move b c => [b, c] | .add b c d => [b, c, d] | .take b c d => [b, c, d] | .times b c d => [b, c, d] | .get b c => [b, c] | .set c d => [c, d] | .say c => [c] | .rest => [] | .go r => [r] | .iff c r => [c, r] | .stop => []
theorem Rw.vals_eq (r : Rw) : r.vals = .str r.word :: r.args.map V.int := by cases r <;> rfl
theorem Rw.signs_lk (r : Rw) : lk signsTab r.word = some (.str r.signs) := by cases r <;> rfl
theorem Rw.signs_size (r : Rw) : r.signs.cps.size = r.args.length := by cases r <;> rfl
/-- the greatest number that a sign stands for -/
def mostFor (z : Str) (many : Int) : Int := if z = "n" then 999 else if z = "r" then many - 1 else 7
theorem mf_n (many : Int) : mostFor ⟨#[110]⟩ many = 999 := if_pos (by decide +kernel)
theorem mf_r (many : Int) : mostFor ⟨#[114]⟩ many = many - 1 := by
  unfold mostFor
  rw [if_neg (by decide +kernel), if_pos (by decide +kernel)]
theorem mf_b (many : Int) : mostFor ⟨#[98]⟩ many = 7 := by
  unfold mostFor
  rw [if_neg (by decide +kernel), if_neg (by decide +kernel)]
theorem mf_w (many : Int) : mostFor ⟨#[119]⟩ many = 7 := by
  unfold mostFor
  rw [if_neg (by decide +kernel), if_neg (by decide +kernel)]
theorem Bx.le {b many : Int} (h : Bx b) {c : Nat} (hc : c = 98 ∨ c = 119) : 0 ≤ b ∧ b ≤ mostFor ⟨#[c]⟩ many := by
  obtain ⟨h0, h1⟩ := h
  rcases hc with rfl | rfl
  · rw [mf_b]; omega
  · rw [mf_w]; omega
theorem at_1 {α : Type} {a x : α} {i : Nat} (h : [a][i]? = some x) : i = 0 ∧ x = a := by
  cases i with
  | zero => exact ⟨rfl, (Option.some.inj h).symm⟩
  | succ i => simp at h
theorem at_2 {α : Type} {a b x : α} {i : Nat} (h : [a, b][i]? = some x) : (i = 0 ∧ x = a) ∨ (i = 1 ∧ x = b) := by
  match i, h with
  | 0, h => exact .inl ⟨rfl, (Option.some.inj h).symm⟩
  | 1, h => exact .inr ⟨rfl, (Option.some.inj h).symm⟩
theorem at_3 {α : Type} {a b c x : α} {i : Nat} (h : [a, b, c][i]? = some x) : (i = 0 ∧ x = a) ∨ (i = 1 ∧ x = b) ∨ (i = 2 ∧ x = c) := by
  match i, h with
  | 0, h => exact .inl ⟨rfl, (Option.some.inj h).symm⟩
  | 1, h => exact .inr (.inl ⟨rfl, (Option.some.inj h).symm⟩)
  | 2, h => exact .inr (.inr ⟨rfl, (Option.some.inj h).symm⟩)
theorem sg {a : Str} {i c : Nat} (h : a.cps[i]? = some c) : a.cps.toList[i]? = some c := by
  rw [Array.getElem?_toList]
  exact h
theorem Rw.args_ok {r : Rw} {many : Int} (h : r.ok many) {i c : Nat} {z : Int} (hc : r.signs.cps[i]? = some c) (hz : r.args[i]? = some z) : 0 ≤ z ∧ z ≤ mostFor ⟨#[c]⟩ many := by
  have hc := sg hc
  cases r with
  | put b n =>
    rcases at_2 hz with ⟨rfl, rfl⟩ | ⟨rfl, rfl⟩
    · exact h.1.le (.inr (Option.some.inj hc).symm)
    · have e := Option.some.inj hc
      rw [← e]
      show 0 ≤ z ∧ z ≤ mostFor ⟨#[110]⟩ many
      rw [mf_n]
      have := h.2
      omega
  | move b c =>
    rcases at_2 hz with ⟨rfl, rfl⟩ | ⟨rfl, rfl⟩
    · exact h.1.le (.inr (Option.some.inj hc).symm)
    · exact h.2.le (.inl (Option.some.inj hc).symm)
  | add b c d =>
    rcases at_3 hz with ⟨rfl, rfl⟩ | ⟨rfl, rfl⟩ | ⟨rfl, rfl⟩
    · exact h.1.le (.inr (Option.some.inj hc).symm)
    · exact h.2.1.le (.inl (Option.some.inj hc).symm)
    · exact h.2.2.le (.inl (Option.some.inj hc).symm)
  | take b c d =>
    rcases at_3 hz with ⟨rfl, rfl⟩ | ⟨rfl, rfl⟩ | ⟨rfl, rfl⟩
    · exact h.1.le (.inr (Option.some.inj hc).symm)
    · exact h.2.1.le (.inl (Option.some.inj hc).symm)
    · exact h.2.2.le (.inl (Option.some.inj hc).symm)
  | times b c d =>
    rcases at_3 hz with ⟨rfl, rfl⟩ | ⟨rfl, rfl⟩ | ⟨rfl, rfl⟩
    · exact h.1.le (.inr (Option.some.inj hc).symm)
    · exact h.2.1.le (.inl (Option.some.inj hc).symm)
    · exact h.2.2.le (.inl (Option.some.inj hc).symm)
  | get b c =>
    rcases at_2 hz with ⟨rfl, rfl⟩ | ⟨rfl, rfl⟩
    · exact h.1.le (.inr (Option.some.inj hc).symm)
    · exact h.2.le (.inl (Option.some.inj hc).symm)
  | set c d =>
    rcases at_2 hz with ⟨rfl, rfl⟩ | ⟨rfl, rfl⟩
    · exact h.1.le (.inl (Option.some.inj hc).symm)
    · exact h.2.le (.inl (Option.some.inj hc).symm)
  | say c =>
    obtain ⟨rfl, rfl⟩ := at_1 hz
    exact Bx.le h (.inl (Option.some.inj hc).symm)
  | rest => cases hz
  | go q =>
    obtain ⟨rfl, rfl⟩ := at_1 hz
    have e := Option.some.inj hc
    rw [← e]
    show 0 ≤ z ∧ z ≤ mostFor ⟨#[114]⟩ many
    rw [mf_r]
    have h' : 0 ≤ z ∧ z < many := h
    omega
  | iff c q =>
    rcases at_2 hz with ⟨rfl, rfl⟩ | ⟨rfl, rfl⟩
    · exact h.1.le (.inl (Option.some.inj hc).symm)
    · have e := Option.some.inj hc
      rw [← e]
      show 0 ≤ z ∧ z ≤ mostFor ⟨#[114]⟩ many
      rw [mf_r]
      have := h.2
      omega
  | stop => cases hz
section
variable {P : Program} {w : World} {K : PySem.W.Frag} {mg : Str → Option Value} {base : Heap}
/-! ### is_whole, most_for -/
def spWhole : Sp := fun vs H Q _ => ∃ x m : Int, vs = [.int x, .int m] ∧ Q (.bl (decide (0 ≤ x ∧ x ≤ m))) H
theorem scWhole : FnScope ["x", "most"] ["x", "most"] (defScope sWhole) := ⟨rfl, rfl, rfl, by decide +kernel, rfl, by decide +kernel, by decide +kernel⟩
theorem ok_whole {f : Addr} {fd : FuncData} (F : Fun K "is_whole" "is_whole" sWhole f fd) (B : Bl2 mg) : FnOk P w K mg base CX0 1 f fd ["x", "most"] spWhole := by
  refine F.ok scWhole (fun vs H Q E h => ?_) (fun cdv A outer s H vs Q E hr h => ?_)
  · obtain ⟨x, m, rfl, _⟩ := h
    rfl
  · obtain ⟨x, m, rfl, k⟩ := h
    refine ⟨_, pss_one (ps_ret (pe_and (pe_callB call_isi (by rfl) B.isi (by decide +kernel) (pa_cons (pv 0) (pa_cons (pe_bltn (v := .ty "int") (by rfl) B.int (by decide +kernel) rfl) pa_nil)))
      (pe_and (pe_not (pe_callB call_isi (by rfl) B.isi (by decide +kernel) (pa_cons (pv 0) (pa_cons (pe_bltn (v := .ty "bool") (by rfl) B.bool (by decide +kernel) rfl) pa_nil))))
      (pe_one (pe_chain op_le op_le pe_int (pv 0) (pv 1)))))), ?_⟩
    refine ⟨_, rfl, _, _, _, _, true, rfl, .ty "int", .base (.int x), kit _ _ (by decide +kernel), true, rfl, iteT ?_⟩
    refine ⟨_, rfl, _, _, _, _, false, rfl, .ty "bool", .base (.int x), kit _ _ (by decide +kernel), false, rfl, true, rfl, iteT ?_⟩
    refine ⟨_, rfl, _, _, rfl, rfl, _, rfl, if_both (fun e => ?_) (fun e => ?_)⟩
    · have e' : 0 ≤ x := of_decide_eq_true e
      refine ⟨_, rfl, _, _, rfl, rfl, ?_⟩
      have q : decide (x ≤ m) = decide (0 ≤ x ∧ x ≤ m) := by simp [e']
      show Q (.bl (decide (x ≤ m))) H
      rw [q]
      exact k
    · have e' : ¬ 0 ≤ x := of_decide_eq_false e
      have q : decide (0 ≤ x ∧ x ≤ m) = false := by simp [e']
      show Q (.bl false) H
      rw [← q]
      exact k
def spMost : Sp := fun vs H Q _ => ∃ (z : Str) (many : Int), vs = [.str z, .int many] ∧ Q (.int (mostFor z many)) H
theorem scMost : FnScope ["sign", "many"] ["sign", "many"] (defScope sMost) := ⟨rfl, rfl, rfl, by decide +kernel, rfl, by decide +kernel, by decide +kernel⟩
theorem ok_most {f dS : Addr} {fd : FuncData} (F : Fun K "most_for" "most_for" sMost f fd) (G : Gb K w mg dS) : FnOk P w K mg base CX0 1 f fd ["sign", "many"] spMost := by
  refine F.ok scMost (fun vs H Q E h => ?_) (fun cdv A outer s H vs Q E hr h => ?_)
  · obtain ⟨z, m, rfl, _⟩ := h
    rfl
  · obtain ⟨z, many, rfl, k⟩ := h
    refine ⟨_, pss_cons (ps_if (pt_cmpR op_eq (pv 0) pe_str (nomark _)) (pss_one (ps_ret (pe_gint G.held))) pss_nil)
      (pss_cons (ps_if (pt_cmpR op_eq (pv 0) pe_str (nomark _)) (pss_one (ps_ret (pe_op op_sub (pv 1) pe_int))) pss_nil)
      (pss_one (ps_ret (pe_op op_sub (pe_gint G.boxes) pe_int)))), ?_⟩
    unfold mostFor at k
    refine ⟨_, rfl, rfl, _, rfl, if_both (fun e => ?_) (fun e => ?_)⟩
    · have e' : z = "n" := by have := of_decide_eq_true e; injection this
      rw [if_pos e'] at k
      exact k
    · have e' : ¬ z = "n" := fun q => of_decide_eq_false e (congrArg V.str q)
      rw [if_neg e'] at k
      refine ⟨_, rfl, rfl, _, rfl, if_both (fun e => ?_) (fun e => ?_)⟩
      · have e' : z = "r" := by have := of_decide_eq_true e; injection this
        rw [if_pos e'] at k
        exact ⟨_, rfl, _, _, rfl, rfl, k⟩
      · have e' : ¬ z = "r" := fun q => of_decide_eq_false e (congrArg V.str q)
        rw [if_neg e'] at k
        exact ⟨_, _, rfl, rfl, k⟩
/-! ### is_row: true of a row that can be -/
def spRow (K : PySem.W.Frag) : Sp := fun vs H Q _ => ∃ (v : V) (r : Rw) (many : Int), vs = [v, .int many] ∧ RowAt K H v r ∧ r.ok many ∧ ∀ H', Same H H' → Q (.bl true) H'
abbrev nsRow : List Str := ["row", "many", "signs", "sign", "x"]
theorem scRow : FnScope nsRow ["row", "many"] (defScope sRow) := ⟨rfl, rfl, rfl, by decide +kernel, rfl, by decide +kernel, by decide +kernel⟩
theorem all_true : ∀ n : Nat, (List.replicate n true).all id = true
  | 0 => rfl
  | n + 1 => by
    rw [List.replicate_succ, List.all_cons, all_true n]
    rfl
/-- a list of so many True stands at D, and all that was -/
def Trues (H0 : Hp) (D : Addr) (i : Nat) (H : Hp) : Prop := H D = some (.lst ((List.replicate i true).map V.bl)) ∧ Same H0 H
theorem Trues.step {H0 H : Hp} {D : Addr} {i : Nat} (h : Trues H0 D i H) (h0 : H0 D = none) : Trues H0 D (i + 1) (upd H D (.lst ((List.replicate i true).map V.bl ++ [.bl true]))) := by
  refine ⟨?_, fun b o e => ?_⟩
  · rw [upd_same, List.replicate_succ', List.map_append]
    rfl
  · rw [upd_ne (ne_of_none e h0)]
    exact h.2 b o e
theorem Trues.same {H0 H H' : Hp} {D : Addr} {i : Nat} (h : Trues H0 D i H) (s : Same H H') : Trues H0 D i H' := ⟨s _ _ h.1, h.2.trans s⟩
theorem ok_row {f dS : Addr} {fd : FuncData} (F : Fun K "is_row" "is_row" sRow f fd) (W : Cal P w K mg base 1 "is_whole" ["x", "most"] spWhole) (M : Cal P w K mg base 1 "most_for" ["sign", "many"] spMost) (B : Bl2 mg) (G : Gb K w mg dS) : FnOk P w K mg base CX0 2 f fd ["row", "many"] (spRow K) := by
  refine F.ok scRow (fun vs H Q E h => ?_) (fun cdv A outer s H vs Q E hr h => ?_)
  · obtain ⟨v, r, m, rfl, _⟩ := h
    rfl
  · obtain ⟨v, r, many, rfl, ⟨a, rfl, hT⟩, hok, k⟩ := h
    refine ⟨_, pss_cons (ps_if (PW.pt (pw_or (pt_not (pt_val (pe_callB call_isi (by rfl) B.isi (by decide +kernel) (pa_cons (pv 0) (pa_cons (pe_bltn (v := .ty "tuple") (by rfl) B.b.tuple (by decide +kernel) rfl) pa_nil)))))
        (pw_or (pt_not (pt_truth (pv 0) (by intro _; rfl)))
          (pw_or1 (pt_not (pt_val (pe_callB call_isi (by rfl) B.isi (by decide +kernel) (pa_cons (pe_ix ix_tup (pv 0) pe_int (fun _ _ => rfl)) (pa_cons (pe_bltn (v := .ty "str") (by rfl) B.str (by decide +kernel) rfl) pa_nil)))))))))
        (pss_one (ps_ret pe_bl)) pss_nil)
      (pss_cons (ps_set (i := 2) scRow.nd rfl (Or.inl rfl) (pe_getW G.signsAt (pe_gref G.signs) (pe_ix ix_tup (pv 0) pe_int (fun _ _ => rfl)) ⟨by rfl, by rfl, by rfl, by rfl⟩))
      (pss_cons (ps_if (PW.pt (pw_or (pt_cmpR op_isN (pv 2) pe_non (nomark _)) (pw_or1 (pt_cmpR op_ne (pe_callB call_len_seq (by rfl) B.b.len PySem.boot_len (pa_cons (pv 0) pa_nil)) (pe_op op_add (pe_callB call_len_str (by rfl) B.b.len PySem.boot_len (pa_cons (pv 2) pa_nil)) pe_int) (nomark _))))) (pss_one (ps_ret pe_bl)) pss_nil)
      (pss_one (ps_ret (pe_callB (cr_all rfl) (by rfl) B.all (by decide +kernel) (pa_cons
        (pe_lc (own := [("sign", 3), ("x", 4)]) (g := gTup K 2 (gCons (gName 3) (gCons (gName 4) gNil))) (by rfl) scRow.nd (pi_zipST (by rfl) B.zip (pa_cons (pv 2) (pa_cons (pe_slice sl_tupA (pv 0) (po_some pe_int) po_none) pa_nil)))
          (blkOk_by (own := [("sign", 3), ("x", 4)]) (N := nsRow) (sc := defScope sRow) (by decide +kernel))
          (fun _ _ _ _ _ => pg_tup rfl (pgs_cons (pg_name (i := 3) scRow.nd rfl (Or.inl rfl)) (pgs_cons (pg_name (i := 4) scRow.nd rfl (Or.inl rfl)) pgs_nil))) (fun _ _ _ _ _ => pts_nil)
          (fun _ _ _ _ _ => pe_cal W hr (pa_cons (pv 4) (pa_cons (pe_cal M hr (pa_cons (pv 3) (pa_cons (pv 1) pa_nil))) pa_nil)))) pa_nil)))))), ?_⟩
    have hv := r.vals_eq
    have hlen : r.vals.length = r.args.length + 1 := by rw [hv, List.length_cons, List.length_map]
    have h0 : atI r.vals 0 = some (.str r.word) := by rw [hv]; exact atI_nat (j := 0) rfl
    have hle : r.args.length ≤ 3 := by cases r <;> simp [Rw.args]
    refine ⟨_, rfl, _, _, _, _, true, rfl, .ty "tuple", ty_tup hT, kit _ _ (by decide +kernel), true, rfl, iteF ?_⟩
    refine ⟨_, rfl, true, .inr (.inl ⟨r.vals, hT, by rw [hv]; rfl⟩), iteF ?_⟩
    refine ⟨_, rfl, a, _, _, _, rfl, rfl, hT, h0, _, _, _, _, true, rfl, .ty "str", .base (.str _), kit _ _ (by decide +kernel), true, rfl, iteF ?_⟩
    refine ⟨rfl, _, rfl, a, _, _, _, rfl, rfl, hT, h0, _, rfl, ?_⟩
    rw [r.signs_lk]
    refine ⟨_, rfl, rfl, ?_⟩
    refine ⟨_, rfl, if_f (by rfl) ?_⟩
    have hsz : r.signs.length ≤ sizeLine := by
      show r.signs.cps.size ≤ sizeLine
      rw [r.signs_size]
      exact small (by omega)
    refine ⟨_, rfl, a, _, rfl, .inr hT, _, rfl, _, rfl, hsz, _, _, rfl, rfl, rfl, _, rfl, ?_⟩
    have ne1 : (!decide (V.int (r.vals.length : Int) = V.int ((r.signs.length : Int) + 1))) = false := by
      have e : V.int (r.vals.length : Int) = V.int ((r.signs.length : Int) + 1) := by
        show V.int (r.vals.length : Int) = V.int ((r.signs.cps.size : Int) + 1)
        rw [hlen, r.signs_size]
        exact congrArg V.int (by omega)
      rw [decide_eq_true e]
      rfl
    refine if_f ne1 ?_
    refine ⟨_, rfl, _, rfl, 1, rfl, a, r.vals, rfl, hT, fun hw => ?_, fun _ p hp => ?_⟩
    · have h1 := hw.1
      have h2 : HT.sIx r.vals.length 0 (some (1 : Int)) = min 1 r.vals.length := HT.sIx_nat _ _ 1
      rw [h2, hlen] at h1
      omega
    have hcut : cutV r.vals (some 1) none = r.args.map V.int := by
      unfold cutV
      rw [show HT.sIx r.vals.length 0 (some (1 : Int)) = min 1 r.vals.length from HT.sIx_nat _ _ 1, HT.sIx_none, hlen, show min 1 (r.args.length + 1) = 1 by omega, hv]
      show List.take (r.args.length + 1 - 1) (r.args.map V.int) = r.args.map V.int
      exact List.take_of_length_le (by rw [List.length_map]; omega)
    have s1 := same_new hp (.tup (cutV r.vals (some 1) none))
    refine ⟨r.signs, p, r.args.map V.int, rfl, tup_of (by rw [upd_same, hcut]), fun D hD => ?_⟩
    have hD1 : H D = none := s1.free hD
    have npD : p ≠ D := ne_of_none upd_same hD
    refine lc_it (walkST (K := K) (x := r.signs) (b := p) (ys := r.args.map V.int) (by rw [r.signs_size, List.length_map])) (fun i H' => Trues H D i H' ∧ H' p = some (.tup (r.args.map V.int)))
      ⟨⟨upd_same, s1.trans (same_new hD _)⟩, by rw [upd_ne npD, upd_same, hcut]⟩ (fun i H' _ h => tup_of h.2) ?_ ?_
    · rintro i x H1 H2 hi ⟨hT1, hp1⟩ ⟨T, c, y, rfl, nT, rfl, hc, hy⟩
      obtain ⟨c0, hc0, rfl⟩ := Option.map_eq_some_iff.mp hc
      obtain ⟨z, hz, rfl⟩ := map_get hy
      obtain ⟨z0, z1⟩ := Rw.args_ok hok hc0 hz
      refine ⟨T, [.str ⟨#[c0]⟩, .int z], rfl, tup_of upd_same, rfl, .str ⟨#[c0]⟩, [.int z], rfl, .int z, [], rfl, rfl, rfl, yes_if ?_⟩
      refine ⟨_, rfl, _, rfl, _, rfl, ⟨#[c0]⟩, many, rfl, z, mostFor ⟨#[c0]⟩ many, rfl, ?_⟩
      have sT := same_new nT (.tup [.str ⟨#[c0]⟩, .int z])
      have e1 : decide (0 ≤ z ∧ z ≤ mostFor ⟨#[c0]⟩ many) = true := decide_eq_true ⟨z0, z1⟩
      refine ⟨_, sT _ _ hT1.1, ?_, ?_, ?_⟩
      · rw [List.length_map, List.length_replicate]
        rw [List.length_map] at hi
        exact small1000 (by omega)
      · rw [e1]
        exact (hT1.same sT).step hD1
      · rw [upd_ne npD]
        exact sT _ _ hp1
    · rintro H' ⟨⟨h1, h2⟩, _⟩
      refine ⟨D, _, rfl, SqL.of h1, ?_⟩
      rw [all_true]
      exact k H' h2
end
end LB
namespace LB
open PySem L2
theorem walk_zipT {K : PySem.W.Frag} {a b : Addr} {xs ys : List V} (hl : xs.length = ys.length) : Walk (RZ.ItzT K a b) xs.length (fun H => SqT K H a xs ∧ SqT K H b ys) (YPair (fun i => xs[i]?) (fun i => ys[i]?)) := by
  refine ⟨fun i _ hi q => ?_, fun _ q => ⟨xs, ys, q.1, q.2, by omega⟩, fun i H v H' _ q y => ?_⟩
  · have h2 : i < ys.length := by omega
    exact ⟨xs, ys, xs[i], ys[i], q.1, q.2, by simp [hi], by simp [h2]⟩
  · obtain ⟨T, x, z, h1, h2, h3, h4, h5⟩ := y
    exact ⟨T, x, z, h1, h2, h3, h4 xs q.1, h5 ys q.2⟩
theorem same_prog {K : PySem.W.Frag} {a : Addr} {H H' : Hp} {rs : List Rw} (s : Same H H') (h : ProgAt K H a rs) : ProgAt K H' a rs := by
  obtain ⟨vs, q, hl, g⟩ := h
  refine ⟨vs, same_tup s q, hl, fun i r e => ?_⟩
  obtain ⟨v, e1, b, e2, e3⟩ := g i r e
  exact ⟨v, e1, b, e2, same_tup s e3⟩
/-- a drawn program -/
def RsOk (rs : List Rw) : Prop := 1 ≤ rs.length ∧ rs.length ≤ 200 ∧ ∀ r, r ∈ rs → r.ok rs.length
end LB
namespace LB
open PySem L2
/-- data of so many lists within one another, not too long -/
inductive Sm : Nat → PyData → Prop
  | non (n : Nat) : Sm n .none
  | bl (n : Nat) (b : Bool) : Sm n (.bool b)
  | int (n : Nat) (i : Int) : Sm n (.int i)
  | str (n : Nat) (x : Str) : Sm n (.str x)
  | lst {n : Nat} {ds : List PyData} (h : ds.length ≤ 5000) (a : ∀ e, e ∈ ds → Sm n e) : Sm (n + 1) (.list ds)
  | tup {n : Nat} {ds : List PyData} (h : ds.length ≤ 5000) (a : ∀ e, e ∈ ds → Sm n e) : Sm (n + 1) (.tuple ds)
section
variable {P : Program} {w : World} {K : PySem.W.Frag} {mg : Str → Option Value} {base : Heap}
def spA (K : PySem.W.Frag) : Nat → Sp
  | 0 => fun _ _ _ _ => False
  | n + 1 => fun vs H Q _ => ∃ (x y : V) (d : PyData), vs = [x, y] ∧ Dp K H x d ∧ Dp K H y d ∧ Sm n d ∧ ∀ H', Same H H' → Q (.bl true) H'
abbrev nsAlike : List Str := ["_law_found", "_law_due", "_law_k"]
abbrev psAlike : List Str := ["_law_found", "_law_due"]
theorem scAlike : FnScope nsAlike psAlike (defScope sAlike) := ⟨rfl, rfl, rfl, by decide +kernel, rfl, by decide +kernel, by decide +kernel⟩
theorem same_lst {K : PySem.W.Frag} {H H' : Hp} {a : Addr} {xs : List V} (s : Same H H') (h : SqL K H a xs) : SqL K H' a xs := s.seq h
mutual
theorem dp_same {K : PySem.W.Frag} {H H' : Hp} (s : Same H H') : ∀ {d : PyData} {x : V}, Dp K H x d → Dp K H' x d
  | .none, _, h => by cases h; exact .non
  | .bool b, _, h => by cases h; exact .bl b
  | .int i, _, h => by cases h; exact .int i
  | .str z, _, h => by cases h; exact .str z
  | .list ds, _, h => by
    cases h with
    | lst h a => exact .lst (s.seq h) (dpAll_same s a)
  | .tuple ds, _, h => by
    cases h with
    | tup h a => exact .tup (same_tup s h) (dpAll_same s a)
  | .dict _, _, h => by cases h
theorem dpAll_same {K : PySem.W.Frag} {H H' : Hp} (s : Same H H') : ∀ {ds : List PyData} {xs : List V}, DpAll K H xs ds → DpAll K H' xs ds
  | [], _, h => by cases h; exact .nil
  | d :: ds, _, h => by
    cases h with
    | cons h a => exact .cons (dp_same s h) (dpAll_same s a)
end
theorem dpAll_get {K : PySem.W.Frag} {H : Hp} : ∀ {ds : List PyData} {xs : List V} {i : Nat} {d : PyData}, DpAll K H xs ds → ds[i]? = some d → ∃ x, xs[i]? = some x ∧ Dp K H x d
  | [], _, _, _, _, e => by simp at e
  | d0 :: ds, _, i, d, h, e => by
    cases h with
    | cons h a =>
      cases i with
      | zero => exact ⟨_, rfl, by rw [← Option.some.inj e]; exact h⟩
      | succ i =>
        obtain ⟨x, e1, e2⟩ := dpAll_get (i := i) a e
        exact ⟨x, e1, e2⟩
theorem dpAll_len {K : PySem.W.Frag} {H : Hp} : ∀ {ds : List PyData} {xs : List V}, DpAll K H xs ds → xs.length = ds.length
  | [], _, h => by cases h; rfl
  | d :: ds, _, h => by
    cases h with
    | cons h a => simp [dpAll_len a]
theorem ok_alike {n : Nat} {f : Addr} {fd : FuncData} (F : Fun K "_law_alike" "_law_alike" sAlike f fd) (G : Cal P w K mg base n "_law_alike" psAlike (spA K n)) (B : Bl2 mg) : FnOk P w K mg base CX0 (n + 1) f fd psAlike (spA K (n + 1)) := by
  refine F.ok scAlike (fun vs H Q E h => ?_) (fun cdv A outer s H vs Q E hr h => ?_)
  · obtain ⟨x, y, d, rfl, _⟩ := h
    rfl
  · obtain ⟨x, y, d, rfl, hx, hy, hd, k⟩ := h
    refine ⟨_, (pss_cons (ps_if (pt_val (pe_callB call_isiT (by rfl) B.isi (by decide +kernel) (pa_cons (pv 1) (pa_cons (pe_tup (pa_cons (pe_bltn (v := .ty "tuple") (by rfl) B.b.tuple (by decide +kernel) rfl) (pa_cons (pe_bltn (v := .ty "list") (by rfl) B.b.list (by decide +kernel) rfl) pa_nil))) pa_nil)))) (pss_cons (ps_if (PW.pt (pw_or (pt_not (pt_val (pe_callB call_isiT (by rfl) B.isi (by decide +kernel) (pa_cons (pv 0) (pa_cons (pe_tup (pa_cons (pe_bltn (v := .ty "tuple") (by rfl) B.b.tuple (by decide +kernel) rfl) (pa_cons (pe_bltn (v := .ty "list") (by rfl) B.b.list (by decide +kernel) rfl) pa_nil))) pa_nil))))) (pw_or1 (pt_cmpR op_ne (pe_callB call_isi (by rfl) B.isi (by decide +kernel) (pa_cons (pv 0) (pa_cons (pe_bltn (v := .ty "list") (by rfl) B.b.list (by decide +kernel) rfl) pa_nil))) (pe_callB call_isi (by rfl) B.isi (by decide +kernel) (pa_cons (pv 1) (pa_cons (pe_bltn (v := .ty "list") (by rfl) B.b.list (by decide +kernel) rfl) pa_nil))) (nomark _))))) (pss_one (ps_ret pe_bl)) pss_nil) (pss_cons (ps_if (pt_cmpR op_ne (pe_callB call_len_seq (by rfl) B.b.len PySem.boot_len (pa_cons (pv 0) pa_nil)) (pe_callB call_len_seq (by rfl) B.b.len PySem.boot_len (pa_cons (pv 1) pa_nil)) (nomark _)) (pss_one (ps_ret pe_bl)) pss_nil) (pss_one (ps_ret (pe_cmpR (op_eqD hr.units) (pe_lc (own := [("_law_k", 2)]) (g := gName 2) (by rfl) scAlike.nd (pi_range1 (by rfl) B.b.range (pa_cons (pe_callB call_len_seq (by rfl) B.b.len PySem.boot_len (pa_cons (pv 1) pa_nil)) pa_nil)) (blkOk_by (own := [("_law_k", 2)]) (N := nsAlike) (sc := defScope sAlike) (by decide +kernel)) (fun _ _ _ _ _ => (pg_name (i := 2) scAlike.nd rfl (Or.inl rfl))) (fun _ _ _ _ _ => pts_one (pt_not (pt_val (pe_cal G hr (pa_cons (pe_ix (show IxR _ (rIx K) from ix_seq) (pv 0) (pv 2) (fun _ _ => rfl)) (pa_cons (pe_ix (show IxR _ (rIx K) from ix_seq) (pv 1) (pv 2) (fun _ _ => rfl)) pa_nil)))))) (fun _ _ _ _ _ => (pv 2))) (pe_lst pa_nil) (nomark _)))))) pss_nil) (pss_cons (ps_if (pt_cmpR op_isN (pv 1) pe_non (nomark _)) (pss_one (ps_ret (pe_cmpR op_isN (pv 0) pe_non (nomark _)))) pss_nil) (pss_cons (ps_if (pt_val (pe_callB call_isi (by rfl) B.isi (by decide +kernel) (pa_cons (pv 1) (pa_cons (pe_bltn (v := .ty "str") (by rfl) B.str (by decide +kernel) rfl) pa_nil)))) (pss_one (ps_ret (pe_and (pe_callB call_isi (by rfl) B.isi (by decide +kernel) (pa_cons (pv 0) (pa_cons (pe_bltn (v := .ty "str") (by rfl) B.str (by decide +kernel) rfl) pa_nil))) (pe_one (pe_cmpR op_eq (pv 0) (pv 1) (nomark _)))))) pss_nil) (pss_cons (ps_if (PW.pt (pw_or (pt_val (pe_callB call_isi (by rfl) B.isi (by decide +kernel) (pa_cons (pv 1) (pa_cons (pe_bltn (v := .ty "bool") (by rfl) B.bool (by decide +kernel) rfl) pa_nil)))) (pw_or1 (pt_val (pe_callB call_isi (by rfl) B.isi (by decide +kernel) (pa_cons (pv 0) (pa_cons (pe_bltn (v := .ty "bool") (by rfl) B.bool (by decide +kernel) rfl) pa_nil))))))) (pss_one (ps_ret (pe_and (pe_callB call_isi (by rfl) B.isi (by decide +kernel) (pa_cons (pv 1) (pa_cons (pe_bltn (v := .ty "bool") (by rfl) B.bool (by decide +kernel) rfl) pa_nil))) (pe_and (pe_callB call_isi (by rfl) B.isi (by decide +kernel) (pa_cons (pv 0) (pa_cons (pe_bltn (v := .ty "bool") (by rfl) B.bool (by decide +kernel) rfl) pa_nil))) (pe_one (pe_cmpR op_eq (pv 0) (pv 1) (nomark _))))))) pss_nil) (pss_one (ps_ret (pe_and (pe_callB call_isi (by rfl) B.isi (by decide +kernel) (pa_cons (pv 0) (pa_cons (pe_bltn (v := .ty "int") (by rfl) B.int (by decide +kernel) rfl) pa_nil))) (pe_one (pe_cmpR op_eq (pv 0) (pv 1) (nomark _)))))))))), ?_⟩
    -- what both are
    have tyT : ∀ (T : String), PySem.W.kitAny K (.type T) [.type "tuple", .type "list"] = (kitB T "tuple").bind fun b => if b then some true else (kitB T "list").bind fun c => some c := by
      intro T
      unfold PySem.W.kitAny
      rw [show PySem.W.kitOne K (.type T) (.type "tuple") = kitB T "tuple" from rfl]
      cases kitB T "tuple" with
      | none => rfl
      | some b =>
        cases b with
        | true => rfl
        | false =>
          unfold PySem.W.kitAny
          rw [show PySem.W.kitOne K (.type T) (.type "list") = kitB T "list" from rfl]
          cases kitB T "list" with
          | none => rfl
          | some b => cases b <;> rfl
    cases d with
    | dict _ => cases hx
    | none =>
      cases hx
      cases hy
      refine ⟨_, rfl, by show 2 ≤ sizeLine; decide, fun T hT => ⟨_, T, _, .type "NoneType", _, false, rfl, upd_same, .cons (.ty "tuple") (.cons (.ty "list") .nil), .base .non, (tyT "NoneType").trans (by decide +kernel), false, rfl, iteF ?_⟩⟩
      refine ⟨_, rfl, rfl, _, rfl, if_t (by rfl) ?_⟩
      exact ⟨_, rfl, rfl, k _ (same_new hT _)⟩
    | bool b =>
      cases hx
      cases hy
      refine ⟨_, rfl, by show 2 ≤ sizeLine; decide, fun T hT => ⟨_, T, _, .type "bool", _, false, rfl, upd_same, .cons (.ty "tuple") (.cons (.ty "list") .nil), .base (.bl b), (tyT "bool").trans (by decide +kernel), false, rfl, iteF ?_⟩⟩
      refine ⟨_, rfl, rfl, _, rfl, if_f (by rfl) ?_⟩
      refine ⟨_, rfl, _, _, _, _, false, rfl, .ty "str", .base (.bl b), kit _ _ (by decide +kernel), false, rfl, iteF ?_⟩
      refine ⟨_, rfl, _, _, _, _, true, rfl, .ty "bool", .base (.bl b), kit _ _ (by decide +kernel), true, rfl, iteT (iteT ?_)⟩
      refine ⟨_, rfl, _, _, _, _, true, rfl, .ty "bool", .base (.bl b), kit _ _ (by decide +kernel), true, rfl, iteT ⟨_, rfl, _, _, _, _, true, rfl, .ty "bool", .base (.bl b), kit _ _ (by decide +kernel), true, rfl, iteT ⟨_, rfl, _, rfl, rfl, ?_⟩⟩⟩
      show Q (.bl (decide (V.bl b = V.bl b))) _
      rw [decide_eq_true rfl]
      exact k _ (same_new hT _)
    | int z =>
      cases hx
      cases hy
      refine ⟨_, rfl, by show 2 ≤ sizeLine; decide, fun T hT => ⟨_, T, _, .type "int", _, false, rfl, upd_same, .cons (.ty "tuple") (.cons (.ty "list") .nil), .base (.int z), (tyT "int").trans (by decide +kernel), false, rfl, iteF ?_⟩⟩
      refine ⟨_, rfl, rfl, _, rfl, if_f (by rfl) ?_⟩
      refine ⟨_, rfl, _, _, _, _, false, rfl, .ty "str", .base (.int z), kit _ _ (by decide +kernel), false, rfl, iteF ?_⟩
      refine ⟨_, rfl, _, _, _, _, false, rfl, .ty "bool", .base (.int z), kit _ _ (by decide +kernel), false, rfl, iteF ⟨_, rfl, _, _, _, _, false, rfl, .ty "bool", .base (.int z), kit _ _ (by decide +kernel), false, rfl, iteF ?_⟩⟩
      refine ⟨_, rfl, _, _, _, _, true, rfl, .ty "int", .base (.int z), kit _ _ (by decide +kernel), true, rfl, iteT ⟨_, rfl, _, rfl, rfl, ?_⟩⟩
      show Q (.bl (decide (V.int z = V.int z))) _
      rw [decide_eq_true rfl]
      exact k _ (same_new hT _)
    | str z =>
      cases hx
      cases hy
      refine ⟨_, rfl, by show 2 ≤ sizeLine; decide, fun T hT => ⟨_, T, _, .type "str", _, false, rfl, upd_same, .cons (.ty "tuple") (.cons (.ty "list") .nil), .base (.str z), (tyT "str").trans (by decide +kernel), false, rfl, iteF ?_⟩⟩
      refine ⟨_, rfl, rfl, _, rfl, if_f (by rfl) ?_⟩
      refine ⟨_, rfl, _, _, _, _, true, rfl, .ty "str", .base (.str z), kit _ _ (by decide +kernel), true, rfl, iteT ?_⟩
      refine ⟨_, rfl, _, _, _, _, true, rfl, .ty "str", .base (.str z), kit _ _ (by decide +kernel), true, rfl, iteT ⟨_, rfl, _, rfl, rfl, ?_⟩⟩
      show Q (.bl (decide (V.str z = V.str z))) _
      rw [decide_eq_true rfl]
      exact k _ (same_new hT _)
    | list ds =>
      cases hx with
      | lst hp ap =>
      cases hy with
      | lst hq aq =>
      rename_i p xs q ys
      cases hd with
      | lst hlen hall =>
      rename_i m
      have lx := dpAll_len ap
      have ly := dpAll_len aq
      refine ⟨_, rfl, by show 2 ≤ sizeLine; decide, fun T hT => ⟨_, T, _, .type "list", _, true, rfl, upd_same, .cons (.ty "tuple") (.cons (.ty "list") .nil), ty_lst (same_lst (same_new hT _) hq), (tyT "list").trans (by decide +kernel), true, rfl, iteT ?_⟩⟩
      have s1 := same_new hT (.tup [.ty "tuple", .ty "list"])
      refine ⟨_, rfl, by show 2 ≤ sizeLine; decide, fun T2 hT2 => ⟨_, T2, _, .type "list", _, true, rfl, upd_same, .cons (.ty "tuple") (.cons (.ty "list") .nil), ty_lst (same_lst (s1.trans (same_new hT2 _)) hp), (tyT "list").trans (by decide +kernel), true, rfl, iteF ?_⟩⟩
      have s2 := s1.trans (same_new hT2 (.tup [.ty "tuple", .ty "list"]))
      refine ⟨_, rfl, _, _, _, _, true, rfl, .ty "list", ty_lst (same_lst s2 hp), kit _ _ (by decide +kernel), _, rfl, _, _, _, _, true, rfl, .ty "list", ty_lst (same_lst s2 hq), kit _ _ (by decide +kernel), rfl, _, rfl, if_f (by rfl) ?_⟩
      have e1 : (!decide (V.int (xs.length : Int) = V.int (ys.length : Int))) = false := by
        rw [lx, ly, decide_eq_true rfl]
        rfl
      refine ⟨_, rfl, p, _, rfl, .inl (same_lst s2 hp), _, rfl, q, _, rfl, .inl (same_lst s2 hq), rfl, _, rfl, if_f e1 ?_⟩
      refine ⟨_, rfl, q, _, rfl, .inl (same_lst s2 hq), (ys.length : Int), rfl, by omega, by omega, fun D hD => ?_⟩
      have hD0 : H D = none := s2.free hD
      refine lc_range (lo := 0) (n := (ys.length : Int).toNat) (fun i H' => H' D = some (.lst []) ∧ Same H H') ⟨upd_same, s2.trans (same_new hD _)⟩ ?_ ?_
      · rintro i H1 hi ⟨hD1, sm⟩
        have hi' : i < ds.length := by rw [Int.toNat_natCast, ly] at hi; exact hi
        obtain ⟨x1, hx1, dx1⟩ := dpAll_get ap (List.getElem?_eq_getElem hi')
        obtain ⟨y1, hy1, dy1⟩ := dpAll_get aq (List.getElem?_eq_getElem hi')
        refine ⟨rfl, _, rfl, _, rfl, .inl ⟨p, _, _, x1, rfl, rfl, same_lst sm hp, at_of (j := i) (by omega) hx1, _, rfl, _, rfl, .inl ⟨q, _, _, y1, rfl, rfl, same_lst sm hq, at_of (j := i) (by omega) hy1, ?_⟩⟩⟩
        refine ⟨x1, y1, ds[i], rfl, dp_same sm dx1, dp_same sm dy1, hall _ (List.getElem_mem hi'), fun H2 sm2 => ⟨true, rfl, iteF ⟨sm2 _ _ hD1, sm.trans sm2⟩⟩⟩
      · rintro H1 ⟨hD1, sm⟩
        refine ⟨by show 0 ≤ sizeLine; decide, fun E0 hE0 => ?_⟩
        have s3 := same_new hE0 (.lst [])
        refine ⟨_, _, Dp.ints (ns := []) (SqL.of (s3 _ _ hD1)), Dp.ints (ns := []) (SqL.of upd_same), shaped_ints [], shaped_ints [], ?_⟩
        exact k _ (sm.trans s3)
    | tuple ds =>
      cases hx with
      | tup hp ap =>
      cases hy with
      | tup hq aq =>
      rename_i p xs q ys
      cases hd with
      | tup hlen hall =>
      rename_i m
      have lx := dpAll_len ap
      have ly := dpAll_len aq
      refine ⟨_, rfl, by show 2 ≤ sizeLine; decide, fun T hT => ⟨_, T, _, .type "tuple", _, true, rfl, upd_same, .cons (.ty "tuple") (.cons (.ty "list") .nil), ty_tup (same_tup (same_new hT _) hq), (tyT "tuple").trans (by decide +kernel), true, rfl, iteT ?_⟩⟩
      have s1 := same_new hT (.tup [.ty "tuple", .ty "list"])
      refine ⟨_, rfl, by show 2 ≤ sizeLine; decide, fun T2 hT2 => ⟨_, T2, _, .type "tuple", _, true, rfl, upd_same, .cons (.ty "tuple") (.cons (.ty "list") .nil), ty_tup (same_tup (s1.trans (same_new hT2 _)) hp), (tyT "tuple").trans (by decide +kernel), true, rfl, iteF ?_⟩⟩
      have s2 := s1.trans (same_new hT2 (.tup [.ty "tuple", .ty "list"]))
      refine ⟨_, rfl, _, _, _, _, false, rfl, .ty "list", ty_tup (same_tup s2 hp), kit _ _ (by decide +kernel), _, rfl, _, _, _, _, false, rfl, .ty "list", ty_tup (same_tup s2 hq), kit _ _ (by decide +kernel), rfl, _, rfl, if_f (by rfl) ?_⟩
      have e1 : (!decide (V.int (xs.length : Int) = V.int (ys.length : Int))) = false := by
        rw [lx, ly, decide_eq_true rfl]
        rfl
      refine ⟨_, rfl, p, _, rfl, .inr (same_tup s2 hp), _, rfl, q, _, rfl, .inr (same_tup s2 hq), rfl, _, rfl, if_f e1 ?_⟩
      refine ⟨_, rfl, q, _, rfl, .inr (same_tup s2 hq), (ys.length : Int), rfl, by omega, by omega, fun D hD => ?_⟩
      have hD0 : H D = none := s2.free hD
      refine lc_range (lo := 0) (n := (ys.length : Int).toNat) (fun i H' => H' D = some (.lst []) ∧ Same H H') ⟨upd_same, s2.trans (same_new hD _)⟩ ?_ ?_
      · rintro i H1 hi ⟨hD1, sm⟩
        have hi' : i < ds.length := by rw [Int.toNat_natCast, ly] at hi; exact hi
        obtain ⟨x1, hx1, dx1⟩ := dpAll_get ap (List.getElem?_eq_getElem hi')
        obtain ⟨y1, hy1, dy1⟩ := dpAll_get aq (List.getElem?_eq_getElem hi')
        refine ⟨rfl, _, rfl, _, rfl, .inr (.inl ⟨p, _, _, x1, rfl, rfl, same_tup sm hp, at_of (j := i) (by omega) hx1, _, rfl, _, rfl, .inr (.inl ⟨q, _, _, y1, rfl, rfl, same_tup sm hq, at_of (j := i) (by omega) hy1, ?_⟩)⟩)⟩
        refine ⟨x1, y1, ds[i], rfl, dp_same sm dx1, dp_same sm dy1, hall _ (List.getElem_mem hi'), fun H2 sm2 => ⟨true, rfl, iteF ⟨sm2 _ _ hD1, sm.trans sm2⟩⟩⟩
      · rintro H1 ⟨hD1, sm⟩
        refine ⟨by show 0 ≤ sizeLine; decide, fun E0 hE0 => ?_⟩
        have s3 := same_new hE0 (.lst [])
        refine ⟨_, _, Dp.ints (ns := []) (SqL.of (s3 _ _ hD1)), Dp.ints (ns := []) (SqL.of upd_same), shaped_ints [], shaped_ints [], ?_⟩
        exact k _ (sm.trans s3)
theorem alike_all {f : Addr} {fd : FuncData} (F : Fun K "_law_alike" "_law_alike" sAlike f fd) (m : mg "_law_alike" = some (.ref f)) (b : Binds K fd psAlike []) (B : Bl2 mg) : ∀ n : Nat, FnOk P w K mg base CX0 n f fd psAlike (spA K n)
  | 0 => ⟨fun _ _ _ _ h => h.elim, fun _ _ _ _ _ _ _ _ _ _ _ _ _ h => h.elim⟩
  | n + 1 => ok_alike F (Cal.mk' (alike_all F m b B n) m F.kp b) B
end
end LB
/-! What readings come to, told as data (Dp): expressions, arguments, statements, loops, comprehensions. Own text. -/
namespace LB
open PySem L2
/-! ### data that no change of a list can touch -/
mutual
def noL : PyData → Bool
  | .list _ => false
  | .dict _ => false
  | .tuple ds => noLs ds
  | _ => true
def noLs : List PyData → Bool
  | [] => true
  | d :: ds => noL d && noLs ds
end
theorem noLs_all {ds : List PyData} (h : ∀ d, d ∈ ds → noL d = true) : noLs ds = true := by
  induction ds with
  | nil => rfl
  | cons d ds ih =>
    show (noL d && noLs ds) = true
    rw [h d (List.mem_cons_self ..), ih fun e he => h e (List.mem_cons_of_mem _ he)]
    rfl
theorem noLs_mem : ∀ {ds : List PyData}, noLs ds = true → ∀ d, d ∈ ds → noL d = true
  | [], _, d, hd => by cases hd
  | e :: ds, h, d, hd => by
    have h' : (noL e && noLs ds) = true := h
    rw [Bool.and_eq_true] at h'
    rcases List.mem_cons.mp hd with q | q
    · rw [q]; exact h'.1
    · exact noLs_mem h'.2 d q
theorem noLs_map {α : Type} {f : α → PyData} {xs : List α} (h : ∀ x, noL (f x) = true) : noLs (xs.map f) = true := noLs_all fun d hd => by
  obtain ⟨x, _, rfl⟩ := List.mem_map.mp hd
  exact h x
/-- tuples stand -/
def Grow (K : PySem.W.Frag) (H H' : Hp) : Prop := ∀ a xs, SqT K H a xs → SqT K H' a xs
theorem Grow.refl {K : PySem.W.Frag} (H : Hp) : Grow K H H := fun _ _ h => h
theorem Grow.trans {K : PySem.W.Frag} {H H1 H2 : Hp} (a : Grow K H H1) (b : Grow K H1 H2) : Grow K H H2 := fun p xs h => b p xs (a p xs h)
theorem Grow.same {K : PySem.W.Frag} {H H' : Hp} (s : Same H H') : Grow K H H' := fun _ _ h => same_tup s h
theorem Grow.set {K : PySem.W.Frag} {H : Hp} {p : Addr} {xs ys : List V} (h : H p = some (.lst xs)) : Grow K H (upd H p (.lst ys)) := fun a zs q => by
  have ne : ∀ o, H a = some o → o ≠ .lst xs → a ≠ p := fun o e n z => by rw [z, h] at e; exact n (Option.some.inj e).symm
  rcases q with (q | ⟨o, q⟩) | q
  · exact .inl (.inl (by rw [upd_ne (ne _ q (by intro z; cases z))]; exact q))
  · exact .inl (.inr ⟨o, by rw [upd_ne (ne _ q (by intro z; cases z))]; exact q⟩)
  · exact .inr q
/-- a list made behind H0 may change -/
theorem Same.over {H0 H : Hp} {p : Addr} {o : HO} (s : Same H0 H) (h : H0 p = none) : Same H0 (upd H p o) := fun b u e => by
  rw [upd_ne (ne_of_none e h)]
  exact s b u e
mutual
theorem dp_grow {K : PySem.W.Frag} {H H' : Hp} (s : Grow K H H') : ∀ {d : PyData} {x : V}, noL d = true → Dp K H x d → Dp K H' x d
  | .none, _, _, h => by cases h; exact .non
  | .bool b, _, _, h => by cases h; exact .bl b
  | .int i, _, _, h => by cases h; exact .int i
  | .str z, _, _, h => by cases h; exact .str z
  | .list ds, _, n, h => by cases n
  | .tuple ds, _, n, h => by
    cases h with
    | tup h a => exact .tup (s _ _ h) (dpAll_grow s n a)
  | .dict _, _, n, h => by cases h
theorem dpAll_grow {K : PySem.W.Frag} {H H' : Hp} (s : Grow K H H') : ∀ {ds : List PyData} {xs : List V}, noLs ds = true → DpAll K H xs ds → DpAll K H' xs ds
  | [], _, _, h => by cases h; exact .nil
  | d :: ds, _, n, h => by
    have n' : (noL d && noLs ds) = true := n
    rw [Bool.and_eq_true] at n'
    cases h with
    | cons h a => exact .cons (dp_grow s n'.1 h) (dpAll_grow s n'.2 a)
end
theorem dpAll_snoc {K : PySem.W.Frag} {H : Hp} {v : V} {d : PyData} (hv : Dp K H v d) : ∀ {ds : List PyData} {vs : List V}, DpAll K H vs ds → DpAll K H (vs ++ [v]) (ds ++ [d])
  | [], _, h => by cases h; exact .cons hv .nil
  | _ :: _, _, h => by
    cases h with
    | cons h a => exact .cons h (dpAll_snoc hv a)
theorem dpAll_append {K : PySem.W.Frag} {H : Hp} {ws : List V} {es : List PyData} (hw : DpAll K H ws es) : ∀ {ds : List PyData} {vs : List V}, DpAll K H vs ds → DpAll K H (vs ++ ws) (ds ++ es)
  | [], _, h => by cases h; exact hw
  | _ :: _, _, h => by
    cases h with
    | cons h a => exact .cons h (dpAll_append hw a)
theorem dpAll_set {K : PySem.W.Frag} {H : Hp} {v : V} {d : PyData} (hv : Dp K H v d) : ∀ {ds : List PyData} {vs : List V} (i : Nat), DpAll K H vs ds → DpAll K H (vs.set i v) (ds.set i d)
  | [], _, i, h => by cases h; exact .nil
  | _ :: _, _, i, h => by
    cases h with
    | cons h a =>
      cases i with
      | zero => exact .cons hv a
      | succ i => exact .cons h (dpAll_set hv i a)
theorem dpAll_at {K : PySem.W.Frag} {H : Hp} {ds : List PyData} {vs : List V} {i : Nat} {v : V} (h : DpAll K H vs ds) (e : vs[i]? = some v) : ∃ d, ds[i]? = some d ∧ Dp K H v d := by
  have hl := dpAll_len h
  have hi : i < ds.length := by rw [← hl]; exact (List.getElem?_eq_some_iff.mp e).1
  obtain ⟨x, e1, e2⟩ := dpAll_get h (List.getElem?_eq_getElem hi)
  rw [e] at e1
  exact ⟨_, List.getElem?_eq_getElem hi, by rw [Option.some.inj e1]; exact e2⟩
theorem dpAll_ints (K : PySem.W.Frag) (H : Hp) (ns : List Int) : DpAll K H (ns.map V.int) (ns.map PyData.int) := all_ints K H ns
theorem dpAll_int_eq {K : PySem.W.Frag} {H : Hp} : ∀ {ns : List Int} {vs : List V}, DpAll K H vs (ns.map PyData.int) → vs = ns.map V.int
  | [], _, h => by cases h; rfl
  | n :: ns, _, h => by
    cases h with
    | cons h a =>
      cases h
      rw [dpAll_int_eq a]
      rfl
theorem dpAll_bl_eq {K : PySem.W.Frag} {H : Hp} : ∀ {ns : List Bool} {vs : List V}, DpAll K H vs (ns.map PyData.bool) → vs = ns.map V.bl
  | [], _, h => by cases h; rfl
  | n :: ns, _, h => by
    cases h with
    | cons h a =>
      cases h
      rw [dpAll_bl_eq a]
      rfl
theorem dpAll_str_eq {K : PySem.W.Frag} {H : Hp} : ∀ {ns : List Str} {vs : List V}, DpAll K H vs (ns.map PyData.str) → vs = ns.map V.str
  | [], _, h => by cases h; rfl
  | n :: ns, _, h => by
    cases h with
    | cons h a =>
      cases h
      rw [dpAll_str_eq a]
      rfl
/-! ### what comes of an expression -/
def EvD (K : PySem.W.Frag) (te : TE) (σ : L2.St) (H : Hp) (d : PyData) : Prop := ∀ H1, Same H H1 → ∀ Q : VK, (∀ v H2, Same H1 H2 → Dp K H2 v d → Q v H2) → te σ H1 Q
/-- a new list -/
def EvN (K : PySem.W.Frag) (te : TE) (σ : L2.St) (H : Hp) (ds : List PyData) : Prop := ∀ H1, Same H H1 → ∀ Q : VK, (∀ p vs H2, H1 p = none → Same H1 H2 → H2 p = some (.lst vs) → DpAll K H2 vs ds → Q (.ref p) H2) → te σ H1 Q
def EvB (tt : TT) (σ : L2.St) (H : Hp) (b : Bool) : Prop := ∀ H1, Same H H1 → ∀ Q : Bool → Hp → Prop, (∀ H2, Same H1 H2 → Q b H2) → tt σ H1 Q
def EvA (K : PySem.W.Frag) (ta : TA) (σ : L2.St) (H : Hp) (ds : List PyData) : Prop := ∀ H1, Same H H1 → ∀ Q : List V → Hp → Prop, (∀ vs H2, Same H1 H2 → DpAll K H2 vs ds → Q vs H2) → ta σ H1 Q
def EvO (to : TO) (σ : L2.St) (H : Hp) (o : Option Int) : Prop := ∀ H1, Same H H1 → ∀ Q : Option Int → Hp → Prop, (∀ H2, Same H1 H2 → Q o H2) → to σ H1 Q
/-- the promise of a def that tells data -/
def spD (K : PySem.W.Frag) {ι : Type} (args : ι → List PyData) (pre : ι → Prop) (res : ι → PyData) : Sp := fun vs H Q _ => ∃ i, pre i ∧ DpAll K H vs (args i) ∧ ∀ v H', Same H H' → Dp K H' v (res i) → Q v H'
/-- .. a new list -/
def spN (K : PySem.W.Frag) {ι : Type} (args : ι → List PyData) (pre : ι → Prop) (res : ι → List PyData) : Sp := fun vs H Q _ => ∃ i, pre i ∧ DpAll K H vs (args i) ∧ ∀ p us H', H p = none → Same H H' → H' p = some (.lst us) → DpAll K H' us (res i) → Q (.ref p) H'
theorem spN_D {K : PySem.W.Frag} {ι : Type} {args : ι → List PyData} {pre : ι → Prop} {res : ι → List PyData} (vs : List V) (H : Hp) (Q : VK) (E : XK) (h : spD K args pre (fun i => .list (res i)) vs H Q E) : spN K args pre res vs H Q E := by
  obtain ⟨i, h1, h2, k⟩ := h
  exact ⟨i, h1, h2, fun p us H' _ s e a => k _ _ s (.lst (SqL.of e) a)⟩
section
variable {K : PySem.W.Frag} {σ : L2.St} {H H' : Hp} {ta tb tc te : TE} {tt tu tw : TT} {d e f : PyData} {ds es : List PyData}
theorem EvD.mono (s : Same H H') (h : EvD K te σ H d) : EvD K te σ H' d := fun H1 a Q q => h H1 (s.trans a) Q q
theorem EvN.mono (s : Same H H') (h : EvN K te σ H ds) : EvN K te σ H' ds := fun H1 a Q q => h H1 (s.trans a) Q q
theorem EvB.mono {b : Bool} (s : Same H H') (h : EvB tt σ H b) : EvB tt σ H' b := fun H1 a Q q => h H1 (s.trans a) Q q
theorem EvA.mono {ta : TA} (s : Same H H') (h : EvA K ta σ H ds) : EvA K ta σ H' ds := fun H1 a Q q => h H1 (s.trans a) Q q
theorem EvD.eq (h : EvD K te σ H d) (q : d = e) : EvD K te σ H e := by rw [← q]; exact h
theorem EvN.eq (h : EvN K te σ H ds) (q : ds = es) : EvN K te σ H es := by rw [← q]; exact h
theorem EvB.eq {a b : Bool} (h : EvB tt σ H a) (q : a = b) : EvB tt σ H b := by rw [← q]; exact h
theorem EvN.toD (h : EvN K te σ H ds) : EvD K te σ H (.list ds) := fun H1 s Q q => h H1 s Q fun p vs H2 _ s2 e a => q _ H2 s2 (.lst (SqL.of e) a)
theorem ed_var {i : Nat} {v : V} (h : σ[i]? = some (some v)) (hd : Dp K H v d) : EvD K (tVar i) σ H d := fun H1 s Q q => ⟨v, h, q v H1 (Same.refl _) (dp_same s hd)⟩
theorem ed_c {v : V} (hd : ∀ H, Dp K H v d) : EvD K (tC v) σ H d := fun H1 _ Q q => q v H1 (Same.refl _) (hd _)
theorem ed_int {i : Int} : EvD K (tC (.int i)) σ H (.int i) := ed_c fun _ => .int i
theorem ed_str {x : Str} : EvD K (tC (.str x)) σ H (.str x) := ed_c fun _ => .str x
theorem ed_bl {b : Bool} : EvD K (tC (.bl b)) σ H (.bool b) := ed_c fun _ => .bl b
theorem ed_non : EvD K (tC .non) σ H .none := ed_c fun _ => .non
/-- a binary operator told by data -/
theorem ed_op {r : R2} (ha : EvD K ta σ H d) (hb : EvD K tb σ H e) (hr : ∀ x y H1, Same H H1 → Dp K H1 x d → Dp K H1 y e → ∀ Q : VK, (∀ v H2, Same H1 H2 → Dp K H2 v f → Q v H2) → r x y H1 Q) : EvD K (tOp r ta tb) σ H f := fun H1 s Q q =>
  ha H1 s _ fun x H2 s2 dx => hb H2 (s.trans s2) _ fun y H3 s3 dy => hr x y H3 ((s.trans s2).trans s3) (dp_same s3 dx) dy Q fun v H4 s4 dv => q v H4 ((s2.trans s3).trans s4) dv
theorem en_op {r : R2} (ha : EvD K ta σ H d) (hb : EvD K tb σ H e) (hr : ∀ x y H1, Same H H1 → Dp K H1 x d → Dp K H1 y e → ∀ Q : VK, (∀ p vs H2, H1 p = none → Same H1 H2 → H2 p = some (.lst vs) → DpAll K H2 vs ds → Q (.ref p) H2) → r x y H1 Q) : EvN K (tOp r ta tb) σ H ds := fun H1 s Q q =>
  ha H1 s _ fun x H2 s2 dx => hb H2 (s.trans s2) _ fun y H3 s3 dy => hr x y H3 ((s.trans s2).trans s3) (dp_same s3 dx) dy Q fun p vs H4 n s4 h4 a4 => q p vs H4 ((s2.trans s3).free n) ((s2.trans s3).trans s4) h4 a4
theorem ed_I {g : Int → Int → Int} {i j : Int} (ha : EvD K ta σ H (.int i)) (hb : EvD K tb σ H (.int j)) : EvD K (tOp (rI0 fun i j => .int (g i j)) ta tb) σ H (.int (g i j)) :=
  ed_op ha hb fun x y H1 _ dx dy Q q => by
    cases dx; cases dy
    exact ⟨i, j, rfl, rfl, q _ H1 (Same.refl _) (.int _)⟩
theorem ed_IC {C : Int → Int → Prop} {g : Int → Int → Int} {i j : Int} (ha : EvD K ta σ H (.int i)) (hb : EvD K tb σ H (.int j)) (hc : C i j) : EvD K (tOp (rI C fun i j => .int (g i j)) ta tb) σ H (.int (g i j)) :=
  ed_op ha hb fun x y H1 _ dx dy Q q => by
    cases dx; cases dy
    exact ⟨i, j, rfl, rfl, hc, q _ H1 (Same.refl _) (.int _)⟩
theorem ed_cI {g : Int → Int → Bool} {i j : Int} (ha : EvD K ta σ H (.int i)) (hb : EvD K tb σ H (.int j)) : EvD K (tOp (rI0 fun i j => .bl (g i j)) ta tb) σ H (.bool (g i j)) :=
  ed_op ha hb fun x y H1 _ dx dy Q q => by
    cases dx; cases dy
    exact ⟨i, j, rfl, rfl, q _ H1 (Same.refl _) (.bl _)⟩
theorem ed_neg {i : Int} (ha : EvD K ta σ H (.int i)) : EvD K (tUn (rU fun i => .int (-i)) ta) σ H (.int (-i)) := fun H1 s Q q =>
  ha H1 s _ fun x H2 s2 dx => by
    cases dx
    exact ⟨i, rfl, q _ H2 s2 (.int _)⟩
/-- == and != of flat data -/
def flatD : PyData → Option V
  | .none => some .non
  | .bool b => some (.bl b)
  | .int i => some (.int i)
  | .str x => some (.str x)
  | _ => none
theorem flat_dp {v w : V} (h : flatD d = some w) (hd : Dp K H v d) : v = w := by
  cases hd <;> first | (cases h; rfl) | cases h
theorem ed_eq {x y : V} {b : Bool} (ha : EvD K ta σ H d) (hb : EvD K tb σ H e) (h1 : flatD d = some x) (h2 : flatD e = some y) (hs : scal x y = true) (hb2 : decide (x = y) = b) : EvD K (tOp rEq ta tb) σ H (.bool b) :=
  ed_op ha hb fun u v H1 _ dx dy Q q => by
    rw [flat_dp h1 dx, flat_dp h2 dy]
    exact ⟨hs, by rw [hb2]; exact q _ H1 (Same.refl _) (.bl _)⟩
theorem ed_ne {x y : V} {b : Bool} (ha : EvD K ta σ H d) (hb : EvD K tb σ H e) (h1 : flatD d = some x) (h2 : flatD e = some y) (hs : scal x y = true) (hb2 : (!decide (x = y)) = b) : EvD K (tOp rNe ta tb) σ H (.bool b) :=
  ed_op ha hb fun u v H1 _ dx dy Q q => by
    rw [flat_dp h1 dx, flat_dp h2 dy]
    exact ⟨hs, by rw [hb2]; exact q _ H1 (Same.refl _) (.bl _)⟩
theorem decV_int {i j : Int} : decide (V.int i = V.int j) = decide (i = j) := by simp
theorem decV_str {i j : Str} : decide (V.str i = V.str j) = decide (i = j) := by simp
theorem decV_bl {i j : Bool} : decide (V.bl i = V.bl j) = decide (i = j) := by simp
theorem ed_eqI {i j : Int} (ha : EvD K ta σ H (.int i)) (hb : EvD K tb σ H (.int j)) : EvD K (tOp rEq ta tb) σ H (.bool (decide (i = j))) := ed_eq ha hb rfl rfl rfl decV_int
theorem ed_eqS {i j : Str} (ha : EvD K ta σ H (.str i)) (hb : EvD K tb σ H (.str j)) : EvD K (tOp rEq ta tb) σ H (.bool (decide (i = j))) := ed_eq ha hb rfl rfl rfl decV_str
theorem ed_eqB {i j : Bool} (ha : EvD K ta σ H (.bool i)) (hb : EvD K tb σ H (.bool j)) : EvD K (tOp rEq ta tb) σ H (.bool (decide (i = j))) := ed_eq ha hb rfl rfl rfl decV_bl
theorem ed_neI {i j : Int} (ha : EvD K ta σ H (.int i)) (hb : EvD K tb σ H (.int j)) : EvD K (tOp rNe ta tb) σ H (.bool (!decide (i = j))) := ed_ne ha hb rfl rfl rfl (by rw [decV_int])
theorem ed_neS {i j : Str} (ha : EvD K ta σ H (.str i)) (hb : EvD K tb σ H (.str j)) : EvD K (tOp rNe ta tb) σ H (.bool (!decide (i = j))) := ed_ne ha hb rfl rfl rfl (by rw [decV_str])
theorem ed_neB {i j : Bool} (ha : EvD K ta σ H (.bool i)) (hb : EvD K tb σ H (.bool j)) : EvD K (tOp rNe ta tb) σ H (.bool (!decide (i = j))) := ed_ne ha hb rfl rfl rfl (by rw [decV_bl])
/-- == of data -/
theorem ed_eqD (ha : EvD K ta σ H d) (hb : EvD K tb σ H e) (h1 : SeqAt.shaped d = true) (h2 : SeqAt.shaped e = true) : EvD K (tOp (rEqD K) ta tb) σ H (.bool (PyData.eqv d e)) :=
  ed_op ha hb fun u v H1 _ dx dy Q q => ⟨d, e, dx, dy, h1, h2, q _ H1 (Same.refl _) (.bl _)⟩
theorem ed_neD (ha : EvD K ta σ H d) (hb : EvD K tb σ H e) (h1 : SeqAt.shaped d = true) (h2 : SeqAt.shaped e = true) : EvD K (tOp (rNeD K) ta tb) σ H (.bool (!PyData.eqv d e)) :=
  ed_op ha hb fun u v H1 _ dx dy Q q => ⟨d, e, dx, dy, h1, h2, q _ H1 (Same.refl _) (.bl _)⟩
/-- x is None, x is not None -/
def isNo : PyData → Bool
  | .none => true
  | _ => false
theorem dp_isNo {v : V} (h : Dp K H v d) : decide (v = .non) = isNo d := by
  cases h <;> simp [isNo]
theorem ed_isN (ha : EvD K ta σ H d) : EvD K (tOp (fun x y H Q => y = .non ∧ Q (.bl (decide (x = .non))) H) ta (tC .non)) σ H (.bool (isNo d)) := fun H1 s Q q =>
  ha H1 s _ fun x H2 s2 dx => ⟨rfl, by rw [dp_isNo dx]; exact q _ H2 s2 (.bl _)⟩
theorem ed_notN (ha : EvD K ta σ H d) : EvD K (tOp (fun x y H Q => y = .non ∧ Q (.bl (!decide (x = .non))) H) ta (tC .non)) σ H (.bool (!isNo d)) := fun H1 s Q q =>
  ha H1 s _ fun x H2 s2 dx => ⟨rfl, by rw [dp_isNo dx]; exact q _ H2 s2 (.bl _)⟩
/-- x in xs, of flat data -/
def eqF : PyData → PyData → Bool
  | .none, .none => true
  | .bool a, .bool b => a == b
  | .bool a, .int b => (if a then 1 else 0) == b
  | .int a, .bool b => a == (if b then 1 else 0)
  | .int a, .int b => a == b
  | .str a, .str b => a == b
  | _, _ => false
def inD (d : PyData) (ds : List PyData) : Bool := ds.any fun e => eqF e d
def flats : List PyData → Bool
  | [] => true
  | d :: ds => (flatD d).isSome && flats ds
theorem flat_eqF {v w : V} {d e : PyData} (h1 : (flatD d).isSome = true) (h2 : (flatD e).isSome = true) (a : Dp K H v d) (b : Dp K H w e) : eqV v w = eqF d e := by
  cases a <;> cases b <;> first | rfl | (cases h1; done) | (cases h2; done)
theorem flat_flatV {v : V} {d : PyData} (h : (flatD d).isSome = true) (a : Dp K H v d) : flatV v = true := by
  cases a <;> first | rfl | cases h
theorem flats_all : ∀ {ds : List PyData} {vs : List V}, flats ds = true → DpAll K H vs ds → vs.all flatV = true
  | [], _, _, h => by cases h; rfl
  | d :: ds, _, n, h => by
    have n' : ((flatD d).isSome && flats ds) = true := n
    rw [Bool.and_eq_true] at n'
    cases h with
    | cons h a => rw [List.all_cons, flat_flatV n'.1 h, flats_all n'.2 a]; rfl
theorem inV_inD {v : V} {d : PyData} (hd : (flatD d).isSome = true) (a : Dp K H v d) : ∀ {ds : List PyData} {vs : List V}, flats ds = true → DpAll K H vs ds → inV v vs = inD d ds
  | [], _, _, h => by cases h; rfl
  | e :: ds, _, n, h => by
    have n' : ((flatD e).isSome && flats ds) = true := n
    rw [Bool.and_eq_true] at n'
    cases h with
    | cons h b =>
      have ih := inV_inD hd a n'.2 b
      unfold inV inD at ih ⊢
      rw [List.any_cons, List.any_cons, ih, flat_eqF n'.1 hd h a]
theorem flats_ints (ns : List Int) : flats (ns.map PyData.int) = true := by
  induction ns with
  | nil => rfl
  | cons n ns ih => exact ih
theorem flats_strs (ns : List Str) : flats (ns.map PyData.str) = true := by
  induction ns with
  | nil => rfl
  | cons n ns ih => exact ih
theorem inD_int (i : Int) (ns : List Int) : inD (.int i) (ns.map PyData.int) = decide (i ∈ ns) := by
  induction ns with
  | nil => rfl
  | cons n ns ih =>
    unfold inD at ih ⊢
    rw [List.map_cons, List.any_cons, ih]
    show (n == i || _) = _
    by_cases h : i = n
    · simp [h]
    · have h2 : ¬ n = i := fun e => h e.symm
      simp [h, h2]
theorem inD_none (ns : List Int) : inD .none (ns.map PyData.int) = false := by
  induction ns with
  | nil => rfl
  | cons n ns ih => exact ih
theorem ed_inT {b : Bool} (ha : EvD K ta σ H d) (hb : EvD K tb σ H (.tuple ds)) (h1 : (flatD d).isSome = true) (h2 : flats ds = true) (hi : inD d ds = b) : EvD K (tOp (rIn K false) ta tb) σ H (.bool b) :=
  ed_op ha hb fun x y H1 _ dx dy Q q => by
    cases dy with
    | tup h a => exact ⟨_, _, rfl, .inr h, flat_flatV h1 dx, flats_all h2 a, by rw [inV_inD h1 dx h2 a, hi]; exact q _ H1 (Same.refl _) (.bl _)⟩
theorem ed_inL {b : Bool} (ha : EvD K ta σ H d) (hb : EvD K tb σ H (.list ds)) (h1 : (flatD d).isSome = true) (h2 : flats ds = true) (hi : inD d ds = b) : EvD K (tOp (rIn K false) ta tb) σ H (.bool b) :=
  ed_op ha hb fun x y H1 _ dx dy Q q => by
    cases dy with
    | lst h a => exact ⟨_, _, rfl, .inl h, flat_flatV h1 dx, flats_all h2 a, by rw [inV_inD h1 dx h2 a, hi]; exact q _ H1 (Same.refl _) (.bl _)⟩
/-- subscripts -/
theorem atI_dp {vs : List V} {i : Int} (a : DpAll K H vs ds) (h : atI ds i = some d) : ∃ v, atI vs i = some v ∧ Dp K H v d := by
  unfold atI at h ⊢
  rw [dpAll_len a]
  cases e : ixN ds.length i with
  | none => rw [e] at h; cases h
  | some j =>
    rw [e] at h
    exact dpAll_get a h
theorem ed_ixT {i : Int} (ha : EvD K ta σ H (.tuple ds)) (hb : EvD K tb σ H (.int i)) (h : atI ds i = some d) : EvD K (tOp (rIxT K) ta tb) σ H d :=
  ed_op ha hb fun x y H1 _ dx dy Q q => by
    cases dy
    cases dx with
    | tup hs a =>
      obtain ⟨v, e1, e2⟩ := atI_dp a h
      exact ⟨_, _, i, v, rfl, rfl, hs, e1, q _ H1 (Same.refl _) e2⟩
theorem ed_ixL {i : Int} (ha : EvD K ta σ H (.list ds)) (hb : EvD K tb σ H (.int i)) (h : atI ds i = some d) : EvD K (tOp (rIxL K) ta tb) σ H d :=
  ed_op ha hb fun x y H1 _ dx dy Q q => by
    cases dy
    cases dx with
    | lst hs a =>
      obtain ⟨v, e1, e2⟩ := atI_dp a h
      exact ⟨_, _, i, v, rfl, rfl, hs, e1, q _ H1 (Same.refl _) e2⟩
theorem atD_nat {α : Type} {xs : List α} {j : Nat} {v : α} {i : Int} (e : i = (j : Int)) (h : xs[j]? = some v) : atI xs i = some v := by
  rw [e]
  exact atI_nat h
theorem atD_last {α : Type} {xs : List α} {v : α} {j : Nat} (hj : xs.length = j + 1) (h : xs[j]? = some v) : atI xs (-1) = some v := by
  unfold atI ixN
  rw [if_neg (by decide), if_pos (by omega)]
  show xs[(-1 + (xs.length : Int)).toNat]? = some v
  rw [show (-1 + (xs.length : Int)).toNat = j by omega]
  exact h
/-! ### tests, and, or, not -/
theorem eb_of {b : Bool} (h : EvD K te σ H (.bool b)) : EvB (tTest te) σ H b := fun H1 s Q q => h H1 s _ fun v H2 s2 dv => by
  cases dv
  exact ⟨b, rfl, q H2 s2⟩
theorem eb_val {b : Bool} (h : EvD K te σ H (.bool b)) : EvB (tB te) σ H b := fun H1 s Q q => h H1 s _ fun v H2 s2 dv => by
  cases dv
  exact ⟨b, rfl, q H2 s2⟩
theorem eb_and {a b : Bool} (h1 : EvB tt σ H a) (h2 : a = true → EvB tu σ H b) : EvB (tAnd tt tu) σ H (a && b) := fun H1 s Q q => h1 H1 s _ fun H2 s2 => by
  cases a with
  | true => exact iteT (h2 rfl H2 (s.trans s2) Q fun H3 s3 => q H3 (s2.trans s3))
  | false => exact iteF (q H2 s2)
theorem eb_or {a b : Bool} (h1 : EvB tt σ H a) (h2 : a = false → EvB tu σ H b) : EvB (tOr tt tu) σ H (a || b) := fun H1 s Q q => h1 H1 s _ fun H2 s2 => by
  cases a with
  | true => exact iteT (q H2 s2)
  | false => exact iteF (h2 rfl H2 (s.trans s2) Q fun H3 s3 => q H3 (s2.trans s3))
theorem eb_not {a : Bool} (h1 : EvB tt σ H a) : EvB (tNot tt) σ H (!a) := fun H1 s Q q => h1 H1 s _ fun H2 s2 => q H2 s2
theorem ed_and {a b : Bool} (h1 : EvD K ta σ H (.bool a)) (h2 : a = true → EvD K tb σ H (.bool b)) : EvD K (tAndV ta tb) σ H (.bool (a && b)) := fun H1 s Q q => h1 H1 s _ fun v H2 s2 dv => by
  cases dv
  cases a with
  | true => exact ⟨true, rfl, iteT (h2 rfl H2 (s.trans s2) Q fun w H3 s3 dw => q w H3 (s2.trans s3) dw)⟩
  | false => exact ⟨false, rfl, iteF (q _ H2 s2 (.bl _))⟩
theorem ed_or {a b : Bool} (h1 : EvD K ta σ H (.bool a)) (h2 : a = false → EvD K tb σ H (.bool b)) : EvD K (tOrV ta tb) σ H (.bool (a || b)) := fun H1 s Q q => h1 H1 s _ fun v H2 s2 dv => by
  cases dv
  cases a with
  | true => exact ⟨true, rfl, iteT (q _ H2 s2 (.bl _))⟩
  | false => exact ⟨false, rfl, iteF (h2 rfl H2 (s.trans s2) Q fun w H3 s3 dw => q w H3 (s2.trans s3) dw)⟩
theorem ed_not {a : Bool} (h1 : EvD K ta σ H (.bool a)) : EvD K (tNotV ta) σ H (.bool (!a)) := fun H1 s Q q => h1 H1 s _ fun v H2 s2 dv => by
  cases dv
  exact ⟨a, rfl, q _ H2 s2 (.bl _)⟩
theorem ed_if {b : Bool} (h : EvB tt σ H b) (h1 : b = true → EvD K ta σ H d) (h2 : b = false → EvD K tb σ H e) : EvD K (tIf tt ta tb) σ H (if b = true then d else e) := fun H1 s Q q => h H1 s _ fun H2 s2 => by
  cases b with
  | true => exact iteT (h1 rfl H2 (s.trans s2) Q fun v H3 s3 dv => q v H3 (s2.trans s3) dv)
  | false => exact iteF (h2 rfl H2 (s.trans s2) Q fun v H3 s3 dv => q v H3 (s2.trans s3) dv)
theorem en_if {b : Bool} (h : EvB tt σ H b) (h1 : b = true → EvN K ta σ H ds) (h2 : b = false → EvN K tb σ H es) : EvN K (tIf tt ta tb) σ H (if b = true then ds else es) := fun H1 s Q q => h H1 s _ fun H2 s2 => by
  cases b with
  | true => exact iteT (h1 rfl H2 (s.trans s2) Q fun p vs H3 n s3 dv a => q p vs H3 (s2.free n) (s2.trans s3) dv a)
  | false => exact iteF (h2 rfl H2 (s.trans s2) Q fun p vs H3 n s3 dv a => q p vs H3 (s2.free n) (s2.trans s3) dv a)
/-- the truth of a list, of a tuple -/
theorem eb_truthL (h : EvD K ta σ H (.list ds)) : EvB (fun σ H Q => ta σ H fun x H' => ∃ k, TruV K x H' k ∧ Q k H') σ H (!ds.isEmpty) := fun H1 s Q q => h H1 s _ fun v H2 s2 dv => by
  cases dv with
  | lst hs a =>
    refine ⟨_, .inl ⟨_, hs, rfl⟩, ?_⟩
    have e := dpAll_len a
    rename_i p xs
    have e2 : xs.isEmpty = ds.isEmpty := by cases xs <;> cases ds <;> first | rfl | (simp at e)
    rw [e2]
    exact q H2 s2
theorem eb_truthT (h : EvD K ta σ H (.tuple ds)) : EvB (fun σ H Q => ta σ H fun x H' => ∃ k, TruV K x H' k ∧ Q k H') σ H (!ds.isEmpty) := fun H1 s Q q => h H1 s _ fun v H2 s2 dv => by
  cases dv with
  | tup hs a =>
    refine ⟨_, .inr (.inl ⟨_, hs, rfl⟩), ?_⟩
    have e := dpAll_len a
    rename_i p xs
    have e2 : xs.isEmpty = ds.isEmpty := by cases xs <;> cases ds <;> first | rfl | (simp at e)
    rw [e2]
    exact q H2 s2
/-! ### displays, calls -/
theorem ea_nil : EvA K tNil σ H [] := fun H1 _ Q q => q [] H1 (Same.refl _) .nil
theorem ea_cons {tr : TA} (h : EvD K ta σ H d) (hr : EvA K tr σ H ds) : EvA K (tCons ta tr) σ H (d :: ds) := fun H1 s Q q =>
  h H1 s _ fun v H2 s2 dv => hr H2 (s.trans s2) _ fun vs H3 s3 a => q _ H3 (s2.trans s3) (.cons (dp_same s3 dv) a)
theorem ed_tup {t : TA} (h : EvA K t σ H ds) (hl : ds.length ≤ 1000) : EvD K (tTup t) σ H (.tuple ds) := fun H1 s Q q =>
  h H1 s _ fun vs H2 s2 a => ⟨by rw [dpAll_len a]; exact small hl, fun p hp => q _ _ (s2.trans (same_new hp _)) (.tup (tup_of upd_same) (dpAll_same (same_new hp _) a))⟩
theorem en_lst {t : TA} (h : EvA K t σ H ds) (hl : ds.length ≤ 1000) : EvN K (tLst t) σ H ds := fun H1 s Q q =>
  h H1 s _ fun vs H2 s2 a => ⟨by rw [dpAll_len a]; exact small hl, fun p hp => q p vs _ (s2.free hp) (s2.trans (same_new hp _)) upd_same (dpAll_same (same_new hp _) a)⟩
theorem ed_cal {ι : Type} {args : ι → List PyData} {pre : ι → Prop} {res : ι → PyData} {t : TA} (i : ι) (h : EvA K t σ H (args i)) (hp : pre i) : EvD K (tCal (spD K args pre res) t) σ H (res i) := fun H1 s Q q =>
  h H1 s _ fun vs H2 s2 a => ⟨i, hp, a, fun v H3 s3 dv => q v H3 (s2.trans s3) dv⟩
theorem en_cal {ι : Type} {args : ι → List PyData} {pre : ι → Prop} {res : ι → List PyData} {t : TA} (i : ι) (h : EvA K t σ H (args i)) (hp : pre i) : EvN K (tCal (spN K args pre res) t) σ H (res i) := fun H1 s Q q =>
  h H1 s _ fun vs H2 s2 a => ⟨i, hp, a, fun p us H3 n s3 e b => q p us H3 (s2.free n) (s2.trans s3) e b⟩
theorem ed_len (h : EvD K ta σ H d) (hd : d = .list ds ∨ d = .tuple ds) : EvD K (tCB (fun xs H Q => ∃ p ys, xs = [.ref p] ∧ (SqL K H p ys ∨ SqT K H p ys) ∧ Q (.int ys.length) H) (tCons ta tNil)) σ H (.int (ds.length : Nat)) := fun H1 s Q q =>
  h H1 s _ fun v H2 s2 dv => by
    rcases hd with rfl | rfl
    · cases dv with
      | lst hs a => exact ⟨_, _, rfl, .inl hs, by rw [dpAll_len a]; exact q _ H2 s2 (.int _)⟩
    · cases dv with
      | tup hs a => exact ⟨_, _, rfl, .inr hs, by rw [dpAll_len a]; exact q _ H2 s2 (.int _)⟩
theorem ed_lenL (h : EvD K ta σ H (.list ds)) : EvD K (tCB (fun xs H Q => ∃ p ys, xs = [.ref p] ∧ (SqL K H p ys ∨ SqT K H p ys) ∧ Q (.int ys.length) H) (tCons ta tNil)) σ H (.int (ds.length : Nat)) := ed_len h (.inl rfl)
theorem ed_lenT (h : EvD K ta σ H (.tuple ds)) : EvD K (tCB (fun xs H Q => ∃ p ys, xs = [.ref p] ∧ (SqL K H p ys ∨ SqT K H p ys) ∧ Q (.int ys.length) H) (tCons ta tNil)) σ H (.int (ds.length : Nat)) := ed_len h (.inr rfl)
theorem ed_max2 {i j : Int} (ha : EvD K ta σ H (.int i)) (hb : EvD K tb σ H (.int j)) : EvD K (tCB (fun xs H Q => ∃ i j, xs = [.int i, .int j] ∧ Q (.int (if j > i then j else i)) H) (tCons ta (tCons tb tNil))) σ H (.int (max i j)) := fun H1 s Q q =>
  ha H1 s _ fun v H2 s2 dv => hb H2 (s.trans s2) _ fun u H3 s3 du => by
    cases dv; cases du
    refine ⟨i, j, rfl, ?_⟩
    have e : (if j > i then j else i) = max i j := by split <;> omega
    rw [e]
    exact q _ H3 (s2.trans s3) (.int _)
theorem ed_min2 {i j : Int} (ha : EvD K ta σ H (.int i)) (hb : EvD K tb σ H (.int j)) : EvD K (tCB (fun xs H Q => ∃ i j, xs = [.int i, .int j] ∧ Q (.int (if j < i then j else i)) H) (tCons ta (tCons tb tNil))) σ H (.int (min i j)) := fun H1 s Q q =>
  ha H1 s _ fun v H2 s2 dv => hb H2 (s.trans s2) _ fun u H3 s3 du => by
    cases dv; cases du
    refine ⟨i, j, rfl, ?_⟩
    have e : (if j < i then j else i) = min i j := by split <;> omega
    rw [e]
    exact q _ H3 (s2.trans s3) (.int _)
theorem en_list (h : EvD K ta σ H d) (hd : d = .list ds ∨ d = .tuple ds) : EvN K (tCB (fun xs H Q => ∃ p ys, xs = [.ref p] ∧ (SqL K H p ys ∨ SqT K H p ys) ∧ ∀ l, H l = none → Q (.ref l) (upd H l (.lst ys))) (tCons ta tNil)) σ H ds := fun H1 s Q q =>
  h H1 s _ fun v H2 s2 dv => by
    rcases hd with rfl | rfl
    · cases dv with
      | lst hs a => exact ⟨_, _, rfl, .inl hs, fun l hl => q l _ _ (s2.free hl) (s2.trans (same_new hl _)) upd_same (dpAll_same (same_new hl _) a)⟩
    · cases dv with
      | tup hs a => exact ⟨_, _, rfl, .inr hs, fun l hl => q l _ _ (s2.free hl) (s2.trans (same_new hl _)) upd_same (dpAll_same (same_new hl _) a)⟩
theorem ed_tuple (h : EvD K ta σ H (.list ds)) : EvD K (tCB (fun xs H Q => ∃ p ys, xs = [.ref p] ∧ ((SqL K H p ys ∧ ∀ l, H l = none → Q (.ref l) (upd H l (.tup ys))) ∨ (SqT K H p ys ∧ Q (.ref p) H))) (tCons ta tNil)) σ H (.tuple ds) := fun H1 s Q q =>
  h H1 s _ fun v H2 s2 dv => by
    cases dv with
    | lst hs a => exact ⟨_, _, rfl, .inl ⟨hs, fun l hl => q _ _ (s2.trans (same_new hl _)) (.tup (tup_of upd_same) (dpAll_same (same_new hl _) a))⟩⟩
theorem ed_sum {ns : List Int} (h : EvD K ta σ H (.list (ns.map .int))) : EvD K (tCB (rSum K) (tCons ta tNil)) σ H (.int ns.sum) := fun H1 s Q q =>
  h H1 s _ fun v H2 s2 dv => by
    cases dv with
    | lst hs a =>
      rw [dpAll_int_eq a] at hs
      exact ⟨_, ns, rfl, hs, q _ H2 s2 (.int _)⟩
theorem ed_all {bs : List Bool} (h : EvD K ta σ H (.list (bs.map .bool))) : EvD K (tCB (rAll K) (tCons ta tNil)) σ H (.bool (bs.all id)) := fun H1 s Q q =>
  h H1 s _ fun v H2 s2 dv => by
    cases dv with
    | lst hs a =>
      rw [dpAll_bl_eq a] at hs
      exact ⟨_, bs, rfl, hs, q _ H2 s2 (.bl _)⟩
theorem ed_any {bs : List Bool} (h : EvD K ta σ H (.list (bs.map .bool))) : EvD K (tCB (rAny K) (tCons ta tNil)) σ H (.bool (bs.any id)) := fun H1 s Q q =>
  h H1 s _ fun v H2 s2 dv => by
    cases dv with
    | lst hs a =>
      rw [dpAll_bl_eq a] at hs
      exact ⟨_, bs, rfl, hs, q _ H2 s2 (.bl _)⟩
/-- the greatest, the least of some -/
def maxL : List Int → Int
  | [] => 0
  | x :: xs => xs.foldl max x
def minL : List Int → Int
  | [] => 0
  | x :: xs => xs.foldl min x
theorem foldl_max_le : ∀ (xs : List Int) (a : Int), a ≤ xs.foldl max a ∧ (∀ y, y ∈ xs → y ≤ xs.foldl max a) ∧ (xs.foldl max a = a ∨ xs.foldl max a ∈ xs)
  | [], a => ⟨Int.le_refl _, fun y h => (by cases h), .inl rfl⟩
  | x :: xs, a => by
    obtain ⟨h1, h2, h3⟩ := foldl_max_le xs (max a x)
    refine ⟨?_, fun y hy => ?_, ?_⟩
    · show a ≤ xs.foldl max (max a x)
      omega
    · show y ≤ xs.foldl max (max a x)
      rcases List.mem_cons.mp hy with q | q
      · omega
      · exact h2 y q
    · show xs.foldl max (max a x) = a ∨ xs.foldl max (max a x) ∈ x :: xs
      rcases h3 with q | q
      · rw [q]
        by_cases e : x ≤ a
        · exact .inl (by omega)
        · exact .inr (by rw [show max a x = x by omega]; exact List.mem_cons_self ..)
      · exact .inr (List.mem_cons_of_mem _ q)
theorem foldl_min_le : ∀ (xs : List Int) (a : Int), xs.foldl min a ≤ a ∧ (∀ y, y ∈ xs → xs.foldl min a ≤ y) ∧ (xs.foldl min a = a ∨ xs.foldl min a ∈ xs)
  | [], a => ⟨Int.le_refl _, fun y h => (by cases h), .inl rfl⟩
  | x :: xs, a => by
    obtain ⟨h1, h2, h3⟩ := foldl_min_le xs (min a x)
    refine ⟨?_, fun y hy => ?_, ?_⟩
    · show xs.foldl min (min a x) ≤ a
      omega
    · show xs.foldl min (min a x) ≤ y
      rcases List.mem_cons.mp hy with q | q
      · omega
      · exact h2 y q
    · show xs.foldl min (min a x) = a ∨ xs.foldl min (min a x) ∈ x :: xs
      rcases h3 with q | q
      · rw [q]
        by_cases e : a ≤ x
        · exact .inl (by omega)
        · exact .inr (by rw [show min a x = x by omega]; exact List.mem_cons_self ..)
      · exact .inr (List.mem_cons_of_mem _ q)
theorem maxL_eq {ns : List Int} {m : Int} (h1 : m ∈ ns) (h2 : ∀ y, y ∈ ns → y ≤ m) : m = maxL ns := by
  cases ns with
  | nil => cases h1
  | cons x xs =>
    obtain ⟨a, b, c⟩ := foldl_max_le xs x
    show m = xs.foldl max x
    have l1 : m ≤ xs.foldl max x := by
      rcases List.mem_cons.mp h1 with q | q
      · omega
      · exact b m q
    have l2 : xs.foldl max x ≤ m := by
      rcases c with q | q
      · rw [q]; exact h2 x (List.mem_cons_self ..)
      · exact h2 _ (List.mem_cons_of_mem _ q)
    omega
theorem minL_eq {ns : List Int} {m : Int} (h1 : m ∈ ns) (h2 : ∀ y, y ∈ ns → m ≤ y) : m = minL ns := by
  cases ns with
  | nil => cases h1
  | cons x xs =>
    obtain ⟨a, b, c⟩ := foldl_min_le xs x
    show m = xs.foldl min x
    have l1 : xs.foldl min x ≤ m := by
      rcases List.mem_cons.mp h1 with q | q
      · omega
      · exact b m q
    have l2 : m ≤ xs.foldl min x := by
      rcases c with q | q
      · rw [q]; exact h2 x (List.mem_cons_self ..)
      · exact h2 _ (List.mem_cons_of_mem _ q)
    omega
theorem ed_maxL {ns : List Int} (h : EvD K ta σ H (.list (ns.map .int))) (hn : 0 < ns.length) : EvD K (tCB (rMax K) (tCons ta tNil)) σ H (.int (maxL ns)) := fun H1 s Q q =>
  h H1 s _ fun v H2 s2 dv => by
    cases dv with
    | lst hs a =>
      rw [dpAll_int_eq a] at hs
      exact ⟨_, ns, rfl, hs, hn, fun m h1 h2 => by rw [maxL_eq h1 h2]; exact q _ H2 s2 (.int _)⟩
theorem ed_minL {ns : List Int} (h : EvD K ta σ H (.list (ns.map .int))) (hn : 0 < ns.length) : EvD K (tCB (rMin K) (tCons ta tNil)) σ H (.int (minL ns)) := fun H1 s Q q =>
  h H1 s _ fun v H2 s2 dv => by
    cases dv with
    | lst hs a =>
      rw [dpAll_int_eq a] at hs
      exact ⟨_, ns, rfl, hs, hn, fun m h1 h2 => by rw [minL_eq h1 h2]; exact q _ H2 s2 (.int _)⟩
/-! ### slices, sums of lists and tuples -/
def cutD (ds : List PyData) (lo hi : Option Int) : List PyData := (ds.drop (HT.sIx ds.length 0 lo)).take (HT.sIx ds.length ds.length hi - HT.sIx ds.length 0 lo)
theorem dpAll_drop : ∀ (n : Nat) {ds : List PyData} {vs : List V}, DpAll K H vs ds → DpAll K H (vs.drop n) (ds.drop n)
  | 0, _, _, h => h
  | n + 1, [], _, h => by cases h; exact .nil
  | n + 1, _ :: _, _, h => by
    cases h with
    | cons h a => exact dpAll_drop n a
theorem dpAll_take : ∀ (n : Nat) {ds : List PyData} {vs : List V}, DpAll K H vs ds → DpAll K H (vs.take n) (ds.take n)
  | 0, _, _, h => .nil
  | n + 1, [], _, h => by cases h; exact .nil
  | n + 1, _ :: _, _, h => by
    cases h with
    | cons h a => exact .cons h (dpAll_take n a)
theorem dpAll_cut {vs : List V} {lo hi : Option Int} (a : DpAll K H vs ds) : DpAll K H (cutV vs lo hi) (cutD ds lo hi) := by
  unfold cutV cutD
  rw [dpAll_len a]
  exact dpAll_take _ (dpAll_drop _ a)
theorem eo_none : EvO tNoPart σ H none := fun H1 _ _ q => q H1 (Same.refl _)
theorem eo_some {i : Int} (h : EvD K te σ H (.int i)) : EvO (tPart te) σ H (some i) := fun H1 s _ q => h H1 s _ fun v H2 s2 dv => by
  cases dv
  exact ⟨i, rfl, q H2 s2⟩
theorem en_slL {tl th : TO} {lo hi : Option Int} (h : EvD K te σ H (.list ds)) (h1 : EvO tl σ H lo) (h2 : EvO th σ H hi) : EvN K (tSl (rSlL K) te tl th) σ H (cutD ds lo hi) := fun H1 s Q q =>
  h H1 s _ fun v H2 s2 dv => h1 H2 (s.trans s2) _ fun H3 s3 => h2 H3 ((s.trans s2).trans s3) _ fun H4 s4 => by
    cases dp_same (s3.trans s4) dv with
    | lst hs a => exact ⟨_, _, rfl, hs, fun p hp => q p _ _ (((s2.trans s3).trans s4).free hp) (((s2.trans s3).trans s4).trans (same_new hp _)) upd_same (dpAll_same (same_new hp _) (dpAll_cut a))⟩
theorem en_cat (ha : EvN K ta σ H ds) (hb : EvN K tb σ H es) (hl : ds.length + es.length ≤ 5000) : EvN K (tOp rCat ta tb) σ H (ds ++ es) := fun H1 s Q q =>
  ha H1 s _ fun p vs H2 n s2 h2 a => hb H2 (s.trans s2) _ fun p' ws H3 n' s3 h3 b => ⟨p, p', vs, ws, rfl, rfl, s3 _ _ h2, h3, by rw [dpAll_len a, dpAll_len b]; exact Nat.le_trans hl (by decide), fun l hl =>
    q l _ _ ((s2.trans s3).free hl) ((s2.trans s3).trans (same_new hl _)) upd_same (dpAll_same (same_new hl _) (dpAll_append b (dpAll_same s3 a)))⟩
end
end LB
/-! Statements, loops and comprehensions told by data. Own text. -/
namespace LB
open PySem L2
/-- all but the bad ones stand -/
structure Chg (K : PySem.W.Frag) (bad : Addr → Prop) (H H' : Hp) : Prop where
  but : ∀ a o, ¬ bad a → H a = some o → H' a = some o
  grow : Grow K H H'
def LstAt (K : PySem.W.Frag) (H : Hp) (l : Addr) (ds : List PyData) : Prop := ∃ vs, H l = some (.lst vs) ∧ DpAll K H vs ds
section
variable {K : PySem.W.Frag} {bad : Addr → Prop} {H H0 H1 H2 H' : Hp} {l m : Addr} {ds es : List PyData}
theorem Chg.refl (H : Hp) : Chg K bad H H := ⟨fun _ _ _ h => h, Grow.refl H⟩
theorem Chg.trans (a : Chg K bad H H1) (b : Chg K bad H1 H2) : Chg K bad H H2 := ⟨fun p o n e => b.but p o n (a.but p o n e), a.grow.trans b.grow⟩
theorem Chg.of (s : Same H H') : Chg K bad H H' := ⟨fun p o _ e => s p o e, Grow.same s⟩
theorem Chg.mono {bad' : Addr → Prop} (h : ∀ a, bad a → bad' a) (c : Chg K bad H H') : Chg K bad' H H' := ⟨fun p o n e => c.but p o (fun z => n (h p z)) e, c.grow⟩
theorem Chg.set {xs ys : List V} (h : H l = some (.lst xs)) (hb : bad l) : Chg K bad H (upd H l (.lst ys)) := ⟨fun p o n e => by
  rw [upd_ne (fun z => n (by rw [z]; exact hb))]
  exact e, Grow.set h⟩
theorem Same.chg (s : Same H0 H) (c : Chg K bad H H') (hb : ∀ a, bad a → H0 a = none) : Same H0 H' := fun b u e => c.but b u (fun z => by rw [hb b z] at e; cases e) (s b u e)
theorem LstAt.same (h : LstAt K H l ds) (s : Same H H') : LstAt K H' l ds := by
  obtain ⟨vs, e, a⟩ := h
  exact ⟨vs, s _ _ e, dpAll_same s a⟩
theorem LstAt.chg (h : LstAt K H l ds) (c : Chg K bad H H') (n : ¬ bad l) (hn : noLs ds = true) : LstAt K H' l ds := by
  obtain ⟨vs, e, a⟩ := h
  exact ⟨vs, c.but _ _ n e, dpAll_grow c.grow hn a⟩
theorem LstAt.dp (h : LstAt K H l ds) : Dp K H (.ref l) (.list ds) := by
  obtain ⟨vs, e, a⟩ := h
  exact .lst (SqL.of e) a
theorem LstAt.there (h : LstAt K H l ds) : ∃ o, H l = some o := by
  obtain ⟨vs, e, a⟩ := h
  exact ⟨_, e⟩
theorem LstAt.ne (h : LstAt K H l ds) (e : H m = none) : m ≠ l := fun z => by
  obtain ⟨o, q⟩ := h.there
  rw [z, q] at e
  cases e
end
/-! ### statements -/
section
variable {K : PySem.W.Frag} {σ : L2.St} {H H' : Hp} {ta tb te : TE} {tt : TT} {d e f : PyData} {ds es : List PyData} {D : Ends} {tu tw tz : TS}
theorem s_asg {i : Nat} (h : EvD K te σ H d) (k : ∀ v H1, Same H H1 → Dp K H1 v d → D.nx (σ.set i (some v)) H1) : tAsg te (gName i) D σ H := h H (Same.refl _) _ k
theorem s_asgI {i : Nat} {z : Int} (h : EvD K te σ H (.int z)) (k : ∀ H1, Same H H1 → D.nx (σ.set i (some (.int z))) H1) : tAsg te (gName i) D σ H := h H (Same.refl _) _ fun v H1 s dv => by
  cases dv
  exact k H1 s
theorem s_asgN {i : Nat} (h : EvN K te σ H ds) (k : ∀ p H1, H p = none → Same H H1 → LstAt K H1 p ds → D.nx (σ.set i (some (.ref p))) H1) : tAsg te (gName i) D σ H := h H (Same.refl _) _ fun p vs H1 n s e a => k p H1 n s ⟨vs, e, a⟩
theorem s_ret (h : EvD K te σ H d) (k : ∀ v H1, Same H H1 → Dp K H1 v d → D.rt v H1) : tRet te D σ H := h H (Same.refl _) _ k
theorem s_retN (h : EvN K te σ H ds) (k : ∀ p vs H1, H p = none → Same H H1 → H1 p = some (.lst vs) → DpAll K H1 vs ds → D.rt (.ref p) H1) : tRet te D σ H := h H (Same.refl _) _ k
theorem s_if {b : Bool} (h : EvB tt σ H b) (h1 : b = true → ∀ H1, Same H H1 → tu D σ H1) (h2 : b = false → ∀ H1, Same H H1 → tw D σ H1) : tIfS tt tu tw D σ H := h H (Same.refl _) _ fun H1 s => by
  cases b with
  | true => exact iteT (h1 rfl H1 s)
  | false => exact iteF (h2 rfl H1 s)
theorem s_drop (h : EvD K te σ H d) (k : ∀ H1, Same H H1 → D.nx σ H1) : tDrop te D σ H := h H (Same.refl _) _ fun _ H1 s _ => k H1 s
theorem s_unp2 {i j : Nat} (h : EvD K te σ H (.tuple [d, e])) (k : ∀ v w H1, Same H H1 → Dp K H1 v d → Dp K H1 w e → D.nx ((σ.set i (some v)).set j (some w)) H1) : tAsg te (gTup K 2 (gCons (gName i) (gCons (gName j) gNil))) D σ H :=
  h H (Same.refl _) _ fun v H1 s dv => by
    cases dv with
    | tup hs a =>
      cases a with
      | cons h1 a =>
        cases a with
        | cons h2 a =>
          cases a
          exact ⟨_, _, rfl, hs, rfl, _, _, rfl, _, _, rfl, rfl, k _ _ H1 s h1 h2⟩
theorem s_unp3 {i j m : Nat} (h : EvD K te σ H (.tuple [d, e, f])) (k : ∀ v w u H1, Same H H1 → Dp K H1 v d → Dp K H1 w e → Dp K H1 u f → D.nx (((σ.set i (some v)).set j (some w)).set m (some u)) H1) : tAsg te (gTup K 3 (gCons (gName i) (gCons (gName j) (gCons (gName m) gNil)))) D σ H :=
  h H (Same.refl _) _ fun v H1 s dv => by
    cases dv with
    | tup hs a =>
      cases a with
      | cons h1 a =>
        cases a with
        | cons h2 a =>
          cases a with
          | cons h3 a =>
            cases a
            exact ⟨_, _, rfl, hs, rfl, _, _, rfl, _, _, rfl, _, _, rfl, rfl, k _ _ _ H1 s h1 h2 h3⟩
/-- xs.append(e) -/
theorem s_app {i : Nat} {l : Addr} {bad : Addr → Prop} (hv : σ[i]? = some (some (.ref l))) (hl : LstAt K H l ds) (h : EvD K te σ H d) (hn : noLs ds = true) (hd : noL d = true) (hz : ds.length ≤ 5000) (hb : bad l) (k : ∀ H1, Chg K bad H H1 → LstAt K H1 l (ds ++ [d]) → D.nx σ H1) :
    tDrop (tBM K "list" rAppend (tVar i) (tCons te tNil)) D σ H := by
  obtain ⟨vs, e, a⟩ := hl
  refine ⟨_, hv, .inl ⟨rfl, vs, SqL.of e⟩, h H (Same.refl _) _ fun v H2 s2 dv => ?_⟩
  have hl' := dpAll_len a
  have c : Chg K bad H (upd H2 l (.lst (vs ++ [v]))) := (Chg.of s2).trans (Chg.set (s2 _ _ e) hb)
  refine ⟨l, vs, v, rfl, rfl, s2 _ _ e, ?_, k _ c ⟨_, upd_same, dpAll_snoc (dp_grow (Grow.set (s2 _ _ e)) hd dv) (dpAll_grow c.grow hn a)⟩⟩
  rw [hl']
  exact Nat.lt_of_le_of_lt hz (by decide)
/-- if c: xs.append(e) -/
theorem s_ifApp {b : Bool} {i : Nat} {l : Addr} {bad : Addr → Prop} (hc : EvB tt σ H b) (hv : σ[i]? = some (some (.ref l))) (hl : LstAt K H l ds) (h : b = true → EvD K te σ H d) (hn : noLs ds = true) (hd : noL d = true) (hz : ds.length ≤ 5000) (hb : bad l)
    (k : ∀ H1, Chg K bad H H1 → LstAt K H1 l (ds ++ if b = true then [d] else []) → D.nx σ H1) :
    tIfS tt (tDrop (tBM K "list" rAppend (tVar i) (tCons te tNil))) tNext D σ H := by
  refine s_if hc (fun q H1 s => ?_) (fun q H1 s => ?_)
  · rw [q] at k
    exact s_app hv (hl.same s) ((h q).mono s) hn hd hz hb fun H2 c hl2 => k H2 ((Chg.of s).trans c) hl2
  · rw [q] at k
    show D.nx σ H1
    exact k H1 (Chg.of s) (by rw [if_neg (by decide), List.append_nil]; exact hl.same s)
theorem dpAll_ixN {vs : List V} {i : Int} {j : Nat} (a : DpAll K H vs ds) (h : ixN ds.length i = some j) : ixN vs.length i = some j := by rw [dpAll_len a]; exact h
/-- xs[i] = e -/
theorem s_setL {i : Nat} {l : Addr} {bad : Addr → Prop} {z : Int} {j : Nat} (hv : σ[i]? = some (some (.ref l))) (hl : LstAt K H l ds) (h : EvD K te σ H d) (hi : EvD K tb σ H (.int z)) (hj : ixN ds.length z = some j) (hn : noLs ds = true) (hd : noL d = true) (hb : bad l)
    (k : ∀ H1, Chg K bad H H1 → LstAt K H1 l (ds.set j d) → D.nx σ H1) : tAsg te (gSub (tVar i) tb rSetL) D σ H := by
  obtain ⟨vs, e, a⟩ := hl
  refine h H (Same.refl _) _ fun v H1 s1 dv => ⟨_, hv, hi H1 s1 _ fun u H2 s2 du => ?_⟩
  cases du
  have c : Chg K bad H (upd H2 l (.lst (vs.set j v))) := (Chg.of (s1.trans s2)).trans (Chg.set (s2 _ _ (s1 _ _ e)) hb)
  exact ⟨l, vs, z, j, rfl, rfl, s2 _ _ (s1 _ _ e), dpAll_ixN a hj, k _ c ⟨_, upd_same, dpAll_set (dp_grow (Grow.set (s2 _ _ (s1 _ _ e))) hd (dp_same s2 dv)) j (dpAll_grow c.grow hn a)⟩⟩
/-- xs.extend(ys) -/
theorem s_ext {i : Nat} {l : Addr} {bad : Addr → Prop} (hv : σ[i]? = some (some (.ref l))) (hl : LstAt K H l ds) (h : EvN K te σ H es) (hn : noLs ds = true) (hd : noLs es = true) (hz : ds.length + es.length ≤ 5000) (hb : bad l) (k : ∀ H1, Chg K bad H H1 → LstAt K H1 l (ds ++ es) → D.nx σ H1) :
    tDrop (tBM K "list" rExtend (tVar i) (tCons te tNil)) D σ H := by
  obtain ⟨vs, e, a⟩ := hl
  refine ⟨_, hv, .inl ⟨rfl, vs, SqL.of e⟩, h H (Same.refl _) _ fun p ws H2 n s2 e2 a2 => ?_⟩
  have c : Chg K bad H (upd H2 l (.lst (vs ++ ws))) := (Chg.of s2).trans (Chg.set (s2 _ _ e) hb)
  refine ⟨l, p, vs, ws, rfl, rfl, s2 _ _ e, e2, ?_, k _ c ⟨_, upd_same, dpAll_append (dpAll_grow (Grow.set (s2 _ _ e)) hd a2) (dpAll_grow c.grow hn a)⟩⟩
  rw [dpAll_len a, dpAll_len a2]
  exact Nat.le_trans hz (by decide)
/-! the same, something behind -/
theorem q_asg {i : Nat} (h : EvD K te σ H d) (k : ∀ v H1, Same H H1 → Dp K H1 v d → tz D (σ.set i (some v)) H1) : tSeq (tAsg te (gName i)) tz D σ H := s_asg (D := { D with nx := tz D }) h k
theorem q_asgI {i : Nat} {z : Int} (h : EvD K te σ H (.int z)) (k : ∀ H1, Same H H1 → tz D (σ.set i (some (.int z))) H1) : tSeq (tAsg te (gName i)) tz D σ H := s_asgI (D := { D with nx := tz D }) h k
theorem q_asgN {i : Nat} (h : EvN K te σ H ds) (k : ∀ p H1, H p = none → Same H H1 → LstAt K H1 p ds → tz D (σ.set i (some (.ref p))) H1) : tSeq (tAsg te (gName i)) tz D σ H := s_asgN (D := { D with nx := tz D }) h k
theorem q_if {b : Bool} (h : EvB tt σ H b) (h1 : b = true → ∀ H1, Same H H1 → tu { D with nx := tz D } σ H1) (h2 : b = false → ∀ H1, Same H H1 → tw { D with nx := tz D } σ H1) : tSeq (tIfS tt tu tw) tz D σ H := s_if (D := { D with nx := tz D }) h h1 h2
theorem q_when {b : Bool} (h : EvB tt σ H b) (h1 : b = true → ∀ H1, Same H H1 → tu { D with nx := tz D } σ H1) (h2 : b = false → ∀ H1, Same H H1 → tz D σ H1) : tSeq (tIfS tt tu tNext) tz D σ H := s_if (D := { D with nx := tz D }) h h1 h2
theorem q_drop (h : EvD K te σ H d) (k : ∀ H1, Same H H1 → tz D σ H1) : tSeq (tDrop te) tz D σ H := s_drop (D := { D with nx := tz D }) h k
theorem q_unp2 {i j : Nat} (h : EvD K te σ H (.tuple [d, e])) (k : ∀ v w H1, Same H H1 → Dp K H1 v d → Dp K H1 w e → tz D ((σ.set i (some v)).set j (some w)) H1) : tSeq (tAsg te (gTup K 2 (gCons (gName i) (gCons (gName j) gNil)))) tz D σ H := s_unp2 (D := { D with nx := tz D }) h k
theorem q_unp3 {i j m : Nat} (h : EvD K te σ H (.tuple [d, e, f])) (k : ∀ v w u H1, Same H H1 → Dp K H1 v d → Dp K H1 w e → Dp K H1 u f → tz D (((σ.set i (some v)).set j (some w)).set m (some u)) H1) : tSeq (tAsg te (gTup K 3 (gCons (gName i) (gCons (gName j) (gCons (gName m) gNil))))) tz D σ H := s_unp3 (D := { D with nx := tz D }) h k
theorem q_app {i : Nat} {l : Addr} {bad : Addr → Prop} (hv : σ[i]? = some (some (.ref l))) (hl : LstAt K H l ds) (h : EvD K te σ H d) (hn : noLs ds = true) (hd : noL d = true) (hz : ds.length ≤ 5000) (hb : bad l) (k : ∀ H1, Chg K bad H H1 → LstAt K H1 l (ds ++ [d]) → tz D σ H1) :
    tSeq (tDrop (tBM K "list" rAppend (tVar i) (tCons te tNil))) tz D σ H := s_app (D := { D with nx := tz D }) hv hl h hn hd hz hb k
theorem q_ifApp {b : Bool} {i : Nat} {l : Addr} {bad : Addr → Prop} (hc : EvB tt σ H b) (hv : σ[i]? = some (some (.ref l))) (hl : LstAt K H l ds) (h : b = true → EvD K te σ H d) (hn : noLs ds = true) (hd : noL d = true) (hz : ds.length ≤ 5000) (hb : bad l)
    (k : ∀ H1, Chg K bad H H1 → LstAt K H1 l (ds ++ if b = true then [d] else []) → tz D σ H1) :
    tSeq (tIfS tt (tDrop (tBM K "list" rAppend (tVar i) (tCons te tNil))) tNext) tz D σ H := s_ifApp (D := { D with nx := tz D }) hc hv hl h hn hd hz hb k
theorem q_setL {i : Nat} {l : Addr} {bad : Addr → Prop} {z : Int} {j : Nat} (hv : σ[i]? = some (some (.ref l))) (hl : LstAt K H l ds) (h : EvD K te σ H d) (hi : EvD K tb σ H (.int z)) (hj : ixN ds.length z = some j) (hn : noLs ds = true) (hd : noL d = true) (hb : bad l)
    (k : ∀ H1, Chg K bad H H1 → LstAt K H1 l (ds.set j d) → tz D σ H1) : tSeq (tAsg te (gSub (tVar i) tb rSetL)) tz D σ H := s_setL (D := { D with nx := tz D }) hv hl h hi hj hn hd hb k
theorem q_ext {i : Nat} {l : Addr} {bad : Addr → Prop} (hv : σ[i]? = some (some (.ref l))) (hl : LstAt K H l ds) (h : EvN K te σ H es) (hn : noLs ds = true) (hd : noLs es = true) (hz : ds.length + es.length ≤ 5000) (hb : bad l) (k : ∀ H1, Chg K bad H H1 → LstAt K H1 l (ds ++ es) → tz D σ H1) :
    tSeq (tDrop (tBM K "list" rExtend (tVar i) (tCons te tNil))) tz D σ H := s_ext (D := { D with nx := tz D }) hv hl h hn hd hz hb k
end
/-! ### what is walked -/
def EvI (K : PySem.W.Frag) (Rl : Hp → Hp → Prop) (ti : TI) (σ : L2.St) (H : Hp) (n : Nat) (item : Nat → Option PyData) : Prop := ∀ H1, Same H H1 → ∀ R : It → Hp → Prop,
  (∀ (J : It) (H2 : Hp) (G : Hp → Prop) (Y : Nat → Hp → V → Hp → Prop), Same H1 H2 → Walk J n G Y → (∀ H3, Rl H2 H3 → G H3) → (∀ i H3 x H4, i < n → Rl H2 H3 → Y i H3 x H4 → ∃ d, item i = some d ∧ Same H3 H4 ∧ Dp K H4 x d) → R J H2) → ti σ H1 R
/-- a target -/
structure Tg (K : PySem.W.Frag) (g : TG) (ok : PyData → Prop) (T : PyData → L2.St → L2.St → Hp → Prop) : Prop where
  run : ∀ (x : V) (σ' : L2.St) (H : Hp) (d : PyData) (Qk : L2.St → Hp → Prop), Dp K H x d → ok d → (∀ σ2, T d σ' σ2 H → Qk σ2 H) → g x σ' H Qk
section
variable {K : PySem.W.Frag} {Rl : Hp → Hp → Prop} {σ : L2.St} {H H' : Hp} {ta tb te : TE} {tt : TT} {d e f : PyData} {ds es : List PyData}
abbrev T1 (K : PySem.W.Frag) (j : Nat) : PyData → L2.St → L2.St → Hp → Prop := fun d σ' σ2 H => ∃ v, Dp K H v d ∧ σ2 = σ'.set j (some v)
abbrev T2 (K : PySem.W.Frag) (i j : Nat) : PyData → L2.St → L2.St → Hp → Prop := fun d σ' σ2 H => ∃ v w a b, d = .tuple [a, b] ∧ Dp K H v a ∧ Dp K H w b ∧ σ2 = (σ'.set i (some v)).set j (some w)
abbrev T3 (K : PySem.W.Frag) (i j m : Nat) : PyData → L2.St → L2.St → Hp → Prop := fun d σ' σ2 H => ∃ v w u a b c, d = .tuple [a, b, c] ∧ Dp K H v a ∧ Dp K H w b ∧ Dp K H u c ∧ σ2 = ((σ'.set i (some v)).set j (some w)).set m (some u)
theorem tg1 {j : Nat} : Tg K (gName j) (fun _ => True) (T1 K j) := ⟨fun x σ' H d Qk hd _ k => k _ ⟨x, hd, rfl⟩⟩
theorem tg2 {i j : Nat} : Tg K (gTup K 2 (gCons (gName i) (gCons (gName j) gNil))) (fun d => ∃ a b, d = .tuple [a, b]) (T2 K i j) := ⟨fun x σ' H d Qk hd ⟨a, b, e⟩ k => by
  subst e
  cases hd with
  | tup hs q =>
    cases q with
    | cons h1 q =>
      cases q with
      | cons h2 q =>
        cases q
        exact ⟨_, _, rfl, hs, rfl, _, _, rfl, _, _, rfl, rfl, k _ ⟨_, _, a, b, rfl, h1, h2, rfl⟩⟩⟩
theorem tg3 {i j m : Nat} : Tg K (gTup K 3 (gCons (gName i) (gCons (gName j) (gCons (gName m) gNil)))) (fun d => ∃ a b c, d = .tuple [a, b, c]) (T3 K i j m) := ⟨fun x σ' H d Qk hd ⟨a, b, c, e⟩ k => by
  subst e
  cases hd with
  | tup hs q =>
    cases q with
    | cons h1 q =>
      cases q with
      | cons h2 q =>
        cases q with
        | cons h3 q =>
          cases q
          exact ⟨_, _, rfl, hs, rfl, _, _, rfl, _, _, rfl, _, _, rfl, rfl, k _ ⟨_, _, _, a, b, c, rfl, h1, h2, h3, rfl⟩⟩⟩
theorem EvI.weaken {Rl' : Hp → Hp → Prop} {ti : TI} {n : Nat} {item : Nat → Option PyData} (h : EvI K Rl ti σ H n item) (w : ∀ H H', Rl' H H' → Rl H H') : EvI K Rl' ti σ H n item := fun H1 s R k =>
  h H1 s R fun J H2 G Y s2 wk g y => k J H2 G Y s2 wk (fun H3 r => g H3 (w _ _ r)) (fun i H3 x H4 hi r => y i H3 x H4 hi (w _ _ r))
theorem EvI.len {ti : TI} {n m : Nat} {item : Nat → Option PyData} (q : n = m) (h : EvI K Rl ti σ H n item) : EvI K Rl ti σ H m item := by rw [← q]; exact h
theorem ei_range1 {n : Int} (h : EvD K ta σ H (.int n)) (hn : n ≤ 100000) (hm : -100000 ≤ n) : EvI K (fun _ _ => True) (iRng1 (tCons ta tNil)) σ H n.toNat (fun i => some (.int (i : Nat))) := fun H1 s R k =>
  h H1 s _ fun v H2 s2 dv => by
    cases dv
    exact ⟨n, rfl, by omega, by omega, k _ H2 _ _ s2 (walk_range (lo := 0) (n := n.toNat)) (fun _ _ => trivial) fun i H3 x H4 hi _ y => ⟨_, rfl, by rw [y.1]; exact Same.refl _, by
      rw [y.2]
      show Dp K H4 (.int (0 + (i : Int))) (.int (i : Int))
      rw [Int.zero_add]
      exact .int _⟩⟩
theorem ei_range2 {lo n : Int} (ha : EvD K ta σ H (.int lo)) (hb : EvD K tb σ H (.int n)) (h1 : -100000 ≤ lo ∧ lo ≤ 100000) (h2 : -100000 ≤ n ∧ n ≤ 100000) : EvI K (fun _ _ => True) (iRng2 (tCons ta (tCons tb tNil))) σ H (n - lo).toNat (fun i => some (.int (lo + (i : Nat)))) := fun H1 s R k =>
  ha H1 s _ fun v H2 s2 dv => hb H2 (s.trans s2) _ fun u H3 s3 du => by
    cases dv; cases du
    exact ⟨lo, n, rfl, ⟨by omega, by omega, by omega, by omega⟩, k _ H3 _ _ (s2.trans s3) (walk_range (lo := lo) (n := (n - lo).toNat)) (fun _ _ => trivial) fun i H4 x H5 hi _ y => ⟨_, rfl, by rw [y.1]; exact Same.refl _, by
      rw [y.2]
      exact .int _⟩⟩
theorem dpAll_item {vs : List V} {i : Nat} {x : V} (a : DpAll K H vs ds) (e : vs[i]? = some x) : ∃ d, ds[i]? = some d ∧ Dp K H x d := dpAll_at a e
/-- over a tuple -/
theorem ei_tup (h : EvD K ta σ H (.tuple ds)) (hn : noLs ds = true) : EvI K (Grow K) (iTup K ta) σ H ds.length (fun i => ds[i]?) := fun H1 s R k =>
  h H1 s _ fun v H2 s2 dv => by
    cases dv with
    | tup hs a =>
      refine ⟨_, rfl, ⟨_, hs⟩, ?_⟩
      rw [← dpAll_len a] at k
      exact k _ H2 _ _ s2 (walk_tup (K := K)) (fun H3 r => r _ _ hs) fun i H3 x H4 hi r y => by
        obtain ⟨d, e1, e2⟩ := dpAll_item a y.2
        rw [y.1]
        exact ⟨d, e1, Same.refl _, dp_grow r (noLs_mem hn d (List.mem_of_getElem? e1)) e2⟩
/-- over a list that stands -/
theorem ei_list (h : EvD K ta σ H (.list ds)) : EvI K Same (iList K ta) σ H ds.length (fun i => ds[i]?) := fun H1 s R k =>
  h H1 s _ fun v H2 s2 dv => by
    cases dv with
    | lst hs a =>
      refine ⟨_, rfl, ⟨_, hs⟩, ?_⟩
      rw [← dpAll_len a] at k
      exact k _ H2 _ _ s2 (walk_list (K := K)) (fun H3 r => r.seq hs) fun i H3 x H4 hi r y => by
        obtain ⟨d, e1, e2⟩ := dpAll_item a y.2
        rw [y.1]
        exact ⟨d, e1, Same.refl _, dp_same r e2⟩
/-- over a new list, while others change -/
theorem ei_new {bad : Addr → Prop} (h : EvN K ta σ H ds) (hb : ∀ a, bad a → ∃ o, H a = some o) (hn : noLs ds = true) : EvI K (Chg K bad) (iList K ta) σ H ds.length (fun i => ds[i]?) := fun H1 s R k =>
  h H1 s _ fun p vs H2 n s2 e a => by
    have nb : ¬ bad p := fun z => by
      obtain ⟨o, q⟩ := hb p z
      rw [s _ _ q] at n
      cases n
    refine ⟨_, rfl, ⟨_, SqL.of e⟩, ?_⟩
    rw [← dpAll_len a] at k
    exact k _ H2 _ _ s2 (walk_list (K := K) (xs := vs)) (fun H3 r => SqL.of (r.but _ _ nb e)) fun i H3 x H4 hi r y => by
      obtain ⟨d, e1, e2⟩ := dpAll_item a y.2
      rw [y.1]
      exact ⟨d, e1, Same.refl _, dp_grow r.grow (noLs_mem hn d (List.mem_of_getElem? e1)) e2⟩
/-- over a list kept by a name, while others change -/
theorem ei_lst {bad : Addr → Prop} {l : Addr} {i : Nat} (hv : σ[i]? = some (some (.ref l))) (hl : LstAt K H l ds) (nb : ¬ bad l) (hn : noLs ds = true) : EvI K (Chg K bad) (iList K (tVar i)) σ H ds.length (fun i => ds[i]?) := fun H1 s R k => by
  obtain ⟨vs, e, a⟩ := hl.same s
  refine ⟨_, hv, _, rfl, ⟨_, SqL.of e⟩, ?_⟩
  rw [← dpAll_len a] at k
  exact k _ H1 _ _ (Same.refl _) (walk_list (K := K) (xs := vs)) (fun H3 r => SqL.of (r.but _ _ nb e)) fun i H3 x H4 hi r y => by
    obtain ⟨d, e1, e2⟩ := dpAll_item a y.2
    rw [y.1]
    exact ⟨d, e1, Same.refl _, dp_grow r.grow (noLs_mem hn d (List.mem_of_getElem? e1)) e2⟩
/-- enumerate(a tuple) -/
theorem ei_enumT (h : EvD K ta σ H (.tuple ds)) (hn : noLs ds = true) : EvI K (Grow K) (iEnumT K (tCons ta tNil)) σ H ds.length (fun i => (ds[i]?).map fun d => .tuple [.int (i : Nat), d]) := fun H1 s R k =>
  h H1 s _ fun v H2 s2 dv => by
    cases dv with
    | tup hs a =>
      refine ⟨_, _, rfl, hs, ?_⟩
      rw [← dpAll_len a] at k
      exact k _ H2 _ _ s2 (walkET (K := K)) (fun H3 r => r _ _ hs) fun i H3 x H4 hi r y => by
        obtain ⟨T, z, u, rfl, nT, rfl, ez, hu⟩ := y
        obtain rfl := Option.some.inj ez
        obtain ⟨d, e1, e2⟩ := dpAll_item a hu
        have sT := same_new nT (.tup [.int (i : Nat), u])
        exact ⟨_, by show (ds[i]?).map _ = _; rw [e1]; rfl, sT, .tup (tup_of upd_same) (.cons (.int _) (.cons (dp_same sT (dp_grow r (noLs_mem hn d (List.mem_of_getElem? e1)) e2)) .nil))⟩
/-- enumerate(a list) that stands -/
theorem ei_enumL (h : EvD K ta σ H (.list ds)) : EvI K Same (iEnum K (tCons ta tNil)) σ H ds.length (fun i => (ds[i]?).map fun d => .tuple [.int (i : Nat), d]) := fun H1 s R k =>
  h H1 s _ fun v H2 s2 dv => by
    cases dv with
    | lst hs a =>
      refine ⟨_, _, rfl, hs, ?_⟩
      rw [← dpAll_len a] at k
      exact k _ H2 _ _ s2 (walk_enum (K := K)) (fun H3 r => r.seq hs) fun i H3 x H4 hi r y => by
        obtain ⟨T, z, u, rfl, nT, rfl, ez, hu⟩ := y
        obtain rfl := Option.some.inj ez
        obtain ⟨d, e1, e2⟩ := dpAll_item a hu
        have sT := same_new nT (.tup [.int (i : Nat), u])
        exact ⟨_, by show (ds[i]?).map _ = _; rw [e1]; rfl, sT, .tup (tup_of upd_same) (.cons (.int _) (.cons (dp_same sT (dp_same r e2)) .nil))⟩
/-- zip(a list, a list) that stand -/
theorem ei_zipL (ha : EvD K ta σ H (.list ds)) (hb : EvD K tb σ H (.list es)) : EvI K Same (RZ.iZipA K (tCons ta (tCons tb tNil))) σ H (min ds.length es.length) (fun i => match ds[i]?, es[i]? with | some d, some e => some (.tuple [d, e]) | _, _ => none) := fun H1 s R k =>
  ha H1 s _ fun v H2 s2 dv => hb H2 (s.trans s2) _ fun u H3 s3 du => by
    cases dp_same s3 dv with
    | lst hs a =>
      cases du with
      | lst hs' b =>
        refine ⟨_, _, _, _, rfl, .inl ⟨hs, hs', ?_⟩⟩
        refine k _ H3 _ _ (s2.trans s3) (walk_zip (K := K) (by rw [dpAll_len a, dpAll_len b])) (fun H4 r => ⟨r.seq hs, r.seq hs'⟩) fun i H4 x H5 hi r y => ?_
        obtain ⟨T, z, w, rfl, nT, rfl, ez, ew⟩ := y
        obtain ⟨d, d1, d2⟩ := dpAll_item a ez
        obtain ⟨e, e1, e2⟩ := dpAll_item b ew
        have sT := same_new nT (.tup [z, w])
        refine ⟨.tuple [d, e], ?_, sT, .tup (tup_of upd_same) (.cons (dp_same sT (dp_same r d2)) (.cons (dp_same sT (dp_same r e2)) .nil))⟩
        show (match ds[i]?, es[i]? with | some d, some e => some (PyData.tuple [d, e]) | _, _ => none) = _
        rw [d1, e1]
/-- a for -/
theorem s_for {ti : TI} {g : TG} {tb : TS} {D : Ends} {n : Nat} {item : Nat → Option PyData} {ok : PyData → Prop} {T : PyData → L2.St → L2.St → Hp → Prop} (hi : EvI K Rl ti σ H n item) (hg : Tg K g ok T) (hok : ∀ i d, item i = some d → ok d)
    (Pv : Hp → Nat → L2.St → Hp → Prop) (h0 : ∀ H1, Same H H1 → Pv H1 0 σ H1) (stay : ∀ H1 i σ' H', Pv H1 i σ' H' → Rl H1 H')
    (hs : ∀ H1 i d σ' H' σ2 H2, Same H H1 → i < n → item i = some d → Pv H1 i σ' H' → Same H' H2 → T d σ' σ2 H2 → tb { D with nx := Pv H1 (i + 1), ct := Pv H1 (i + 1), bk := D.nx } σ2 H2)
    (hd : ∀ H1 σ' H', Same H H1 → Pv H1 n σ' H' → D.nx σ' H') : tFor ti g tb D σ H :=
  hi H (Same.refl _) _ fun J H2 G Y s2 w hG hY => by
    refine for_it w (Pv H2) (h0 H2 s2) (fun i σ' H' _ p => hG H' (stay _ _ _ _ p)) (fun i x σ' H3 H4 hi p y => ?_) (fun σ' H' p => hd H2 σ' H' s2 p)
    obtain ⟨d, e1, e2, e3⟩ := hY i H3 x H4 hi (stay _ _ _ _ p) y
    exact hg.run x σ' H4 d _ e3 (hok i d e1) fun σ2 t => hs H2 i d σ' H3 σ2 H4 s2 hi e1 p e2 t
theorem q_for {ti : TI} {g : TG} {tb tz : TS} {D : Ends} {n : Nat} {item : Nat → Option PyData} {ok : PyData → Prop} {T : PyData → L2.St → L2.St → Hp → Prop} (hi : EvI K Rl ti σ H n item) (hg : Tg K g ok T) (hok : ∀ i d, item i = some d → ok d)
    (Pv : Hp → Nat → L2.St → Hp → Prop) (h0 : ∀ H1, Same H H1 → Pv H1 0 σ H1) (stay : ∀ H1 i σ' H', Pv H1 i σ' H' → Rl H1 H')
    (hs : ∀ H1 i d σ' H' σ2 H2, Same H H1 → i < n → item i = some d → Pv H1 i σ' H' → Same H' H2 → T d σ' σ2 H2 → tb { D with nx := Pv H1 (i + 1), ct := Pv H1 (i + 1), bk := tz D } σ2 H2)
    (hd : ∀ H1 σ' H', Same H H1 → Pv H1 n σ' H' → tz D σ' H') : tSeq (tFor ti g tb) tz D σ H := s_for (D := { D with nx := tz D }) hi hg hok Pv h0 stay hs hd
/-- a comprehension -/
theorem en_lc {α : Type} {ti : TI} {g : TG} {own : List Nat} {item : Nat → Option PyData} {ok : PyData → Prop} {T : PyData → L2.St → L2.St → Hp → Prop} (xs : List α) (p : α → Bool) (q : α → PyData) (hi : EvI K Same ti σ H xs.length item) (hg : Tg K g ok T)
    (hok : ∀ i d, item i = some d → ok d) (hw : ∀ d σ2 H5, T d (wipe σ own) σ2 H5 → wipe σ2 own = wipe σ own)
    (ht : ∀ i x d σ2 H3, xs[i]? = some x → item i = some d → Same H H3 → T d (wipe σ own) σ2 H3 → EvB tt σ2 H3 (p x)) (he : ∀ i x d σ2 H3, xs[i]? = some x → item i = some d → p x = true → Same H H3 → T d (wipe σ own) σ2 H3 → EvD K te σ2 H3 (q x))
    (hn : ∀ x, noL (q x) = true) (hz : xs.length ≤ 5000) : EvN K (tLc ti g tt te own) σ H ((xs.filter p).map q) := fun H1 s Q k =>
  hi H1 s _ fun J H2 G Y s2 w hG hY D hD => by
    have len : ∀ i, (((xs.take i).filter p).map q).length ≤ 5000 := fun i => by
      rw [List.length_map]
      refine Nat.le_trans (List.length_filter_le _ _) ?_
      rw [List.length_take]
      omega
    refine lc_it w (fun i H' => Same H2 H' ∧ LstAt K H' D (((xs.take i).filter p).map q)) ⟨same_new hD _, ⟨[], upd_same, by simp; exact .nil⟩⟩ (fun i H' _ h => hG H' h.1) ?_ ?_
    · rintro i x H3 H4 hi' ⟨s3, vs, e, a⟩ y
      obtain ⟨d, e1, e2, e3⟩ := hY i H3 x H4 hi' s3 y
      refine hg.run x _ H4 d _ e3 (hok i d e1) fun σ2 t => ⟨hw d σ2 H4 t, ?_⟩
      have ex := List.getElem?_eq_getElem hi'
      have sAll : Same H H4 := ((s.trans s2).trans s3).trans e2
      refine ht i _ d σ2 H4 ex e1 sAll t H4 (Same.refl _) _ fun H5 s5 => ?_
      have hT : xs.take (i + 1) = xs.take i ++ [xs[i]] := by rw [List.take_add_one, ex]; rfl
      refine if_both (fun hp => ?_) (fun hp => ?_)
      · refine (he i _ d σ2 H4 ex e1 hp sAll t).mono s5 H5 (Same.refl _) _ fun v H6 s6 dv => ?_
        have e6 := s6 _ _ (s5 _ _ (e2 _ _ e))
        have g6 : Grow K H6 (upd H6 D (.lst (vs ++ [v]))) := Grow.set e6
        refine ⟨vs, e6, ?_, Same.over ((s3.trans e2).trans (s5.trans s6)) hD, vs ++ [v], upd_same, ?_⟩
        · rw [dpAll_len a]
          exact Nat.lt_of_le_of_lt (len i) (by decide)
        · rw [hT, List.filter_append, List.map_append]
          have : List.filter p [xs[i]] = [xs[i]] := by rw [List.filter_cons, if_pos hp]; rfl
          rw [this]
          exact dpAll_snoc (dp_grow g6 (hn _) dv) (dpAll_grow g6 (noLs_map hn) (dpAll_same ((e2.trans s5).trans s6) a))
      · refine ⟨(s3.trans e2).trans s5, vs, s5 _ _ (e2 _ _ e), ?_⟩
        rw [hT, List.filter_append, List.map_append]
        have : List.filter p [xs[i]] = [] := by rw [List.filter_cons, if_neg (by rw [hp]; decide)]; rfl
        rw [this, List.map_nil, List.append_nil]
        exact dpAll_same (e2.trans s5) a
    · rintro H' ⟨s3, vs, e, a⟩
      rw [List.take_length] at a
      exact k D vs H' (s2.free hD) (s2.trans s3) e a
theorem filter_yes {α : Type} (xs : List α) : xs.filter (fun _ => true) = xs := List.filter_eq_self.mpr fun _ _ => rfl
/-- .. without tests -/
theorem en_lcY {α : Type} {ti : TI} {g : TG} {own : List Nat} {item : Nat → Option PyData} {ok : PyData → Prop} {T : PyData → L2.St → L2.St → Hp → Prop} (xs : List α) (q : α → PyData) (hi : EvI K Same ti σ H xs.length item) (hg : Tg K g ok T)
    (hok : ∀ i d, item i = some d → ok d) (hw : ∀ d σ2 H5, T d (wipe σ own) σ2 H5 → wipe σ2 own = wipe σ own)
    (he : ∀ i x d σ2 H3, xs[i]? = some x → item i = some d → Same H H3 → T d (wipe σ own) σ2 H3 → EvD K te σ2 H3 (q x))
    (hn : ∀ x, noL (q x) = true) (hz : xs.length ≤ 5000) : EvN K (tLc ti g tYes te own) σ H (xs.map q) := by
  have h := en_lc (K := K) (te := te) (tt := tYes) xs (fun _ => true) q hi hg hok hw (fun _ _ _ σ2 H3 _ _ _ _ H4 s Q k => k H4 (Same.refl _)) (fun i x d σ2 H3 h1 h2 _ => he i x d σ2 H3 h1 h2) hn hz
  rw [filter_yes] at h
  exact h
end
end LB
/-! Rows, programs, mills as data; the known defs told by data. Own text. -/
namespace LB
open PySem L2
/-- built-ins still, further -/
structure Bl3 (mg : Str → Option Value) : Prop where
  sum : mg "sum" = none
  any : mg "any" = none
  sorted : mg "sorted" = none
  set : mg "set" = none
  dict : mg "dict" = none
def Rw.data (r : Rw) : List PyData := .str r.word :: r.args.map .int
def rowD (r : Rw) : PyData := .tuple r.data
def millD (ms : List Int) : PyData := .tuple (ms.map .int)
def progD (rs : List Rw) : PyData := .tuple (rs.map rowD)
def optD (o : Option Int) : PyData := match o with
  | none => .none
  | some i => .int i
def intsD (ns : List Int) : PyData := .list (ns.map .int)
theorem noL_row (r : Rw) : noL (rowD r) = true := by
  show (noL (.str r.word) && noLs (r.args.map .int)) = true
  rw [noLs_map fun _ => rfl]
  rfl
theorem noL_mill (ms : List Int) : noL (millD ms) = true := noLs_map fun _ => rfl
theorem noLs_rows (rs : List Rw) : noLs (rs.map rowD) = true := noLs_map noL_row
theorem noLs_ints (ns : List Int) : noLs (ns.map PyData.int) = true := noLs_map fun _ => rfl
section
variable {K : PySem.W.Frag} {H H' : Hp}
theorem dp_row {v : V} {r : Rw} (h : Dp K H v (rowD r)) : RowAt K H v r := by
  unfold rowD Rw.data at h
  cases h with
  | tup hs a =>
    cases a with
    | cons h1 a =>
      cases h1
      rw [dpAll_int_eq a] at hs
      exact ⟨_, rfl, by rw [r.vals_eq]; exact hs⟩
theorem row_dp {v : V} {r : Rw} (h : RowAt K H v r) : Dp K H v (rowD r) := by
  obtain ⟨a, rfl, hs⟩ := h
  rw [r.vals_eq] at hs
  exact .tup hs (.cons (.str _) (dpAll_ints K H _))
theorem dp_mill {v : V} {ms : List Int} (h : Dp K H v (millD ms)) : ∃ a, v = .ref a ∧ MillAt K H a ms := by
  unfold millD at h
  cases h with
  | tup hs a =>
    rw [dpAll_int_eq a] at hs
    exact ⟨_, rfl, hs⟩
theorem mill_dp {a : Addr} {ms : List Int} (h : MillAt K H a ms) : Dp K H (.ref a) (millD ms) := .tup h (dpAll_ints K H _)
theorem dpAll_of_get : ∀ {ds : List PyData} {vs : List V}, vs.length = ds.length → (∀ (i : Nat) (d : PyData), ds[i]? = some d → ∃ v, vs[i]? = some v ∧ Dp K H v d) → DpAll K H vs ds
  | [], [], _, _ => .nil
  | [], _ :: _, h, _ => by cases h
  | _ :: _, [], h, _ => by cases h
  | d :: ds, v :: vs, h, g => by
    obtain ⟨w, e, q⟩ := g 0 d rfl
    obtain rfl := Option.some.inj e
    exact .cons q (dpAll_of_get (Nat.succ.inj h) fun i d' e' => g (i + 1) d' e')
theorem prog_dp {a : Addr} {rs : List Rw} (h : ProgAt K H a rs) : Dp K H (.ref a) (progD rs) := by
  obtain ⟨vs, hs, hl, g⟩ := h
  refine .tup hs (dpAll_of_get (by rw [List.length_map]; exact hl) fun i d e => ?_)
  rw [List.getElem?_map] at e
  obtain ⟨r, e1, rfl⟩ := Option.map_eq_some_iff.mp e
  obtain ⟨v, e2, q⟩ := g i r e1
  exact ⟨v, e2, row_dp q⟩
theorem dp_prog {v : V} {rs : List Rw} (h : Dp K H v (progD rs)) : ∃ a, v = .ref a ∧ ProgAt K H a rs := by
  unfold progD at h
  cases h with
  | tup hs a =>
    refine ⟨_, rfl, _, hs, by rw [dpAll_len a, List.length_map], fun i r e => ?_⟩
    obtain ⟨v, e1, q⟩ := dpAll_get (i := i) (d := rowD r) a (by rw [List.getElem?_map, e]; rfl)
    exact ⟨v, e1, dp_row q⟩
end
/-! ### the defs that are known -/
section
variable {P : Program} {w : World} {K : PySem.W.Frag} {mg : Str → Option Value} {base : Heap} {k : Nat}
theorem Cal.imp {x : Str} {ps : List Str} {sp sp' : Sp} (C : Cal P w K mg base k x ps sp) (h : ∀ vs H Q E, sp' vs H Q E → sp vs H Q E) : Cal P w K mg base k x ps sp' := by
  obtain ⟨f, fd, F, m, kp, b⟩ := C.ex
  exact ⟨f, fd, F.imp h, m, kp, b⟩
abbrev dWhole (K : PySem.W.Frag) : Sp := spD K (fun i : Int × Int => [.int i.1, .int i.2]) (fun _ => True) (fun i => .bool (decide (0 ≤ i.1 ∧ i.1 ≤ i.2)))
theorem whole_d {x : Str} {ps : List Str} (C : Cal P w K mg base k x ps spWhole) : Cal P w K mg base k x ps (dWhole K) := C.imp fun vs H Q E ⟨⟨i, j⟩, _, a, q⟩ => by
  cases a with
  | cons h a =>
    cases a with
    | cons h2 a =>
      cases a
      cases h
      cases h2
      exact ⟨i, j, rfl, q _ H (Same.refl _) (.bl _)⟩
/-- is_row of a row that can be -/
abbrev dRow (K : PySem.W.Frag) : Sp := spD K (fun i : Rw × Int => [rowD i.1, .int i.2]) (fun i => i.1.ok i.2) (fun _ => .bool true)
theorem row_d {x : Str} {ps : List Str} (C : Cal P w K mg base k x ps (spRow K)) : Cal P w K mg base k x ps (dRow K) := C.imp fun vs H Q E ⟨⟨r, many⟩, hok, a, q⟩ => by
  cases a with
  | cons h a =>
    cases a with
    | cons h2 a =>
      cases a
      cases h2
      exact ⟨_, r, many, rfl, dp_row h, hok, fun H' s => q _ H' s (.bl _)⟩
end
end LB
/-! max(xs, default=d) of a list of numbers. Own text, over the library's walk of max. -/
namespace LB
open PySem PySem.Spec PySem.W PyProof.Rows L2
theorem alike_nums (ns : List Int) : PySem.W.AlikeAll (ns.map PyData.int) := by
  refine ⟨fun x hx y hy => ?_, fun x hx e => ?_⟩
  · obtain ⟨i, _, rfl⟩ := List.mem_map.mp hx
    obtain ⟨j, _, rfl⟩ := List.mem_map.mp hy
    rfl
  · obtain ⟨i, _, rfl⟩ := List.mem_map.mp hx
    cases e
def rMaxDef (K : PySem.W.Frag) : List V → List V → Hp → VK → Prop := fun vs zs H Q => ∃ (a : Addr) (ns : List Int) (d : V), vs = [.ref a] ∧ zs = [d] ∧ SqL K H a (ns.map V.int) ∧ (ns = [] → Q d H) ∧ (ns ≠ [] → Q (.int (maxL ns)) H)
theorem cr_maxDef {X : Cx} (hc : X.calm = true) (hu : X.A.units + 1 < cLine) : CallRK X (.builtin "max") [Str.ofString "default"] (rMaxDef X.K) := by
  intro pins s σ H vs zs us ws Q I r rz h
  obtain ⟨a, ns, d, rfl, rfl, hs, q1, q2⟩ := h
  obtain rfl := Vals.ref1 r
  obtain ⟨w1, rfl, e1⟩ := vals1 rz
  obtain ⟨its, rv, hl, _⟩ := I.list hs
  obtain ⟨as, hr⟩ := Dp.readsAll I _ _ _ (dpAll_ints X.K H ns) rv
  have hd : PyData.depthAll (ns.map PyData.int) = 0 := deep_ints ns
  refine max_list_default (I.ok.hd hc) hl.isList (by simpa using hr) (alike_nums ns) (by rw [hd]; exact hu) (fun he h' tk hk => ?_) (fun y ys i v h' tk bs he hv hrd hk => ?_)
  · exact ⟨d, H, I.kept hk, e1, q1 (by simpa using he)⟩
  · cases ns with
    | nil => cases he
    | cons n ns =>
      have e2 := List.cons.inj he
      rw [← e2.1, ← e2.2, maxD_ints] at hrd
      cases hrd
      exact ⟨.int (maxL (n :: ns)), H, I.kept hk, ⟨_, rfl⟩, q2 (by simp)⟩
section
variable {K : PySem.W.Frag} {σ : L2.St} {H : Hp} {ta tb : TE} {e : PyData}
theorem ed_maxDef {ns : List Int} {d : PyData} (h : EvD K ta σ H (.list (ns.map .int))) (hd : EvD K tb σ H d) (he : (if ns.isEmpty then d else .int (maxL ns)) = e) : EvD K (tCKw (rMaxDef K) (tCons ta tNil) (tCons tb tNil)) σ H e := fun H1 s Q q =>
  h H1 s _ fun v H2 s2 dv => hd H2 (s.trans s2) _ fun w H3 s3 dw => by
    cases dp_same s3 dv with
    | lst hs a =>
      rw [dpAll_int_eq a] at hs
      refine ⟨_, ns, w, rfl, rfl, hs, fun z => ?_, fun z => ?_⟩
      · rw [z] at he
        have he' : d = e := he
        exact q w H3 (s2.trans s3) (by rw [← he']; exact dw)
      · have : ns.isEmpty = false := by
          cases ns with
          | nil => exact absurd rfl z
          | cons => rfl
        rw [this] at he
        have he' : PyData.int (maxL ns) = e := he
        exact q _ H3 (s2.trans s3) (by rw [← he']; exact .int _)
end
end LB
/-! Typed lists; x in a tuple of tuples. Own text. -/
namespace LB
open PySem PySem.Spec PyProof.Rows L2
theorem hu65 {A : Around} {k : Nat} (hr : Room k A) : A.units + 65 < cLine := by
  have := hr.un
  omega
def rInDT (K : PySem.W.Frag) : R2 := fun x y H Q => ∃ d ds, Dp K H x d ∧ Dp K H y (.tuple ds) ∧ SeqAt.shaped d = true ∧ SeqAt.shaped (.tuple ds) = true ∧ Q (.bl (ds.any fun z => PyData.eqv z d)) H
theorem op_inDT {X : Cx} (hu : X.A.units + 65 < cLine) : OpR X (compareOp .In) (rInDT X.K) := by
  intro pins s σ H x y v u Q I rx ry h
  obtain ⟨d, ds, hd, he, sd, se, q⟩ := h
  obtain ⟨as, r1⟩ := Dp.reads I d x v hd rx
  obtain ⟨bs, r2⟩ := Dp.reads I (.tuple ds) y u he ry
  exact SeqAt.in_tuple_reads r2 r1 (SeqAt.canLay_of_shaped se) (SeqAt.canLay_of_shaped sd) (room_in_shaped sd hu) ⟨.bl _, H, I, rfl, q⟩
end LB
namespace LB
open PySem L2
section
variable {K : PySem.W.Frag} {σ : L2.St} {H H' : Hp} {ta tb te : TE} {tt : TT} {d e f : PyData} {ds es : List PyData} {D : Ends} {tu tw tz : TS}
theorem ed_inDT {b : Bool} (ha : EvD K ta σ H d) (hb : EvD K tb σ H (.tuple ds)) (h1 : SeqAt.shaped d = true) (h2 : SeqAt.shaped (.tuple ds) = true) (hi : (ds.any fun z => PyData.eqv z d) = b) : EvD K (tOp (rInDT K) ta tb) σ H (.bool b) :=
  ed_op ha hb fun u v H1 _ dx dy Q q => ⟨d, ds, dx, dy, h1, h2, by rw [hi]; exact q _ H1 (Same.refl _) (.bl _)⟩
variable {α : Type} {c : α → PyData} {xs ys : List α} {x : α} {l : Addr} {i : Nat} {bad : Addr → Prop}
theorem map_ifone {b : Bool} : (xs ++ if b = true then [x] else []).map c = xs.map c ++ if b = true then [c x] else [] := by
  rw [List.map_append]
  cases b <;> rfl
theorem x_app (hv : σ[i]? = some (some (.ref l))) (hl : LstAt K H l (xs.map c)) (h : EvD K te σ H (c x)) (hn : ∀ x, noL (c x) = true) (hz : xs.length ≤ 5000) (hb : bad l) (k : ∀ H1, Chg K bad H H1 → LstAt K H1 l ((xs ++ [x]).map c) → D.nx σ H1) :
    tDrop (tBM K "list" rAppend (tVar i) (tCons te tNil)) D σ H := s_app hv hl h (noLs_map hn) (hn x) (by rw [List.length_map]; exact hz) hb fun H1 g q => k H1 g (by rw [List.map_append]; exact q)
theorem xq_app (hv : σ[i]? = some (some (.ref l))) (hl : LstAt K H l (xs.map c)) (h : EvD K te σ H (c x)) (hn : ∀ x, noL (c x) = true) (hz : xs.length ≤ 5000) (hb : bad l) (k : ∀ H1, Chg K bad H H1 → LstAt K H1 l ((xs ++ [x]).map c) → tz D σ H1) :
    tSeq (tDrop (tBM K "list" rAppend (tVar i) (tCons te tNil))) tz D σ H := x_app (D := { D with nx := tz D }) hv hl h hn hz hb k
theorem x_ifApp {b : Bool} (hc : EvB tt σ H b) (hv : σ[i]? = some (some (.ref l))) (hl : LstAt K H l (xs.map c)) (h : b = true → EvD K te σ H (c x)) (hn : ∀ x, noL (c x) = true) (hz : xs.length ≤ 5000) (hb : bad l)
    (k : ∀ H1, Chg K bad H H1 → LstAt K H1 l ((xs ++ if b = true then [x] else []).map c) → D.nx σ H1) :
    tIfS tt (tDrop (tBM K "list" rAppend (tVar i) (tCons te tNil))) tNext D σ H := s_ifApp hc hv hl h (noLs_map hn) (hn x) (by rw [List.length_map]; exact hz) hb fun H1 g q => k H1 g (by rw [map_ifone]; exact q)
theorem xq_ifApp {b : Bool} (hc : EvB tt σ H b) (hv : σ[i]? = some (some (.ref l))) (hl : LstAt K H l (xs.map c)) (h : b = true → EvD K te σ H (c x)) (hn : ∀ x, noL (c x) = true) (hz : xs.length ≤ 5000) (hb : bad l)
    (k : ∀ H1, Chg K bad H H1 → LstAt K H1 l ((xs ++ if b = true then [x] else []).map c) → tz D σ H1) :
    tSeq (tIfS tt (tDrop (tBM K "list" rAppend (tVar i) (tCons te tNil))) tNext) tz D σ H := x_ifApp (D := { D with nx := tz D }) hc hv hl h hn hz hb k
theorem x_asgN (h : EvN K te σ H (xs.map c)) (k : ∀ p H1, H p = none → Same H H1 → LstAt K H1 p (xs.map c) → D.nx (σ.set i (some (.ref p))) H1) : tAsg te (gName i) D σ H := s_asgN h k
/-- an empty list -/
theorem xq_nil (k : ∀ p H1, H p = none → Same H H1 → LstAt K H1 p (([] : List α).map c) → tz D (σ.set i (some (.ref p))) H1) : tSeq (tAsg (tLst tNil) (gName i)) tz D σ H := q_asgN (en_lst ea_nil (by decide)) k
end
end LB
/-! Chains, slices, texts told by data. Own text. -/
namespace LB
open PySem L2
section
variable {K : PySem.W.Frag} {σ : L2.St} {H H' : Hp} {ta tb tc te : TE} {tt : TT} {d e f : PyData} {ds es : List PyData} {D : Ends} {tu tw tz : TS}
theorem ed_chI {g g' : Int → Int → Bool} {i j k : Int} (ha : EvD K ta σ H (.int i)) (hb : EvD K tb σ H (.int j)) (hc : EvD K tc σ H (.int k)) : EvD K (tChain (rI0 fun i j => .bl (g i j)) (rI0 fun i j => .bl (g' i j)) ta tb tc) σ H (.bool (g i j && g' j k)) := fun H1 s Q q =>
  ha H1 s _ fun x H2 s2 dx => hb H2 (s.trans s2) _ fun y H3 s3 dy => by
    cases dx; cases dy
    refine ⟨i, j, rfl, rfl, g i j, rfl, ?_⟩
    cases e : g i j with
    | false =>
      rw [e] at q
      exact iteF (q _ H3 (s2.trans s3) (.bl false))
    | true =>
      rw [e] at q
      refine iteT (hc H3 ((s.trans s2).trans s3) _ fun z H4 s4 dz => ?_)
      cases dz
      exact ⟨j, k, rfl, rfl, q _ H4 ((s2.trans s3).trans s4) (.bl (g' j k))⟩
theorem ed_slT {tl th : TO} {lo hi : Option Int} (h : EvD K te σ H (.tuple ds)) (h1 : EvO tl σ H lo) (h2 : EvO th σ H hi) : EvD K (tSl (rSlA K) te tl th) σ H (.tuple (cutD ds lo hi)) := fun H1 s Q q =>
  h H1 s _ fun v H2 s2 dv => h1 H2 (s.trans s2) _ fun H3 s3 => h2 H3 ((s.trans s2).trans s3) _ fun H4 s4 => by
    cases dp_same (s3.trans s4) dv with
    | tup hs a =>
      rename_i p xs
      refine ⟨p, xs, rfl, hs, fun hw => ?_, fun _ p' hp => q _ _ (((s2.trans s3).trans s4).trans (same_new hp _)) (.tup (tup_of upd_same) (dpAll_same (same_new hp _) (dpAll_cut a)))⟩
      have e : cutD ds lo hi = ds := by
        unfold cutD
        rw [dpAll_len a] at hw
        rw [hw.1, hw.2]
        simp
      rw [e] at q
      exact q _ H4 ((s2.trans s3).trans s4) (.tup hs a)
theorem cut_map {α : Type} (c : α → PyData) (xs : List α) (lo hi : Option Int) : cutD (xs.map c) lo hi = ((xs.drop (HT.sIx xs.length 0 lo)).take (HT.sIx xs.length xs.length hi - HT.sIx xs.length 0 lo)).map c := by
  unfold cutD
  rw [List.length_map, List.map_take, List.map_drop]
theorem cut_init {α : Type} (c : α → PyData) (xs : List α) : cutD (xs.map c) none (some (-1)) = xs.dropLast.map c := by
  rw [cut_map, List.dropLast_eq_take]
  show ((xs.drop 0).take ((if (-1 : Int) < 0 then ((-1 : Int) + (xs.length : Int)).toNat else min (-1 : Int).toNat xs.length) - 0)).map c = _
  rw [if_pos (by decide), List.drop_zero, Nat.sub_zero, show ((-1 : Int) + (xs.length : Int)).toNat = xs.length - 1 by omega]
theorem cut_from {α : Type} (c : α → PyData) (xs : List α) (k : Nat) : cutD (xs.map c) (some (k : Int)) none = (xs.drop k).map c := by
  rw [cut_map, HT.sIx_nat, HT.sIx_none]
  congr 1
  by_cases h : k ≤ xs.length
  · rw [Nat.min_eq_left h, List.take_of_length_le (by rw [List.length_drop]; omega)]
  · rw [Nat.min_eq_right (by omega), Nat.sub_self, List.take_zero, List.drop_eq_nil_of_le (by omega)]
theorem cut_upto {α : Type} (c : α → PyData) (xs : List α) (k : Nat) : cutD (xs.map c) none (some (k : Int)) = (xs.take k).map c := by
  rw [cut_map, HT.sIx_nat, HT.sIx_none, List.drop_zero, Nat.sub_zero]
  congr 1
  by_cases h : k ≤ xs.length
  · rw [Nat.min_eq_left h]
  · rw [Nat.min_eq_right (by omega), List.take_of_length_le (Nat.le_refl _), List.take_of_length_le (by omega)]
/-- texts -/
theorem ed_addS {a b : Str} (ha : EvD K ta σ H (.str a)) (hb : EvD K tb σ H (.str b)) (hl : a.length + b.length ≤ sizeLine) : EvD K (tOp (fun x y H Q => ∃ i j, x = .str i ∧ y = .str j ∧ i.length + j.length ≤ sizeLine ∧ Q (.str (i ++ j)) H) ta tb) σ H (.str (a ++ b)) :=
  ed_op ha hb fun x y H1 _ dx dy Q q => by
    cases dx; cases dy
    exact ⟨a, b, rfl, rfl, hl, q _ H1 (Same.refl _) (.str _)⟩
/-- comprehensions of flat values -/
theorem en_bools {α : Type} {xs : List α} {p : α → Bool} (h : EvN K te σ H (xs.map fun x => .bool (p x))) : EvN K te σ H ((xs.map p).map .bool) := by
  rw [List.map_map]
  exact h
theorem en_ints {α : Type} {xs : List α} {p : α → Int} (h : EvN K te σ H (xs.map fun x => .int (p x))) : EvN K te σ H ((xs.map p).map .int) := by
  rw [List.map_map]
  exact h
/-- a list's display of numbers -/
theorem en_ints1 {i : Int} (h : EvD K ta σ H (.int i)) : EvN K (tLst (tCons ta tNil)) σ H (([i] : List Int).map .int) := en_lst (ea_cons h ea_nil) (show 1 ≤ 1000 by decide)
end
end LB
namespace LB
open PySem L2
abbrev GRw (mg : Str → Option Value) : Prop := ∃ t, mg "MOST_ROWS" = some (.int 200 t)
theorem not_empty {rs : List Rw} (h : 1 ≤ rs.length) : (!(!(rs.map rowD).isEmpty)) = false := by
  cases rs with
  | nil => exact absurd h (by decide)
  | cons a b => rfl
theorem cut_all {α : Type} (c : α → PyData) (xs : List α) (h : xs.length ≤ 200) : cutD (xs.map c) none (some 200) = xs.map c := by
  have q := cut_upto c xs 200
  rw [List.take_of_length_le h] at q
  exact q
section
variable {P : Program} {w : World} {K : PySem.W.Frag} {mg : Str → Option Value} {base : Heap}
abbrev dFlaw (K : PySem.W.Frag) : Sp := spD K (fun rs : List Rw => [progD rs, .int rs.length]) (fun rs => RsOk rs) (fun _ => .none)
theorem scFlaw : FnScope ["rows", "many", "at", "row"] ["rows", "many"] (defScope s_first_flaw) := ⟨rfl, rfl, rfl, by decide +kernel, rfl, by decide +kernel, by decide +kernel⟩
theorem ok_flaw {f : Addr} {fd : FuncData} (F : Fun K "first_flaw" "first_flaw" s_first_flaw f fd) (RW : Cal P w K mg base 2 "is_row" ["row", "many"] (dRow K)) (B : Bl2 mg) (GR : GRw mg) : FnOk P w K mg base CX0 3 f fd ["rows", "many"] (dFlaw K) := by
  refine F.ok scFlaw (fun vs H Q E h => ?_) (fun cdv A outer s H vs Q E hr h => ?_)
  · obtain ⟨i, _, a, _⟩ := h
    exact dpAll_len a
  · obtain ⟨rs, ⟨l1, l200, hok⟩, a, k⟩ := h
    rcases a with _ | ⟨d_rows, _ | ⟨dm, ⟨⟩⟩⟩
    cases dm
    rename_i rv
    have hr2 : Room 2 _ := hr.mono (by decide)
    have d_rows : Dp K H rv (.tuple (rs.map rowD)) := d_rows
    refine ⟨_, (pss_cons (ps_for PassesOwn.never rfl (pi_enumT (by rfl) B.enum (pa_cons (pe_slice sl_tupA (pv 0) po_none (po_some (pe_gint GR))) pa_nil)) (pg_tup rfl (pgs_cons (pg_name (i := 2) scFlaw.nd rfl (Or.inl rfl)) (pgs_cons (pg_name (i := 3) scFlaw.nd rfl (Or.inl rfl)) pgs_nil))) (pss_one (ps_if (pt_not (pt_val (pe_cal RW hr2 (pa_cons (pv 3) (pa_cons (pv 1) pa_nil))))) (pss_one (ps_ret (pv 2))) pss_nil))) (pss_cons (ps_if (pt_not (pt_truth (pv 0) (by intro _; rfl))) (pss_one (ps_ret pe_int)) pss_nil) (pss_one (ps_ret (pe_ifExp (pt_cmpR op_gt (pe_callB call_len_seq (by rfl) B.b.len PySem.boot_len (pa_cons (pv 0) pa_nil)) (pe_gint GR) (nomark _)) (pe_gint GR) pe_non))))), ?_⟩
    have S := Same.refl H
    refine q_for ((ei_enumT ((ed_slT (ed_var rfl (dp_same S d_rows)) eo_none (eo_some (K := K) ed_int)).eq (congrArg PyData.tuple (cut_all rowD rs l200))) (noLs_rows rs)) |> EvI.len (List.length_map ..)) tg2 (fun i d e => ?_) (fun Hb i σ' H' => Same H H' ∧ Grow K Hb H' ∧ ∃ a2 a3, σ' = [some rv, some (.int (rs.length : Int)), a2, a3])
      (fun H2 s => ⟨S.trans s, Grow.refl _, _, _, rfl⟩) (fun Hb i σ' H' p => p.2.1) ?_ ?_
    · obtain ⟨u, _, rfl⟩ := Option.map_eq_some_iff.mp e
      exact ⟨_, _, rfl⟩
    · rintro Hb i d σ' H' σ2 H2 _ hi e ⟨S', gr, a2, a3, rfl⟩ s2 ⟨v, u, a, b, rfl, dv, du, rfl⟩
      rw [List.getElem?_map, List.getElem?_eq_getElem hi] at e
      cases e
      have S := S'.trans s2
      refine s_if (b := false) (EvB.eq (eb_not (eb_val (K := K) (ed_cal (rs[i], (rs.length : Int)) (ea_cons (ed_var rfl du) (ea_cons (ed_var rfl (.int _)) ea_nil)) (hok _ (List.getElem_mem hi))))) rfl) (fun z => by cases z) fun _ H3 s3 => ?_
      exact ⟨S.trans s3, (gr.trans (Grow.same s2)).trans (Grow.same s3), _, _, rfl⟩
    · rintro Hb σ' H' _ ⟨S, gr, a2, a3, rfl⟩
      refine q_when (b := false) (EvB.eq (eb_not (eb_truthT (K := K) (ed_var rfl (dp_same S d_rows)))) (not_empty l1)) (fun z => by cases z) fun _ H3 s3 => ?_
      have S := S.trans s3
      refine s_ret (K := K) (d := .none) ((ed_if (b := false) (EvB.eq (eb_of (K := K) (ed_cI ((ed_lenT (ed_var rfl (dp_same S d_rows))).eq (by rw [List.length_map])) ed_int)) (decide_eq_false (by omega))) (fun z => by cases z) (fun _ => ed_non) (d := .none)).eq rfl) fun v H4 s4 dv => k v H4 (S.trans s4) dv
abbrev dChkP (K : PySem.W.Frag) : Sp := spD K (fun rs : List Rw => [progD rs]) (fun rs => RsOk rs) (fun _ => .none)
theorem scChkPn : FnScope ["program", "flaw"] ["program"] (defScope sChkP) := ⟨rfl, rfl, rfl, by decide +kernel, rfl, by decide +kernel, by decide +kernel⟩
theorem ok_chkPn {f : Addr} {fd : FuncData} (F : Fun K "check_program" "check_program" sChkP f fd) (FF : Cal P w K mg base 3 "first_flaw" ["rows", "many"] (dFlaw K)) (B : Bl2 mg) (GR : GRw mg) : FnOk P w K mg base CX0 4 f fd ["program"] (dChkP K) := by
  refine F.ok scChkPn (fun vs H Q E h => ?_) (fun cdv A outer s H vs Q E hr h => ?_)
  · obtain ⟨i, _, a, _⟩ := h
    exact dpAll_len a
  · obtain ⟨rs, hR, a, k⟩ := h
    rcases a with _ | ⟨d_program, ⟨⟩⟩
    have hr3 : Room 3 _ := hr.mono (by decide)
    refine ⟨_, (pss_cons (ps_set (i := 1) scChkPn.nd rfl (Or.inl rfl) (pe_cal FF hr3 (pa_cons (pv 0) (pa_cons (pe_callB (call_min2 rfl) (by rfl) B.b.min (by decide +kernel) (pa_cons (pe_callB call_len_seq (by rfl) B.b.len PySem.boot_len (pa_cons (pv 0) pa_nil)) (pa_cons (pe_gint GR) pa_nil))) pa_nil)))) (pss_one (ps_if (pt_cmpR op_notN (pv 1) pe_non (nomark _)) (pss_one ps_never) pss_nil))), ?_⟩
    refine q_asg (ed_cal rs (ea_cons (ed_var rfl d_program) (ea_cons ((ed_min2 (K := K) ((ed_lenT (ed_var rfl d_program)).eq (by rw [List.length_map])) ed_int).eq (by rw [Int.min_eq_left (by have := hR.2.1; omega)])) ea_nil)) hR) fun v H1 s1 dv => ?_
    refine s_if (b := false) (eb_of (ed_notN (K := K) (ed_var rfl dv))) (fun z => by cases z) fun _ H2 s2 => ?_
    exact k _ H2 (s1.trans s2) .non
/-- as the older texts ask it -/
def spChkP (K : PySem.W.Frag) : Sp := fun vs H Q _ => ∃ (a : Addr) (rs : List Rw), vs = [.ref a] ∧ ProgAt K H a rs ∧ RsOk rs ∧ ∀ H', Same H H' → Q .non H'
theorem chkP_old {k : Nat} {x : Str} {ps : List Str} (C : Cal P w K mg base k x ps (dChkP K)) : Cal P w K mg base k x ps (spChkP K) := C.imp fun vs H Q E ⟨a, rs, e, hP, hR, q⟩ => ⟨rs, hR, by
  rw [e]
  exact .cons (prog_dp hP) .nil, fun v H' s dv => by
  cases dv
  exact q H' s⟩
end
end LB
namespace LB
open PySem L2
/-! The words that go, and that leave, as the program's tuples hold them. Own text. -/
abbrev GGo (K : PySem.W.Frag) (mg : Str → Option Value) (tG : Addr) : Prop := mg "GOES" = some (.ref tG) ∧ KTup K tG [.str "go", .str "if"]
abbrev GLv (K : PySem.W.Frag) (mg : Str → Option Value) (tL : Addr) : Prop := mg "LEAVES" = some (.ref tL) ∧ KTup K tL [.str "go", .str "if", .str "stop"]
end LB
/-! len(set(numbers)), [x] * n, int(True), a dict of two numbers, told by data. Own text. -/
namespace LB
open PySem PySem.Spec PyProof.Rows L2
/-- how many unlike ones there are -/
def distinct (ns : List Int) : Nat := (firstMet (fun i => ns.getD i 0) ns.length).length
theorem distinct_le (ns : List Int) : distinct ns ≤ ns.length := firstMet_length_le _ _
def tLenSetG (K : PySem.W.Frag) (ta : TE) : TE := fun σ H Q => ta σ H fun x H1 => ∃ (l : Addr) (ns : List Int), x = V.ref l ∧ SqL K H1 l (ns.map V.int) ∧ ns.length ≤ 1000 ∧ Q (.int (distinct ns)) H1
theorem pe_lenSetG {X : Cx} {e : Expr} {te : TE} {p p2 q pos : Pos} (calm : X.calm = true) (g1 : Gl X "len") (m1 : X.mg "len" = none) (g2 : Gl X "set") (m2 : X.mg "set" = none) (pe : PE X e te)
    (na : starEach [e] X.env = (false, eval e X.env) :: starEach [] X.env := by rfl) : PE X (.Call (.Name "len" p) [.Call (.Name "set" p2) [e] [] q] [] pos) (tLenSetG X.K te) := by
  constructor
  intro pins s σ H Q I h
  refine Call_ ?_
  refine ld_blt I g1 m1 PySem.boot_len ?_
  refine callWith_builtin1 (args_cons ?_ rfl) rfl rfl
  refine Call_ ?_
  refine ld_blt I g2 m2 boot_set ?_
  refine callWith_type1 (args_cons (thn (pe.run pins s σ H _ I h) fun v s1 ⟨x, H1, J, rel, k⟩ => args_nil ?_) na) na rfl
  obtain ⟨l, ns, rfl, sq, lo, k⟩ := k
  cases rel
  obtain ⟨its, rs, pl, _⟩ := J.list sq
  have size : its.toArray.size = ns.length := by rw [List.size_toArray, ← rs.length, List.length_map]
  refine call_set_list (J.ok.hd calm) pl.isList (ns := ns) (by simpa using rs.ints) (by unfold scanBound; omega) fun h2 tk S kp => ?_
  rw [size] at S
  refine args_nil ?_
  obtain ⟨o, es, ep, t, ho, ex, hd, _, _, _, fits, cnt⟩ := S
  have le := distinct_le ns
  unfold distinct at le
  have J2 : Inv X pins σ H1 { s1 with heap := h2, toks := tk } := J.kept fun b o e => kp b o (Heap.lt_size e) e
  exact call_len_set ho ex hd fits (by rw [cnt]; omega) ⟨.int (distinct ns), H1, J2.tok _, ⟨_, by rw [cnt]; rfl⟩, k⟩
end LB
namespace LB
open PySem L2
section
variable {K : PySem.W.Frag} {σ : L2.St} {H H' : Hp} {ta tb tc te : TE} {tt : TT} {d e f : PyData} {ds es : List PyData} {D : Ends} {tu tw tz : TS}
theorem ed_lenSet {ns : List Int} (h : EvD K ta σ H (.list (ns.map .int))) (hl : ns.length ≤ 1000) : EvD K (tLenSetG K ta) σ H (.int (distinct ns : Nat)) := fun H1 s Q q =>
  h H1 s _ fun v H2 s2 dv => by
    cases dv with
    | lst hs a =>
      rw [dpAll_int_eq a] at hs
      exact ⟨_, ns, rfl, hs, hl, q _ H2 s2 (.int _)⟩
theorem rep_one {α : Type} (x : α) (n : Nat) : (List.replicate n [x]).flatten = List.replicate n x := by
  induction n with
  | zero => rfl
  | succ n ih => rw [List.replicate_succ, List.flatten_cons, ih]; rfl
theorem dpAll_rep {v : V} (hv : Dp K H v d) : ∀ n, DpAll K H (List.replicate n v) (List.replicate n d)
  | 0 => .nil
  | n + 1 => .cons hv (dpAll_rep hv n)
/-- [x] * n -/
theorem en_rep {n : Nat} (ha : EvN K ta σ H [d]) (hb : EvD K tb σ H (.int (n : Nat))) (hn : n ≤ 1000) : EvN K (tOp rRep ta tb) σ H (List.replicate n d) := fun H1 s Q q =>
  ha H1 s _ fun p vs H2 np s2 h2 a => hb H2 (s.trans s2) _ fun y H3 s3 dy => by
    cases dy
    cases a with
    | cons hv a =>
      cases a
      rename_i v
      refine ⟨p, n, [v], rfl, rfl, s3 _ _ h2, by omega, by omega, ?_, fun l hl => ?_⟩
      · show 1 * (n : Int).toNat ≤ _
        rw [Int.toNat_natCast, Nat.one_mul]
        exact small hn
      · have sl := (s2.trans s3).trans (same_new hl (.lst (List.replicate ((n : Nat) : Int).toNat [v]).flatten))
        refine q l _ _ ((s2.trans s3).free hl) sl upd_same ?_
        rw [Int.toNat_natCast, rep_one]
        exact dpAll_same (s3.trans (same_new hl _)) (dpAll_rep hv n)
theorem ed_intB {b : Bool} (h : EvD K ta σ H (.bool b)) : EvD K (tCB (fun xs H Q => (∃ i, xs = [V.int i] ∧ Q (.int i) H) ∨ ∃ k, xs = [V.bl k] ∧ Q (.int (if k then 1 else 0)) H) (tCons ta tNil)) σ H (.int (if b then 1 else 0)) := fun H1 s Q q =>
  h H1 s _ fun v H2 s2 dv => by
    cases dv
    exact .inr ⟨b, rfl, q _ H2 s2 (.int _)⟩
theorem mergeI2 (a b : Int) (x y : V) (j : Int) : valV (mergeK [] [(Sum.inl a, x), (Sum.inl b, y)]) (Sum.inl j) = if j = b then some y else if j = a then some x else none := by
  show valV (putK (putK [] (Sum.inl a) x) (Sum.inl b) y) (Sum.inl j) = _
  rw [valV_put, valV_put, valV_nil]
  simp only [Sum.inl.injEq]
/-- [xs, ys][int(b)] of flat data -/
theorem ed_pick {b : Bool} {i : Int} (hl : EvD K ta σ H (.list [d, e])) (hi : EvD K tb σ H (.int i)) (hb : i = if b then 1 else 0) : EvD K (tOp (rIxL K) ta tb) σ H (if b = true then e else d) := by
  subst hb
  cases b with
  | true => exact ed_ixL hl hi (atI_nat (j := 1) rfl)
  | false => exact ed_ixL hl hi (atI_nat (j := 0) rfl)
theorem ed_pickI {b : Bool} {i j : Int} (hl : EvD K ta σ H (.list [.int i, .int j])) (hi : EvD K tb σ H (.int (if b = true then 1 else 0))) : EvD K (tOp (rIxL K) ta tb) σ H (.int (if b = true then j else i)) := (ed_pick hl hi rfl).eq (by cases b <;> rfl)
end
end LB
namespace LB
open PySem L2
/-- a list that may change later -/
def EvL (K : PySem.W.Frag) (te : TE) (σ : L2.St) (H : Hp) (ds : List PyData) : Prop := ∀ H1, Same H H1 → ∀ Q : VK, (∀ p vs H2, Same H1 H2 → H2 p = some (.lst vs) → DpAll K H2 vs ds → Q (.ref p) H2) → te σ H1 Q
section
variable {K : PySem.W.Frag} {σ : L2.St} {H H' : Hp} {ta tb tc te : TE} {tt : TT} {d e f : PyData} {ds es : List PyData} {D : Ends} {tu tw tz : TS}
theorem EvN.toL (h : EvN K te σ H ds) : EvL K te σ H ds := fun H1 s Q q => h H1 s Q fun p vs H2 _ s2 e a => q p vs H2 s2 e a
theorem el_var {i : Nat} {l : Addr} (hv : σ[i]? = some (some (.ref l))) (hl : LstAt K H l ds) : EvL K (tVar i) σ H ds := fun H1 s Q q => by
  obtain ⟨vs, e, a⟩ := hl.same s
  exact ⟨_, hv, q l vs H1 (Same.refl _) e a⟩
theorem en_catL (ha : EvL K ta σ H ds) (hb : EvL K tb σ H es) (hl : ds.length + es.length ≤ 5000) : EvN K (tOp rCat ta tb) σ H (ds ++ es) := fun H1 s Q q =>
  ha H1 s _ fun p vs H2 s2 h2 a => hb H2 (s.trans s2) _ fun p' ws H3 s3 h3 b => ⟨p, p', vs, ws, rfl, rfl, s3 _ _ h2, h3, by rw [dpAll_len a, dpAll_len b]; exact Nat.le_trans hl (by decide), fun l hl =>
    q l _ _ ((s2.trans s3).free hl) ((s2.trans s3).trans (same_new hl _)) upd_same (dpAll_same (same_new hl _) (dpAll_append b (dpAll_same s3 a)))⟩
end
end LB
namespace LB
open PySem L2
section
variable {P : Program} {w : World} {K : PySem.W.Frag} {mg : Str → Option Value} {base : Heap}
theorem ed_alike {n : Nat} {σ : L2.St} {H : Hp} {ta tb : TE} {d : PyData} (ha : EvD K ta σ H d) (hb : EvD K tb σ H d) (sm : Sm n d) : EvD K (tCal (spA K (n + 1)) (tCons ta (tCons tb tNil))) σ H (.bool true) := fun H1 s Q q =>
  ha H1 s _ fun v H2 s2 dv => hb H2 (s.trans s2) _ fun w H3 s3 dw => ⟨v, w, d, rfl, dp_same s3 dv, dw, sm, fun H4 s4 => q _ H4 ((s2.trans s3).trans s4) (.bl _)⟩
theorem sm_list {α : Type} {c : α → PyData} {xs : List α} {n : Nat} (h : xs.length ≤ 5000) (hc : ∀ x, Sm n (c x)) : Sm (n + 1) (.list (xs.map c)) := .lst (by rw [List.length_map]; exact h) fun e he => by
  obtain ⟨x, _, rfl⟩ := List.mem_map.mp he
  exact hc x
theorem sm_opt (o : Option Int) (n : Nat) : Sm (n + 1) (optD o) := by
  cases o with
  | none => exact .non _
  | some i => exact .int _ _
end
end LB
/-! Sets of ints: sorted of any size, discard, {k}. Own text over the library's sets. -/
namespace LB
open PySem PySem.Spec PyProof.Rows L2
section
variable {P : Program} {w : World} {A : Around} {E : Value → Shared → Prop} {s : Shared} {a : Addr} {S : Int → Bool} {n : Nat}
/-- the members in their order, however many -/
theorem sorted_setN {Q : Value → Shared → Prop} (R : SetR w s.heap a S n) (calm : A.handled = none)
    (hQ : ∀ z p (ys : Array Value) (c : Nat) (ks : List Int), (∀ b o, s.heap.get? b = some o → z.heap.get? b = some o) → z.gens = s.gens → z.os = s.os → s.heap.objs.size ≤ p →
      z.heap.get? p = some (seqObj "list" ys c) → IntsAre ys.toList ks → ks.Pairwise (· < ·) → (∀ j, j ∈ ks ↔ S j = true) → ks.length = n → Q (.ref p) z) :
    wpAny (model P w) A (call (.builtin "sorted") [.ref a]) Q E s := by
  obtain ⟨ob, es, ep, t, hob, hex, hdt, good, nd, mem, small, fit, cnt, ris, led⟩ := R
  refine Calls.call_function_entry kind_sorted plain_sorted entry_sorted (args_sorted1 _) ?_
  unfold Builtin.«sorted»
  refine wpAny_bind (m := checkCount "sorted" 1 1 _) (wpAny_pure ?_)
  refine wpAny_bind (collect_set (A := A.in1) calm ⟨ob, hob, hex.1, hdt⟩ fit small ris led fun u vals keep sz gn osn perm => ?_)
  have len : vals.length = n := by rw [perm.length_eq, List.length_map, Array.length_toList]; exact cnt
  have whole : IntsAre vals (vals.map Builtin.Re.reRawOf)  := L2.ints_of vals fun v hv => by
    obtain ⟨e, he, q⟩ := List.mem_map.mp (perm.mem_iff.mp hv)
    obtain ⟨k, tk, h1, _⟩ := good e he
    exact ⟨k, tk, by rw [← q]; exact h1⟩
  have keys : (vals.map Builtin.Re.reRawOf).Perm (es.toList.map keyOf) := by
    have q := perm.map Builtin.Re.reRawOf
    rw [List.map_map] at q
    exact q
  have lim : n < scanBound := by rw [← cnt]; exact small
  have vsz : vals.length ≤ sizeLine := by rw [len]; exact Nat.le_trans (Nat.le_of_lt lim) (by decide)
  refine wpAny_bind (wpAny_newList ?_ vsz)
  have hnew : (u.heap.push (seqObj "list" vals.toArray 0)).get? u.heap.objs.size = some (seqObj "list" vals.toArray 0) := Heap.get?_push_size _ rfl
  refine wpAny_bind (wpAny_holding (wpAny_call_entry slot_list_sort ⟨_, hnew, rfl⟩ entry_list_sort (SrtO.list_sort_ord SrtO.swo_int hnew vsz (fun h2 => SrtO.ints_sortable whole h2) fun ys srt stb => ⟨_, rfl, ?_⟩) (args_list_sort _)))
  obtain ⟨c, hc⟩ := sortedHeap_at (vs := vals) (out := ys.toArray) hnew
  obtain ⟨k1, k2, k3⟩ := SrtO.ints_out whole srt stb
  have pk : (ys.map SrtO.iv).Perm (es.toList.map keyOf) := k2.trans keys
  refine wpAny_pure ⟨_, rfl, hQ _ u.heap.objs.size ys.toArray c (ys.map SrtO.iv) (fun b o e => ?_) gn osn sz hc k1 (lt_of_le_nodup _ k3 (pk.nodup_iff.mpr nd)) (fun j => by rw [pk.mem_iff, ← mem j]) ?_⟩
  · have q := keep b o e
    have lt := Heap.lt_size q
    show (sortedHeap (u.heap.push (seqObj "list" vals.toArray 0)) u.heap.objs.size vals ys.toArray).get? b = some o
    rw [sortedHeap_old (Nat.ne_of_lt lt) (by rw [size_push']; exact Nat.lt_succ_of_lt lt)]
    exact Heap.get?_push_of_some _ q
  · rw [pk.length_eq, List.length_map, Array.length_toList]; exact cnt
theorem erase_list {α : Type} (xs : Array α) (i : Nat) : (SetTable.eraseAt xs i).toList = xs.toList.eraseIdx i := by
  unfold SetTable.eraseAt
  rw [Array.toList_append, Array.toList_extract, Array.toList_extract, List.eraseIdx_eq_take_drop_succ]
  simp
  exact List.take_of_length_le (by rw [List.length_drop, Array.length_toList]; omega)
theorem below_le (xs : Array Nat) (j : Nat) : True := trivial
/-- the table without its i-th row -/
theorem drop_fits {t : SetTable} {m i : Nat} (f : t.fits (m + 1) = true) (hi : i < m + 1) : (t.drop i).fits m = true ∧ (Ris t.place.toList → Ris (t.drop i).place.toList) ∧ (t.drop i).led = t.led := by
  unfold SetTable.fits at f ⊢
  rw [Bool.and_eq_true] at f
  obtain ⟨f1, f2⟩ := f
  have f1 : t.place.size = m + 1 := beq_iff_eq.mp f1
  have f2 : t.place.size + t.dummies.size ≤ t.mask := of_decide_eq_true f2
  have hp : t.place[i]? = some t.place[i] := Array.getElem?_eq_getElem (by omega)
  unfold SetTable.drop
  rw [hp]
  have el : (SetTable.eraseAt t.place i).size = m := by
    rw [← Array.length_toList, erase_list, List.length_eraseIdx, Array.length_toList, if_pos (by omega)]
    omega
  refine ⟨?_, fun r => ?_, rfl⟩
  · rw [Bool.and_eq_true]
    refine ⟨beq_iff_eq.mpr el, decide_eq_true ?_⟩
    show (SetTable.eraseAt t.place i).size + (SetTable.insertAt t.dummies (SetTable.below t.dummies t.place[i]) t.place[i]).size ≤ t.mask
    have il : (SetTable.insertAt t.dummies (SetTable.below t.dummies t.place[i]) t.place[i]).size ≤ t.dummies.size + 1 := by
      rw [← Array.length_toList, SetTable.toList_insertAt, List.length_append, List.length_cons, List.length_take, List.length_drop, Array.length_toList]
      omega
    rw [el]
    omega
  · show Ris (SetTable.eraseAt t.place i).toList
    rw [erase_list]
    exact List.Pairwise.sublist (List.eraseIdx_sublist _ _) r
theorem erase_key {l : List (Int × Value)} {i : Nat} {e : Int × Value} (nd : (l.map keyOf).Nodup) (hi : l[i]? = some e) (j : Int) : j ∈ (l.eraseIdx i).map keyOf ↔ j ∈ l.map keyOf ∧ j ≠ keyOf e := by
  have p := (erase_perm l i e hi).map keyOf
  rw [List.map_cons] at p
  have nd2 := p.nodup_iff.mpr nd
  rw [List.nodup_cons] at nd2
  rw [← p.mem_iff, List.mem_cons]
  constructor
  · exact fun h => ⟨.inr h, fun z => nd2.1 (by rw [← z]; exact h)⟩
  · rintro ⟨h | h, ne⟩
    · exact absurd h ne
    · exact h
/-- found.discard(k) -/
theorem setR_drop {k : Int} {tk : Tok} {Q : Value → Shared → Prop} (R : SetR w s.heap a S n) (hQ : ∀ g m, Heap.SameBut a s.heap g → m ≤ n → SetR w g a (fun j => S j && !decide (j = k)) m → Q .none { s with heap := g, toks := s.toks + 1 }) :
    wpAny (model P w) A (call (.builtin "set.discard") [.ref a, .int k tk]) Q E s := by
  have so : s.heap.SetOf (intKind P w) a S n := R.setOf
  refine wpAny_call_entry F.slot_set_discard so.typeIs F.entry_set_discard ?_ (F.args_set_discard_2 _ _)
  unfold Builtin.«set.discard» Builtin.Frozenset.oneOther
  simp only [List.isEmpty_nil, bind_assoc]
  unfold Builtin.Frozenset.addrOf Builtin.Frozenset.withSetAsKey setDiscard
  refine wpAny_bind (wpAny_pure ?_)
  try dsimp only
  refine wpAny_bind (wpAny_pure ?_)
  try dsimp only
  refine wpAny_bind (wpAny_tryCatch ?_)
  refine wpAny_holding ?_
  refine wpAny_bind ((intKind P w).pyHash (intKind_is P w k tk) ?_)
  obtain ⟨ob, es, ep, t, hob, hex, hdt, good, nd, mem, small, fit, cnt, ris, led⟩ := R
  have els := good_elems (P := P) (w := w) good
  unfold setDiscardHashed setFind setFindIn
  refine wpAny_bind ?_
  refine wpAny_bind (wpAny_setState_of (s := { s with toks := s.toks + 1 }) hob hdt fit ?_)
  dsimp only
  rw [byScan_of (knd := intKind P w) rfl small els]
  simp only [↓reduceIte]
  refine wpAny_bind (wpAny_rule ?_)
  refine wpAny_bind (wpAny_setScan_of (knd := intKind P w) (s := { s with toks := s.toks + 1 }) (intKind_is P w k tk) hob hdt fit els ?_)
  cases hr : List.findIdx? (fun e : Int × Value => (intKind P w).is k e.2) es.toList with
  | none =>
    dsimp only
    refine wpAny_pure ?_
    dsimp only
    refine wpAny_pure ?_
    have no : S k = false := by
      cases q : S k with
      | false => rfl
      | true =>
        obtain ⟨e, he, is⟩ := (good_mem (P := P) (w := w) good k).mp ((mem k).mp q)
        have := List.findIdx?_eq_none_iff.mp hr e he
        rw [is] at this
        cases this
    show wpAny _ _ (ret Value.none) _ _ _
    refine wpAny_pure ⟨_, rfl, hQ s.heap n ⟨rfl, fun _ _ => rfl⟩ (Nat.le_refl _) ?_⟩
    refine SetR.congr ⟨ob, es, ep, t, hob, hex, hdt, good, nd, mem, small, fit, cnt, ris, led⟩ fun j => ?_
    by_cases z : j = k
    · rw [z, no]; rfl
    · rw [decide_eq_false z]; simp
  | some i =>
    dsimp only
    refine wpAny_pure ?_
    dsimp only
    obtain ⟨hi, is, _⟩ := List.findIdx?_eq_some_iff_getElem.mp hr
    have hie : es.toList[i]? = some es.toList[i] := List.getElem?_eq_getElem hi
    have ek := (good_is (P := P) (w := w) (good _ (List.getElem_mem hi)) k).mp is
    obtain ⟨m, em⟩ : ∃ m, es.size = m + 1 := ⟨es.size - 1, by rw [Array.length_toList] at hi; omega⟩
    obtain ⟨d1, d2, d3⟩ := drop_fits (t := t) (m := m) (i := i) (by rw [← em]; exact fit) (by rw [← em]; rw [Array.length_toList] at hi; exact hi)
    have esz : (SetTable.eraseAt es i).size = m := by
      rw [← Array.length_toList, erase_list, List.length_eraseIdx, Array.length_toList, if_pos (by rw [Array.length_toList] at hi; exact hi)]
      omega
    refine wpAny_bind (wpAny_setState_of (s := { s with toks := s.toks + 1 }) hob hdt fit ?_)
    dsimp only
    rw [Nat.zero_add]
    refine wpAny_bind (wpAny_storeSet_of (s := { s with toks := s.toks + 1 }) hob hdt ?_ (fits_of_scanBound (by rw [esz]; omega)))
    have hob1 := store_at (es' := SetTable.eraseAt es i) (t' := t.drop i) hob hdt
    refine wpAny_bind (wpAny_point ?_)
    refine wpAny_pure ?_
    show wpAny _ _ (ret Value.none) _ _ _
    refine wpAny_pure ⟨_, rfl, hQ _ m (Heap.SameBut.update s.heap a _) (by omega) ?_⟩
    refine ⟨_, SetTable.eraseAt es i, _, t.drop i, hob1, hex, rfl, fun e he => ?_, ?_, fun j => ?_, by rw [esz]; omega, by rw [esz]; exact d1, esz, d2 ris, led.imp id fun z => by rw [d3]; exact z⟩
    · rw [erase_list] at he
      exact good e ((List.eraseIdx_sublist _ _).mem he)
    · rw [erase_list]
      exact nd.sublist ((List.eraseIdx_sublist _ _).map _)
    · rw [erase_list, erase_key nd hie, ek, ← mem j]
      show (S j && !decide (j = k)) = true ↔ S j = true ∧ j ≠ k
      rw [Bool.and_eq_true, Bool.not_eq_true', decide_eq_false_iff_not]
end
end LB
namespace LB
open PySem PySem.Spec PyProof.Rows L2
section
variable {X : Cx}
/-- sorted(found) -/
def rSortS (w : World) : List V → Hp → VK → Prop := fun vs H Q => ∃ (a : Addr) (S : Int → Bool) (n : Nat), vs = [V.ref a] ∧ H a = some (SetO w a S n) ∧ n ≤ 1000 ∧
  ∀ (ns : List Int) (p : Addr), ns.Pairwise (· < ·) → (∀ k : Int, k ∈ ns ↔ S k = true) → H p = none → Q (.ref p) (upd H p (.lst (ns.map V.int)))
theorem cr_sortS (calm : X.calm = true) : CallR X (.builtin "sorted") (rSortS X.w) := by
  intro pins s σ H vs us Q I r h
  obtain ⟨a, S, n, rfl, ha, hn, q⟩ := h
  have R := setO_get I ha
  rw [Vals.ref1 r]
  refine sorted_setN R (I.ok.hd calm) fun z p ys c ks keep g o hp hg hi hs hm hl => ?_
  have le : (ks.map V.int).length ≤ sizeLine := by rw [List.length_map, hl]; exact Nat.le_trans hn (by decide)
  have free : H p = none := I.hok.fresh hp
  have J : Inv X pins σ (upd H p (.lst (ks.map V.int))) { s with heap := z.heap, gens := z.gens, drawn := z.drawn, toks := z.toks } :=
    I.call (ch := []) (Un.laid keep hp free) (I.hok.laid keep hp ⟨le, ys.toList, c, vals_of_ints hi, hg⟩) (by rw [g]; exact I.bare) (fun _ y => nomatch y)
  have e : z = { s with heap := z.heap, gens := z.gens, drawn := z.drawn, toks := z.toks } := by
    cases z; cases s; cases o; rfl
  rw [e]
  exact ⟨.ref p, _, J, rfl, q ks p hs hm free⟩
/-- found.discard(k) -/
def tSDis (w : World) (td ty : TE) : TE := fun σ H Q => td σ H fun x H1 => ∃ (a : Addr) (S : Int → Bool) (n : Nat), x = .ref a ∧ H1 a = some (SetO w a S n) ∧ ty σ H1 fun y H2 => ∃ (k : Int) (S2 : Int → Bool) (n2 : Nat), y = .int k ∧ H2 a = some (SetO w a S2 n2) ∧
  ∀ m, m ≤ n2 → Q .non (upd H2 a (SetO w a (fun j => S2 j && !decide (j = k)) m))
theorem pe_sdis {o e : Expr} {apos cpos : Pos} {td ty : TE} (ho : PE X o td) (he : PE X e ty) (m : M1 X o "discard" apos e cpos) : PE X (.Call (.Attribute o "discard" apos) [e] [] cpos) (tSDis X.w td ty) := by
  refine ⟨fun pins s σ H Q I h => ?_⟩
  refine wpAny_Call_method m.base m.few m.line PySem.F.plainAttrs_set PySem.F.slot_set_discard PySem.F.type_set_discard (thn (ho.run pins s σ H _ I h) fun u s1 ⟨x, H1, I1, rx, a, S, n, ex, ha, q1⟩ => ?_)
  subst ex
  obtain rfl : u = Value.ref a := rx
  have so : s1.heap.SetOf (intKind X.prog X.w) a S n := (setO_get I1 ha).setOf
  refine ⟨so.typeIs, so.noDict, ?_⟩
  rw [m.trees]
  refine Calls.callWith_builtin rfl (Calls.evalArgs_plain (Calls.spliced_cons (thn (he.run pins s1 σ H1 _ I1 q1) fun iv s2 ⟨y, H2, I2, ry, k, S2, n2, ey, ha2, q2⟩ => Calls.spliced_nil ?_)))
  subst ey
  obtain ⟨t, rfl⟩ := ry
  refine setR_drop (setO_get I2 ha2) fun g c sb le new => ?_
  have hex : ∃ u, g.get? a = some u := by
    have ⟨o, _, _, _, hq, _⟩ := new
    exact ⟨o, hq⟩
  exact ⟨.non, _, I2.write (e := a) (t' := s2.toks + 1) (by rw [ha2]; trivial) (.inl rfl) (fun b u hb hu => (sb.2 b hb).trans hu) hex (setO_new new), rfl, q2 c le⟩
/-- {k} -/
def tSet1 (w : World) (t : TE) : TE := fun σ H Q => ∀ d, H d = none → t σ (upd H d (SetO w d (fun _ => false) 0)) fun x H1 => ∃ k : Int, x = .int k ∧ H1 d = some (SetO w d (fun _ => false) 0) ∧ Q (.ref d) (upd H1 d (SetO w d (fun j => decide (j = k)) 1))
theorem disp_one {P : Program} {w : World} {A : Around} {E : Value → Shared → Prop} {s : Shared} {Q : Value → Shared → Prop} {b : Bool} {t : Sem Value}
    (h : wpAny (model P w) A t (fun v u => wpAny (model P w) A (setAdd s.heap.objs.size v) (fun _ u2 => Q (.ref s.heap.objs.size) u2) E u) E { s with heap := s.heap.push { cls := .type "set", dict := none, data := .set #[] 0 (.fresh 0 0 (!w.params.followText "set-order")) } }) :
    wpAny (model P w) A (setDisplay .oneByOne b [(false, t)]) Q E s := by
  unfold setDisplay
  try dsimp only
  rw [if_neg (by decide)]
  refine wpAny_bind (PpSet.newSet_ok ?_)
  dsimp only
  refine wpAny_bind (wpAny_holding ?_)
  refine wpAny_bind ?_
  show wpAny _ _ (t >>= fun v => holding [v] (evalAll []) >>= fun r => pure (v :: r)) _ _ _
  refine wpAny_bind (wpAny_mono h (fun v u hv => ?_) fun _ _ x => x)
  refine wpAny_bind (wpAny_holding ?_)
  refine wpAny_pure ?_
  refine wpAny_pure ?_
  refine wpAny_bind (wpAny_holding ?_)
  refine wpAny_bind ?_
  rw [List.forIn_cons]
  refine wpAny_bind (wpAny_bind (wpAny_mono hv (fun _ u2 h2 => ?_) fun _ _ x => x))
  refine wpAny_pure ?_
  dsimp only
  rw [List.forIn_nil]
  refine wpAny_pure ?_
  rw [if_neg (by decide)]
  refine wpAny_pure ?_
  show wpAny _ _ (forIn [] PUnit.unit _ >>= _) _ _ _
  rw [List.forIn_nil]
  exact wpAny_bind (wpAny_pure (wpAny_pure (wpAny_pure h2)))
theorem pe_set1 {e : Expr} {pos : Pos} {t : TE} (hcd : PySem.W.kdsCode X.K X.env.code = true) (he : PE X e t) (ns : starEach [e] X.env = [(false, eval e X.env)] := by rfl) : PE X (.Set [e] 0 pos) (tSet1 X.w t) := by
  refine ⟨fun pins s σ H Q I h => ?_⟩
  rw [arm_eval_Set]
  refine wpAny_bind (wpAny_standAt ?_)
  refine wpAny_bind (PySem.W.kds_main I.kIn hcd fun b => ?_)
  rw [ns]
  have free := I.hok.fresh (Nat.le_refl s.heap.objs.size)
  have new : SetR X.w (s.heap.push { cls := .type "set", dict := none, data := .set #[] 0 (.fresh 0 0 (!X.w.params.followText "set-order")) }) s.heap.objs.size (fun _ => false) 0 := setR_fresh X.w
  have I1 := I.laid (a := s.heap.objs.size) (o := SetO X.w s.heap.objs.size (fun _ => false) 0) (h' := s.heap.push { cls := .type "set", dict := none, data := .set #[] 0 (.fresh 0 0 (!X.w.params.followText "set-order")) }) (t' := s.toks) (fun _ _ z => Heap.get?_push_of_some _ z) (Nat.le_refl _) (setO_new new)
  refine disp_one (t := eval e X.env >>= fun v => standAt pos >>= fun _ => pure v) ?_
  refine wpAny_bind (wpAny_mono (he.run pins _ σ _ _ I1 (h _ free)) (fun v u ⟨x, H1, I2, rx, k, ex, hd, q⟩ => ?_) fun _ _ x => x)
  refine wpAny_bind (wpAny_standAt (wpAny_pure ?_))
  subst ex
  obtain ⟨tk, rfl⟩ := rx
  unfold setAdd
  refine wpAny_holding ?_
  refine wpAny_bind ((intKind X.prog X.w).pyHash (intKind_is X.prog X.w k tk) ?_)
  refine setR_add_hashed (s := { u with toks := u.toks + 1 }) (setO_get (I2.tok (u.toks + 1)) hd) (by decide) fun g sb r => ?_
  have r2 : SetR X.w g s.heap.objs.size (fun j => decide (j = k)) 1 := r.congr fun j => (Bool.false_or _).symm
  have hex : ∃ u, g.get? s.heap.objs.size = some u := by
    have ⟨o, _, _, _, hq, _⟩ := r2
    exact ⟨o, hq⟩
  exact ⟨.ref s.heap.objs.size, _, I2.write (e := s.heap.objs.size) (t' := u.toks + 1) (by rw [hd]; trivial) (.inl rfl) (fun b u hb hu => (sb.2 b hb).trans hu) hex (setO_new r2), rfl, q⟩
end
end LB
namespace LB
open PySem PySem.Spec PyProof.Rows L2
section
variable {P : Program} {w : World} {A : Around} {E : Value → Shared → Prop} {s : Shared}
/-- set(xs), xs a list of hint: what stands there can be walked -/
theorem set_of_list {l : Addr} {its : Array Value} (ns : List Int) {Q : Value → Shared → Prop} (calm : A.handled = none) (isl : s.heap.IsList l its) (hint : IntsAre its.toList ns) (room : ns.length + 1 < scanBound)
    (fin : ∀ (g : Heap) (tk m : Nat), SetR w g s.heap.objs.size (fun j => decide (j ∈ ns)) m → m ≤ ns.length → (∀ b o, s.heap.get? b = some o → g.get? b = some o) → Q (.ref s.heap.objs.size) { s with heap := g, toks := tk }) :
    wpAny (model P w) A (call (.type "set") [.ref l]) Q E s := by
  have isz : its.size = ns.length := by
    have z := IntsAre.length hint
    rw [Array.length_toList] at z
    exact z
  obtain ⟨cc, ct, mroAt⟩ := F.called_set.mro
  have madeAt := F.called_set.made
  have subAt := F.called_set.sub
  refine wpAny_call (codeAny_of_tree ?_)
  show wpAny _ _ (callAny (.type "set") _) _ _ _
  refine wpAny_pure ⟨Code.quiet_builtin _ (by decide +kernel), codeAny_builtin F.entry_type_call ?_⟩
  rw [Around.under_plain (weight_type_call_type "set" [.ref l] []) rfl]
  have f1 := F.called_set.notType
  have f2 := F.called_set.canCreate
  have f3 := F.typeCall_set_1 (.ref l)
  repeat (any_goals (first | assumption | wp_step))
  refine codeAny_mono (code_set_led1 (.ref l) (E := E) (Q₁ := fun v z => v = .ref s.heap.objs.size ∧ z = { s with heap := s.heap.push { cls := .type "set", dict := none, data := .set #[] 0 (.fresh 0 0 (!w.params.followText "set-order")) } }) ⟨rfl, rfl⟩) fun r z hr => ?_
  cases r with
  | error e => exact hr
  | ok fl =>
    cases fl with
    | ret v =>
      obtain ⟨rfl, rfl⟩ := hr
      have at0 : (s.heap.push { cls := .type "set", dict := none, data := .set #[] 0 (.fresh 0 0 (!w.params.followText "set-order")) }).get? s.heap.objs.size = some { cls := .type "set", dict := none, data := .set #[] 0 (.fresh 0 0 (!w.params.followText "set-order")) } := Heap.get?_push_size _ rfl
      have ty0 : Shared.TypeIs { s with heap := s.heap.push { cls := .type "set", dict := none, data := .set #[] 0 (.fresh 0 0 (!w.params.followText "set-order")) } } (.ref s.heap.objs.size) "set" := ⟨_, at0, rfl⟩
      have i1 := F.called_set.init.lookup
      have i2 := F.called_set.init.bind (.ref s.heap.objs.size)
      repeat (any_goals (first | assumption | wp_step))
      refine codeAny_mono (codeAny_call_builtin (R := wants (fun v z => v = .none ∧ ∃ g tk m, z = { s with heap := g, toks := tk } ∧ SetR w g s.heap.objs.size (fun j => decide (j ∈ ns)) m ∧ m ≤ ns.length ∧
          ∀ b o, s.heap.get? b = some o → g.get? b = some o) E) F.called_set.init.plain F.entry_set_init (check_set_init_1 ty0 ?_)) fun r2 z2 hr2 => ?_
      · obtain ⟨ob, hob, hcl, nl, hdl⟩ := isl
        obtain ⟨oc, od, odt, osl⟩ := ob
        simp only at hcl hdl
        subst hcl; subst hdl
        have hob' : (s.heap.push { cls := .type "set", dict := none, data := .set #[] 0 (.fresh 0 0 (!w.params.followText "set-order")) }).get? l = some { cls := .type "list", dict := od, data := .seq its nl, slots := osl } := Heap.get?_push_of_some _ hob
        have n1 := F.sub_list_set
        have n2 := F.sub_list_frozenset
        have n3 : (Value.type "list" == Value.type "dict") = false := by decide
        have isl1 : (s.heap.push { cls := .type "set", dict := none, data := .set #[] 0 (.fresh 0 0 (!w.params.followText "set-order")) }).IsList l its := ⟨_, hob', rfl, nl, rfl⟩
        unfold Builtin.«set.__init__» noKeywords Builtin.Frozenset.updateFrom
        generalize ePI : pyIter = PI
        wp_walk
        subst ePI
        refine wpAny_pyIter_list isl1 ?_
        refine wpAny_bind (wpAny_runValue ?_)
        have lS : l < s.heap.objs.size := Heap.lt_size hob
        have calm3 : A.in1.in1.in1.handled = none := by simp [calm]
        have nI : l ≠ (s.heap.push { cls := .type "set", dict := none, data := .set #[] 0 (.fresh 0 0 (!w.params.followText "set-order")) }).objs.size := by
          rw [Heap.size_push]; exact Nat.ne_of_lt (Nat.lt_succ_of_lt lS)
        have nF : s.heap.objs.size ∉ [(s.heap.push { cls := .type "set", dict := none, data := .set #[] 0 (.fresh 0 0 (!w.params.followText "set-order")) }).objs.size, l] := by
          rw [Heap.size_push]; simp only [List.mem_cons, List.mem_singleton, List.not_mem_nil, or_false, not_or]
          exact ⟨Nat.ne_of_lt (Nat.lt_succ_self _), Nat.ne_of_gt lS⟩
        have vals : ∀ (i : Nat) (v : Value), its[i]? = some v → ∃ k t, ns[i]? = some k ∧ v = .int k t := fun i v hv => by
          have hi : i < ns.length := by rw [← isz]; exact (Array.getElem?_eq_some_iff.mp hv).1
          obtain ⟨t, e⟩ := PyProof.Rows.IntsAre.int_at hint i v (by rw [Array.getElem?_toList]; exact hv)
          refine ⟨ns[i], t, List.getElem?_eq_getElem hi, ?_⟩
          rw [e, List.getD_eq_getElem?_getD, List.getElem?_eq_getElem hi] <;> rfl
        refine set_update_ints ((Walks.list calm3 _ l nI its).toS) s.heap.objs.size
          nF ns isz room vals (its.size - 0) 0 _ (by omega) (Nat.zero_le _)
          ⟨⟨_, Heap.get?_push_size _ rfl, rfl, rfl⟩, (isl1.push _)⟩ ?first ?last
        case first =>
          have at1 : ((s.heap.push { cls := .type "set", dict := none, data := .set #[] 0 (.fresh 0 0 (!w.params.followText "set-order")) }).push { cls := .type "list_iterator", data := .fields #[.ref l, .int 0 0] }).get? s.heap.objs.size
              = some { cls := .type "set", dict := none, data := .set #[] 0 (.fresh 0 0 (!w.params.followText "set-order")) } := Heap.get?_push_of_some _ at0
          exact ⟨0, Nat.le_refl 0, setR_new_at at1⟩
        case last =>
          intro z m mv le R2
          obtain ⟨g, gn, dr, tk, osn⟩ := z
          have e1 : gn = s.gens := mv.gens
          have e2 : dr = s.drawn := mv.drawn
          have e3 : osn = s.os := mv.os
          subst e1; subst e2; subst e3
          show wpAny _ _ _ _ _ _
          refine wpAny_pure ?_
          show wpAny _ _ (ret Value.none) _ _ _
          rw [isz] at le
          refine wpAny_pure ⟨rfl, g, tk, m, rfl, R2, le, fun b o e => ?_⟩
          have b0 : b < s.heap.objs.size := Heap.lt_size e
          have b1 : b ≠ s.heap.objs.size := Nat.ne_of_lt b0
          have b2 : b ≠ (s.heap.push { cls := .type "set", dict := none, data := .set #[] 0 (.fresh 0 0 (!w.params.followText "set-order")) }).objs.size := by
            rw [Heap.size_push]; exact Nat.ne_of_lt (Nat.lt_succ_of_lt b0)
          exact mv.heap b o (by simp only [List.mem_cons, List.mem_singleton, List.not_mem_nil, or_false, not_or]; exact ⟨b1, b2⟩) (Heap.get?_push_of_some _ (Heap.get?_push_of_some _ e))
      · cases r2 with
        | error e => exact hr2
        | ok fl2 =>
          cases fl2 with
          | ret v =>
            obtain ⟨rfl, g, tk, m, rfl, R2, le, kp⟩ := hr2
            repeat (any_goals (first | assumption | wp_step))
            exact fin _ _ _ R2 le kp
          | _ => exact hr2.elim
    | _ => exact hr.elim
end
section
variable {X : Cx}
/-- set(xs) -/
def rSetL (K : PySem.W.Frag) (w : World) : List V → Hp → VK → Prop := fun vs H Q => ∃ (l : Addr) (ns : List Int), vs = [V.ref l] ∧ SqL K H l (ns.map V.int) ∧ ns.length ≤ 1000 ∧ ∀ p m, m ≤ ns.length → H p = none → Q (.ref p) (upd H p (SetO w p (fun j => decide (j ∈ ns)) m))
theorem cr_setL (calm : X.calm = true) : CallR X (.type "set") (rSetL X.K X.w) := by
  intro pins s σ H vs us Q I r h
  obtain ⟨l, ns, rfl, hs, hn, q⟩ := h
  rw [Vals.ref1 r]
  obtain ⟨its, rv, pl, _⟩ := I.list hs
  refine set_of_list ns (I.ok.hd calm) pl.isList (by simpa using rv.ints) (by unfold scanBound; omega) fun g tk m R le kp => ?_
  exact ⟨.ref s.heap.objs.size, _, I.laid (a := s.heap.objs.size) (h' := g) (t' := tk) kp (Nat.le_refl _) (setO_new R), rfl, q _ m le (I.hok.fresh (Nat.le_refl _))⟩
end
end LB
/-! list(zip(xs, ys)) of two lists. Own text. -/
namespace LB
open PySem PySem.Spec PyProof.Rows L2
theorem zip_no_len : typeLookup (.type "zip") "__len__" = pure none := am_miss_of_fast (by decide +kernel)
theorem zip_no_hint : typeLookup (.type "zip") "__length_hint__" = pure none := am_miss_of_fast (by decide +kernel)
/-- the zip's parts, all below the list that is filled -/
structure ZA (S z TI TO i1 i2 l1 l2 : Addr) : Prop where
  D : ZipApart z TI TO i1 i2 l1 l2
  z : z < S
  TI : TI < S
  TO : TO < S
  i1 : i1 < S
  i2 : i2 < S
  l1 : l1 < S
  l2 : l2 < S
structure ZSt (S z TI TO i1 i2 l1 l2 : Addr) (xs ys : Array Value) (h : Heap) (i : Nat) : Prop where
  pair : IsPair h TI (.ref i1) (.ref i2)
  it1 : h.IsListIter i1 l1 i
  it2 : h.IsListIter i2 l2 i
  s1 : h.IsList l1 xs
  s2 : h.IsList l2 ys
  zip : (IsZip h z TI TO .none ∧ ∃ a b, IsPair h TO a b) ∨ ∃ T f oT, IsZipHeld h z TI TO T f ∧ h.get? T = some oT ∧ S < T
/-- the pairs made so far -/
structure ZG (xs ys : Array Value) (lo : Addr) (h : Heap) (as : List Addr) : Prop where
  rise : as.Pairwise (· < ·)
  above : ∀ a ∈ as, lo < a
  pairs : ∀ (j : Nat) (a : Addr), as[j]? = some a → ∃ x y, xs[j]? = some x ∧ ys[j]? = some y ∧ IsPair h a x y
section
variable {P : Program} {w : World} {A : Around} {E : Value → Shared → Prop} {s : Shared} {S z TI TO i1 i2 l1 l2 : Addr} {xs ys : Array Value}
theorem ZSt.keep {h g : Heap} {i : Nat} (a : ZA S z TI TO i1 i2 l1 l2) (t : ZSt S z TI TO i1 i2 l1 l2 xs ys h i) (k : ∀ b o, b ≠ S → h.get? b = some o → g.get? b = some o) : ZSt S z TI TO i1 i2 l1 l2 xs ys g i := by
  have n : ∀ {b}, b < S → b ≠ S := fun q => Nat.ne_of_lt q
  refine ⟨k _ _ (n a.TI) t.pair, t.it1.at fun o e => k _ o (n a.i1) e, t.it2.at fun o e => k _ o (n a.i2) e, t.s1.at fun o e => k _ o (n a.l1) e, t.s2.at fun o e => k _ o (n a.l2) e, ?_⟩
  rcases t.zip with ⟨q, x, y, r⟩ | ⟨T, f, oT, q, r, lt⟩
  · exact .inl ⟨k _ _ (n a.z) q, x, y, k _ _ (n a.TO) r⟩
  · exact .inr ⟨T, f, oT, k _ _ (n a.z) q, k _ _ (Nat.ne_of_gt lt) r, lt⟩
theorem zl_item {i : Nat} {x y : Value} {Q : Option Value → Shared → Prop} (a : ZA S z TI TO i1 i2 l1 l2) (t : ZSt S z TI TO i1 i2 l1 l2 xs ys s.heap i) (hS : S < s.heap.objs.size) (hx : xs[i]? = some x) (hy : ys[i]? = some y)
    (hQ : ∀ g, ZSt S z TI TO i1 i2 l1 l2 xs ys g (i + 1) → IsPair g s.heap.objs.size x y → (∀ b o, S ≤ b → s.heap.get? b = some o → g.get? b = some o) → (∀ b o, b ≠ z → b ≠ TO → b ≠ i1 → b ≠ i2 → s.heap.get? b = some o → g.get? b = some o) → Q (some (.ref s.heap.objs.size)) { s with heap := g }) :
    wpAny (model P w) A (pyNext (.ref z)) Q E s := by
  have D := a.D
  have up : ∀ {b c : Addr}, S ≤ b → c < S → b ≠ c := fun q r e => by rw [e] at q; exact absurd r (Nat.not_lt.mpr q)
  rcases t.zip with ⟨q, u, v, r⟩ | ⟨T, f, oT, q, r, lt⟩
  · refine wpAny_pyNext_zip_item D q t.pair r t.it1 t.it2 t.s1 t.s2 hx hy fun g a1 a2 a3 a4 a5 a6 hk => ?_
    exact hQ g ⟨hk _ _ D.TIz D.TITO D.TIi1 D.TIi2 t.pair, a3, a4, t.s1.at fun o e => hk _ o D.l1z D.l1TO D.l1i1 D.l1i2 e, t.s2.at fun o e => hk _ o D.l2z D.l2TO D.l2i1 D.l2i2 e, .inr ⟨_, false, _, a1, a5, hS⟩⟩ a5
      (fun b o hb e => hk b o (up hb a.z) (up hb a.TO) (up hb a.i1) (up hb a.i2) e) hk
  · refine wpAny_pyNext_zip_item_held D q r t.pair t.it1 t.it2 t.s1 t.s2 hx hy fun g a1 a3 a4 a5 a6 hk => ?_
    have lt' : S ≤ T := Nat.le_of_lt lt
    exact hQ g ⟨hk _ _ D.TIz D.TIi1 D.TIi2 t.pair, a3, a4, t.s1.at fun o e => hk _ o D.l1z D.l1i1 D.l1i2 e, t.s2.at fun o e => hk _ o D.l2z D.l2i1 D.l2i2 e, .inr ⟨T, true, oT, a1, hk _ _ (up lt' a.z) (up lt' a.i1) (up lt' a.i2) r, lt⟩⟩ a5
      (fun b o hb e => hk b o (up hb a.z) (up hb a.i1) (up hb a.i2) e) (fun b o h1 _ h3 h4 e => hk b o h1 h3 h4 e)
theorem zl_done {i : Nat} {Q : Option Value → Shared → Prop} (calm : A.handled = none) (a : ZA S z TI TO i1 i2 l1 l2) (t : ZSt S z TI TO i1 i2 l1 l2 xs ys s.heap i) (fin : xs[i]? = none ∨ ys[i]? = none)
    (hQ : ∀ g, (∀ b o, b ≠ z → b ≠ TO → b ≠ i1 → b ≠ i2 → s.heap.get? b = some o → g.get? b = some o) → Q none { s with heap := g }) : wpAny (model P w) A (pyNext (.ref z)) Q E s := by
  rcases t.zip with ⟨q, u, v, r⟩ | ⟨T, f, oT, q, r, lt⟩
  · exact wpAny_pyNext_zip_end calm a.D q t.pair r t.it1 t.it2 t.s1 t.s2 fin hQ
  · exact wpAny_pyNext_zip_end_held calm a.D q r t.pair t.it1 t.it2 t.s1 t.s2 fin fun g hk => hQ g fun b o h1 _ h3 h4 e => hk b o h1 h3 h4 e
theorem zl_loop {R : Result → Shared → Prop} (calm : A.handled = none) (a : ZA S z TI TO i1 i2 l1 l2) (small : min xs.size ys.size ≤ 10000) (res : Value) {h₀ : Heap}
    (fin : ∀ g tk acc c as, (∀ b o, b ≠ S → b ≠ z → b ≠ TO → b ≠ i1 → b ≠ i2 → h₀.get? b = some o → g.get? b = some o) → g.get? S = some { cls := .type "list", dict := none, data := .seq acc c, slots := #[] } → as.length = min xs.size ys.size → ZG xs ys S g as →
      acc.toList = as.map Value.ref → R (.ok (.ret res)) { s with heap := g, toks := tk }) :
    ∀ (k i : Nat) (h : Heap) (tk c : Nat) (acc : Array Value) (as : List Addr), min xs.size ys.size - i = k → i ≤ min xs.size ys.size → ZSt S z TI TO i1 i2 l1 l2 xs ys h i → (∀ b o, b ≠ S → b ≠ z → b ≠ TO → b ≠ i1 → b ≠ i2 → h₀.get? b = some o → h.get? b = some o) →
      h.get? S = some { cls := .type "list", dict := none, data := .seq acc c, slots := #[] } → acc.toList = as.map Value.ref → as.length = i → ZG xs ys S h as →
      codeAny (model P w) A (.builtin "list.extend.loop" ⟨[.ref S, .ref z, res], []⟩) R { s with heap := h, toks := tk } := by
  have lim : min xs.size ys.size < sizeLine := Nat.lt_of_le_of_lt small (by decide)
  have off : ∀ {b c : Addr}, S ≤ b → c < S → b ≠ c := fun q r e => by rw [e] at q; exact absurd r (Nat.not_lt.mpr q)
  intro k
  induction k with
  | zero =>
    intro i h tk c acc as hk hi st kp hS hacc hal G
    have hin : i = min xs.size ys.size := by omega
    have fn : xs[i]? = none ∨ ys[i]? = none := by
      rcases Nat.le_total xs.size ys.size with q | q
      · exact .inl (Array.getElem?_eq_none (by omega))
      · exact .inr (Array.getElem?_eq_none (by omega))
    refine codeAny_builtin PySem.F.entry_extend_loop ?_
    rw [Around.under_plainId PySem.F.plain_extend_loop _]
    show wpAny _ A.in1 (pyNext (.ref z) >>= _) _ _ _
    refine wpAny_bind (zl_done (s := { s with heap := h, toks := tk }) (A := A.in1) calm a st fn fun g he => ?_)
    have le : S ≤ S := Nat.le_refl _
    refine wpAny_pure (fin g tk acc c as (fun b o _ n1 n2 n3 n4 e => he b o n1 n2 n3 n4 (kp b o ‹_› n1 n2 n3 n4 e)) (he S _ (off le a.z) (off le a.TO) (off le a.i1) (off le a.i2) hS) (by omega) ⟨G.rise, G.above, fun j b hj => ?_⟩ hacc)
    obtain ⟨x, y, e1, e2, e3⟩ := G.pairs j b hj
    have hb : S ≤ b := Nat.le_of_lt (G.above b (List.mem_of_getElem? hj))
    exact ⟨x, y, e1, e2, he b _ (off hb a.z) (off hb a.TO) (off hb a.i1) (off hb a.i2) e3⟩
  | succ k ih =>
    intro i h tk c acc as hk hi st kp hS hacc hal G
    have hlt : i < min xs.size ys.size := by omega
    have hsz : acc.size = i := by rw [← Array.length_toList, hacc, List.length_map, hal]
    have ex : xs[i]? = some xs[i] := Array.getElem?_eq_getElem (by omega)
    have ey : ys[i]? = some ys[i] := Array.getElem?_eq_getElem (by omega)
    have hSl : S < h.objs.size := Heap.lt_size hS
    refine codeAny_builtin PySem.F.entry_extend_loop ?_
    rw [Around.under_plainId PySem.F.plain_extend_loop _]
    show wpAny _ A.in1 (pyNext (.ref z) >>= _) _ _ _
    refine wpAny_bind (zl_item (s := { s with heap := h, toks := tk }) a st hSl ex ey fun g st' pr up1 all => ?_)
    dsimp only at pr up1 all ⊢
    have hS' := up1 S _ (Nat.le_refl _) hS
    have wr : ∀ b o, b ≠ S → g.get? b = some o → (g.update S (Obj.mapSeq (·.push (Value.ref h.objs.size)))).get? b = some o := fun b o hb e => (Heap.get?_update_other _ _ (Ne.symm hb)).trans e
    show wpAny _ A.in1 (updateSeq S (·.push (Value.ref h.objs.size)) >>= _) _ _ _
    refine wpAny_bind ?_
    refine wpAny_updateSeq hS' rfl (wpAny_pure ⟨plainId_quiet PySem.F.plain_extend_loop _, ih (i + 1) _ tk _ (acc.push (Value.ref h.objs.size)) (as ++ [h.objs.size]) (by omega) hlt (st'.keep a wr)
      (fun b o n0 n1 n2 n3 n4 e => wr b o n0 (all b o n1 n2 n3 n4 (kp b o n0 n1 n2 n3 n4 e))) (Heap.get?_update_self _ hS' rfl) (by rw [Array.toList_push, hacc, List.map_append]; rfl) (by rw [List.length_append, hal]; rfl) ⟨?_, ?_, ?_⟩⟩) (by rw [hsz]; omega) (by show (acc.push (Value.ref h.objs.size)).size ≤ sizeLine + 1; rw [Array.size_push, hsz]; omega)
    · refine List.pairwise_append.mpr ⟨G.rise, List.pairwise_singleton _ _, fun b hb c hc => ?_⟩
      rw [List.mem_singleton.mp hc]
      obtain ⟨j, hj⟩ := List.mem_iff_getElem?.mp hb
      obtain ⟨_, _, _, _, e⟩ := G.pairs j b hj
      exact Heap.lt_size e
    · intro b hb
      rcases List.mem_append.mp hb with hb | hb
      · exact G.above b hb
      · rw [List.mem_singleton.mp hb]; exact hSl
    · intro j b hj
      rcases Nat.lt_trichotomy j as.length with h1 | h1 | h1
      · rw [List.getElem?_append_left h1] at hj
        obtain ⟨x, y, e1, e2, e3⟩ := G.pairs j b hj
        have hb := G.above b (List.mem_of_getElem? hj)
        exact ⟨x, y, e1, e2, wr b _ (Nat.ne_of_gt hb) (up1 b _ (Nat.le_of_lt hb) e3)⟩
      · subst h1
        have hb : h.objs.size = b := by simpa using hj
        subst hb
        rw [hal]
        exact ⟨_, _, ex, ey, wr _ _ (Nat.ne_of_gt hSl) pr⟩
      · have none_ : (as ++ [h.objs.size])[j]? = none := List.getElem?_eq_none (by rw [List.length_append, List.length_singleton]; omega)
        rw [none_] at hj; cases hj
end
end LB
namespace LB
open PySem PySem.Spec PyProof.Rows L2
section
variable {P : Program} {w : World} {A : Around} {E : Value → Shared → Prop} {s : Shared} {z TI TO i1 i2 l1 l2 : Addr} {xs ys : Array Value}
theorem zl_hint {Q : Bool → Shared → Prop} (ty : s.TypeIs (.ref z) "zip") (h : ∀ b, Q b s) : wpAny (model P w) A (Builtin.List.listLengthHint (.ref z)) Q E s := by
  unfold Builtin.List.listLengthHint
  refine wpAny_bind (wpAny_specialOf ty zip_no_len ?_)
  show wpAny _ _ (specialOf (Value.ref z) (Str.ofString "__length_hint__") >>= _) _ _ _
  refine wpAny_bind (wpAny_specialOf ty zip_no_hint ?_)
  exact wpAny_pure (h _)
theorem zl_fill {S : Addr} {R : Result → Shared → Prop} (calm : A.handled = none) (a : ZA S z TI TO i1 i2 l1 l2) (t : ZSt S z TI TO i1 i2 l1 l2 xs ys s.heap 0) (hz : IsZip s.heap z TI TO .none) (small : min xs.size ys.size ≤ 10000) (res : Value) (c0 : Nat)
    (hS : s.heap.get? S = some { cls := .type "list", data := .seq #[] c0 })
    (fin : ∀ g tk acc c as, (∀ b o, b ≠ S → b ≠ z → b ≠ TO → b ≠ i1 → b ≠ i2 → s.heap.get? b = some o → g.get? b = some o) → g.get? S = some { cls := .type "list", dict := none, data := .seq acc c, slots := #[] } → as.length = min xs.size ys.size → ZG xs ys S g as →
      acc.toList = as.map Value.ref → R (.ok (.ret res)) { s with heap := g, toks := tk }) :
    wpAny (model P w) A.in1 (Builtin.List.listExtendWith (.ref S) (.ref z) res)
      (fun out u => match out with | .done f => R (.ok f) u | .again more => more.quiet = true ∧ codeAny (model P w) A more R u) (fun e u => R (.error e) u) s := by
  have key : ∀ (h : Heap) (c1 tk : Nat), (∀ b o, b ≠ S → s.heap.get? b = some o → h.get? b = some o) → h.get? S = some { cls := .type "list", data := .seq #[] c1 } → codeAny (model P w) A (.builtin "list.extend.loop" ⟨[.ref S, .ref z, res], []⟩) R { s with heap := h, toks := tk } := by
    intro h c1 tk hk hS1
    exact zl_loop (s := s) (h₀ := s.heap) calm a small res fin _ 0 h tk c1 #[] [] rfl (Nat.zero_le _) (t.keep a hk) (fun b o n _ _ _ _ e => hk b o n e) hS1 rfl rfl ⟨List.Pairwise.nil, (fun _ q => nomatch q), (fun j b q => by simp at q)⟩
  have ne : S ≠ z := Nat.ne_of_gt a.z
  unfold Builtin.List.listExtendWith
  refine wpAny_bind (wpAny_typeOf (T := "zip") ⟨_, hz, rfl⟩ ?_)
  have d1 : Builtin.List.listSameRef (.ref S) (.ref z) = false := by simp [Builtin.List.listSameRef, ne]
  have d2 : (Value.type "zip" == Value.type "list") = false := by decide
  have d3 : (Value.type "zip" == Value.type "tuple") = false := by decide
  simp only [d1, d2, d3, Bool.or_false, Bool.false_eq_true, if_false]
  refine wpAny_bind (wpAny_pyIter_zip hz ?_)
  refine wpAny_bind (wpAny_holding (zl_hint ⟨_, hz, rfl⟩ fun b => ?_))
  refine wpAny_ite_split (fun _ => ?_) (fun _ => wpAny_pure ⟨plainId_quiet PySem.F.plain_extend_loop _, key _ c0 _ (fun b o _ e => e) hS⟩)
  refine wpAny_bind (wpAny_rule ?_)
  refine wpAny_bind ?_
  show wpAny _ _ (updateSeq S (·.push .none) >>= fun _ => updateSeq S (·.pop)) _ _ _
  refine wpAny_bind (wpAny_updateSeq hS rfl ?_)
  have at1 := Heap.get?_update_self (Obj.mapSeq (·.push Value.none)) hS rfl
  refine wpAny_updateSeq (hz := by seq_fits) at1 rfl ?_
  have at2 := Heap.get?_update_self (Obj.mapSeq (·.pop)) at1 rfl
  refine wpAny_pure ⟨plainId_quiet PySem.F.plain_extend_loop _, key _ _ _ (fun b o hb e => ?_) at2⟩
  exact (Heap.get?_update_other _ _ (Ne.symm hb)).trans ((Heap.get?_update_other _ _ (Ne.symm hb)).trans e)
theorem zl_make {S : Addr} {R : Result → Shared → Prop} (calm : A.handled = none) (a : ZA S z TI TO i1 i2 l1 l2) (t : ZSt S z TI TO i1 i2 l1 l2 xs ys s.heap 0) (hz : IsZip s.heap z TI TO .none) (small : min xs.size ys.size ≤ 10000)
    (hS : s.heap.get? S = some { cls := .type "list", data := .seq #[] })
    (fin : ∀ g tk acc c as, (∀ b o, b ≠ S → b ≠ z → b ≠ TO → b ≠ i1 → b ≠ i2 → s.heap.get? b = some o → g.get? b = some o) → g.get? S = some { cls := .type "list", dict := none, data := .seq acc c, slots := #[] } → as.length = min xs.size ys.size → ZG xs ys S g as →
      acc.toList = as.map Value.ref → R (.ok (.ret .none)) { s with heap := g, toks := tk }) :
    wpAny (model P w) A.in1 (Builtin.«list.__init__» ⟨[.ref S, .ref z], []⟩)
      (fun out u => match out with | .done f => R (.ok f) u | .again more => more.quiet = true ∧ codeAny (model P w) A more R u) (fun e u => R (.error e) u) s := by
  show wpAny _ _ (do let old ← Builtin.List.listItems (.ref S); Builtin.List.listUpdate (.ref S) (fun _ => #[]); letGo old.toList.reverse; Builtin.List.listExtendWith (.ref S) (.ref z) .none) _ _ s
  refine wpAny_bind ?_
  unfold Builtin.List.listItems
  refine wpAny_bind (wpAny_seqItems hS rfl (wpAny_pure ?_))
  show wpAny _ _ (updateSeq S (fun _ => #[]) >>= fun _ => letGo (#[] : Array Value).toList.reverse >>= fun _ => Builtin.List.listExtendWith (.ref S) (.ref z) .none) _ _ s
  refine wpAny_bind (wpAny_updateSeq hS rfl ?_)
  have at1 := Heap.get?_update_self (Obj.mapSeq (fun _ => (#[] : Array Value))) hS rfl
  have oth : ∀ b o, b ≠ S → s.heap.get? b = some o → (s.heap.update S (Obj.mapSeq (fun _ => (#[] : Array Value)))).get? b = some o := fun b o hb e => (Heap.get?_update_other _ _ (Ne.symm hb)).trans e
  refine wpAny_bind (wpAny_letGo ?_)
  exact zl_fill calm a (t.keep a oth) (oth z _ (Nat.ne_of_lt a.z) hz) small .none _ at1 fun g tk acc c as hk => fin g tk acc c as fun b o n n1 n2 n3 n4 e => hk b o n n1 n2 n3 n4 (oth b o n e)
theorem zip_apart (n z TI TO i1 i2 l1 l2 : Nat) (hz : z = n + 4) (hTI : TI = n + 2) (hTO : TO = n + 3) (e1 : i1 = n) (e2 : i2 = n + 1) (h1 : l1 < n) (h2 : l2 < n) : ZipApart z TI TO i1 i2 l1 l2 := by
  constructor <;> (intro e; have e' : @Eq Nat _ _ := e; omega)
theorem zip_all (n m z TI TO i1 i2 l1 l2 : Nat) (hz : z = n + 4) (hTI : TI = n + 2) (hTO : TO = n + 3) (e1 : i1 = n) (e2 : i2 = n + 1) (h1 : l1 < n) (h2 : l2 < n) (h : m = n + 5) : ZA m z TI TO i1 i2 l1 l2 := by
  refine ⟨zip_apart n z TI TO i1 i2 l1 l2 hz hTI hTO e1 e2 h1 h2, show @LT.lt Nat _ _ _ by omega, show @LT.lt Nat _ _ _ by omega, show @LT.lt Nat _ _ _ by omega, show @LT.lt Nat _ _ _ by omega, show @LT.lt Nat _ _ _ by omega, show @LT.lt Nat _ _ _ by omega, show @LT.lt Nat _ _ _ by omega⟩
theorem below_ne {n k : Nat} {b : Addr} (h : b < n) : b ≠ n + k := Nat.ne_of_lt (Nat.lt_of_lt_of_le h (Nat.le_add_right n k))
/-- list(zip(xs, ys)) -/
theorem zl_call {l1 l2 : Addr} {Q : Value → Shared → Prop} (calm : A.handled = none) (h1 : s.heap.IsList l1 xs) (h2 : s.heap.IsList l2 ys) (small : min xs.size ys.size ≤ 10000)
    (hQ : ∀ g tk acc c as S, (∀ b o, s.heap.get? b = some o → g.get? b = some o) → s.heap.objs.size ≤ S → g.get? S = some { cls := .type "list", dict := none, data := .seq acc c, slots := #[] } → as.length = min xs.size ys.size → ZG xs ys S g as →
      acc.toList = as.map Value.ref → Q (.ref S) { s with heap := g, toks := tk }) :
    wpAny (model P w) A (call (.type "zip") [.ref l1, .ref l2]) (fun v u => wpAny (model P w) A (call (.type "list") [v]) Q E u) E s := by
  have L1 : l1 < s.heap.objs.size := let ⟨_, e, _⟩ := h1; Heap.lt_size e
  have L2 : l2 < s.heap.objs.size := let ⟨_, e, _⟩ := h2; Heap.lt_size e
  refine call_zip_2 h1 h2 fun h hz pTI pTO q1 q2 sz kp => ?_
  refine callType_codes (Q₁ := fun v u => v = .ref h.objs.size ∧ u = { s with heap := h.push { cls := .type "list", data := .seq #[] } }) PySem.F.called_list (PySem.F.typeCall_list_1 _) PySem.F.entry_list_init
    (code_list_new _ ⟨rfl, rfl⟩) fun v u hu => ?_
  obtain ⟨rfl, rfl⟩ := hu
  have at0 : (h.push { cls := .type "list", data := .seq #[] }).get? h.objs.size = some { cls := .type "list", data := .seq #[] } := Heap.get?_push_size _ rfl
  have pu : ∀ b o, h.get? b = some o → (h.push { cls := .type "list", data := .seq #[] }).get? b = some o := fun b o e => Heap.get?_push_of_some _ e
  have a := zip_all s.heap.objs.size h.objs.size _ _ _ _ _ l1 l2 rfl rfl rfl rfl rfl L1 L2 sz
  refine ⟨⟨_, at0, rfl⟩, PySem.F.args_list_init_2 _ _, zl_make (xs := xs) (ys := ys) (A := A.in1) calm a ⟨pu _ _ pTI, q1.at fun o e => pu _ o e, q2.at fun o e => pu _ o e, (h1.at fun o e => kp _ o e).at fun o e => pu _ o e, (h2.at fun o e => kp _ o e).at fun o e => pu _ o e, .inl ⟨pu _ _ hz, _, _, pu _ _ pTO⟩⟩ (pu _ _ hz) small at0 fun g tk acc c as hk e1 e2 G e3 => ?_⟩
  have le : s.heap.objs.size ≤ h.objs.size := by rw [sz]; exact Nat.le_add_right _ _
  refine ⟨rfl, hQ g tk acc c as _ (fun b o e => ?_) le e1 e2 G e3⟩
  have lt := Heap.lt_size e
  exact hk b o (Nat.ne_of_lt (Nat.lt_of_lt_of_le lt le)) (below_ne lt) (below_ne lt) (Nat.ne_of_lt lt) (below_ne lt) (pu b o (kp b o e))
end
end LB
namespace LB
open PySem PySem.Spec PyProof.Rows L2
theorem pz {α β : Type} {R : α → β → Prop} : ∀ {xs : List α} {ys : List β}, Paired R xs ys → ∀ {i : Nat} {y : β}, ys[i]? = some y → ∃ x, xs[i]? = some x ∧ R x y
  | _, _, .nil, i, y, h => by cases h
  | x :: xs, y :: ys, .cons a t, 0, z, h => by cases h; exact ⟨x, rfl, a⟩
  | x :: xs, y :: ys, .cons a t, i + 1, z, h => pz t (i := i) h
theorem refV : ∀ as : List Addr, Vals (as.map V.ref) (as.map Value.ref)
  | [] => .nil
  | _ :: r => .cons rfl (refV r)
/-- list(zip(xs, ys)) -/
def tLZip (K : PySem.W.Frag) (t : TA) : TE := fun σ H Q => t σ H fun us H1 => ∃ (l1 l2 : Addr) (v1 v2 : List V), us = [.ref l1, .ref l2] ∧ SqL K H1 l1 v1 ∧ SqL K H1 l2 v2 ∧ min v1.length v2.length ≤ 1000 ∧
  ∀ (L : Addr) (ts : List Addr) (H2 : Hp), H1 L = none → Same H1 H2 → H2 L = some (.lst (ts.map V.ref)) → ts.length = min v1.length v2.length → (∀ (j : Nat) (t : Addr), ts[j]? = some t → ∃ x y, v1[j]? = some x ∧ v2[j]? = some y ∧ H2 t = some (.tup [x, y])) → Q (.ref L) H2
theorem pe_lzip {X : Cx} {e e2 : Expr} {ta : TA} {p p2 q pos : Pos} (calm : X.calm = true) (g1 : Gl X "list") (m1 : X.mg "list" = none) (g2 : Gl X "zip") (m2 : X.mg "zip" = none) (ha : PA X [e, e2] ta)
    (na : starEach [.Call (.Name "zip" p2) [e, e2] [] q] X.env = (false, eval (.Call (.Name "zip" p2) [e, e2] [] q) X.env) :: starEach [] X.env := by rfl) (hs : starEach [e, e2] X.env = (false, eval e X.env) :: starEach [e2] X.env := by rfl) (hpl : (backTo q (starEach [e2] X.env)).any (·.1) = false := by rfl) :
    PE X (.Call (.Name "list" p) [.Call (.Name "zip" p2) [e, e2] [] q] [] pos) (tLZip X.K ta) := by
  constructor
  intro pins s σ H Q I h
  refine Call_ ?_
  refine ld_blt I g1 m1 PyProof.Rows.boot_list ?_
  refine callWith_type1 (args_cons ?_ na) na rfl
  refine Call_ ?_
  refine ld_blt I g2 m2 PyProof.Rows.boot_zip ?_
  refine callWith_type1 (thn (ha.run q pins s σ H _ I h) fun us s1 ⟨vs, H1, I1, rel, l1, l2, v1, v2, ex, q1, q2, small, k⟩ => ?_) hs hpl
  subst ex
  cases rel with
  | cons r rr =>
    cases rr with
    | cons r' rr =>
      cases rr
      cases r
      cases r'
      obtain ⟨xs, rx, px, _⟩ := I1.list q1
      obtain ⟨ys, ry, py, _⟩ := I1.list q2
      have lx : xs.toArray.size = v1.length := by rw [List.size_toArray, ← rx.length]
      have ly : ys.toArray.size = v2.length := by rw [List.size_toArray, ← ry.length]
      refine wpAny_mono (zl_call (P := X.prog) (w := X.w) (A := X.A) (E := X.xe) (s := s1) (xs := xs.toArray) (ys := ys.toArray) (Q := EP X pins σ Q) (I1.ok.hd calm) px.isList py.isList (by rw [lx, ly]; omega) fun g tk acc c as S kp hS eS el G ea => ?_) (fun v u hv => args_nil hv) fun _ _ x => x
      have nd : as.Nodup := List.Pairwise.imp (fun {a b} (h : a < b) => Nat.ne_of_lt h) G.rise
      have fresh : H1 S = none := I1.hok.fresh hS
      have al : as.length ≤ 1000 := by rw [el, lx, ly]; exact small
      have I2 : Inv X pins σ (upd H1 S (.lst (as.map V.ref))) { s1 with heap := g, toks := tk } := I1.laid (t' := tk) kp hS ⟨by rw [List.length_map]; exact Nat.le_trans al (by decide), acc.toList, c, by rw [ea]; exact refV as, by rw [Array.toArray_toList]; exact eS⟩
      obtain ⟨H3, I3, gr, at3⟩ := L2.DX.takeT (P := fun a vs => ∃ (j : Nat) (x y : V), as[j]? = some a ∧ v1[j]? = some x ∧ v2[j]? = some y ∧ vs = [x, y]) I1 as _ I2 nd fun a haa => by
        have ab := G.above a haa
        obtain ⟨j, hj⟩ := List.mem_iff_getElem?.mp haa
        obtain ⟨ux, uy, e1, e3, e4⟩ := G.pairs j a hj
        obtain ⟨x, f1, f2⟩ := pz rx (by rw [← List.getElem?_toArray]; exact e1)
        obtain ⟨y, f3, f4⟩ := pz ry (by rw [← List.getElem?_toArray]; exact e3)
        refine ⟨Nat.le_trans hS (Nat.le_of_lt ab), ?_, [x, y], ⟨j, x, y, hj, f1, f3, rfl⟩, fun H2 => ⟨by show 2 ≤ sizeLine; decide, [ux, uy], .cons f2 (.cons f4 .nil), ⟨_, e4, rfl, _, rfl⟩⟩⟩
        rw [upd_ne (Nat.ne_of_gt ab)]
        exact I1.hok.fresh (Nat.le_trans hS (Nat.le_of_lt ab))
      refine ⟨.ref S, H3, I3, rfl, k S as H3 fresh (fun b o e => gr b o (by rw [upd_ne (ne_of_none e fresh)]; exact e)) (gr _ _ upd_same) (by rw [el, lx, ly]) fun j t hj => ?_⟩
      obtain ⟨vs, ⟨j', x, y, hj', f1, f3, rfl⟩, et⟩ := at3 t (List.mem_of_getElem? hj)
      have : j' = j := (List.getElem?_inj (List.getElem?_eq_some_iff.mp hj').1 nd).mp (hj'.trans hj.symm)
      subst this
      exact ⟨x, y, f1, f3, et⟩
end LB
/-! Sets of ints and list(zip(..)) told by data; where blocks begin. Own text. -/
namespace LB
open PySem L2
section
variable {w : World} {K : PySem.W.Frag} {σ : L2.St} {H H' : Hp} {ta tb te : TE} {tt : TT} {ds es : List PyData} {D : Ends} {tz : TS} {d : Addr} {S : Int → Bool} {n i : Nat} {z : Int}
theorem Grow.setO {T : Int → Bool} {m : Nat} (h : H d = some (SetO w d S n)) : Grow K H (upd H d (SetO w d T m)) := fun a zs q => by
  have ne : ∀ o, H a = some o → o ≠ SetO w d S n → a ≠ d := fun o e n z => by rw [z, h] at e; exact n (Option.some.inj e).symm
  rcases q with (q | ⟨o, q⟩) | q
  · exact .inl (.inl (by rw [upd_ne (ne _ q (by intro z; cases z))]; exact q))
  · exact .inl (.inr ⟨o, by rw [upd_ne (ne _ q (by intro z; cases z))]; exact q⟩)
  · exact .inr q
theorem Chg.setO {T : Int → Bool} {m : Nat} {bad : Addr → Prop} (h : H d = some (SetO w d S n)) (hb : bad d) : Chg K bad H (upd H d (SetO w d T m)) := ⟨fun p o ne e => by
  rw [upd_ne (fun z => ne (by rw [z]; exact hb))]
  exact e, Grow.setO h⟩
/-- {z} -/
theorem q_set1 (h : EvD K te σ H (.int z)) (k : ∀ d H1, H d = none → Same H H1 → H1 d = some (SetO w d (fun j => decide (j = z)) 1) → tz D (σ.set i (some (.ref d))) H1) : tSeq (tAsg (tSet1 w te) (gName i)) tz D σ H := by
  intro d hd
  refine h _ (same_new hd _) _ fun v H1 s1 dv => ?_
  cases dv
  exact ⟨z, rfl, s1 _ _ upd_same, k d _ hd (Same.over ((same_new hd _).trans s1) hd) upd_same⟩
/-- found.add(z) -/
theorem s_sadd (hv : σ[i]? = some (some (.ref d))) (hS : H d = some (SetO w d S n)) (h : EvD K te σ H (.int z)) (room : n ≤ 1000) (k : ∀ H1 m, Chg K (fun a => a = d) H H1 → m ≤ n + 1 → H1 d = some (SetO w d (fun j => S j || decide (j = z)) m) → D.nx σ H1) :
    tDrop (tSAdd w (tVar i) (tCons te tNil)) D σ H := by
  refine ⟨_, hv, ⟨d, S, n, rfl, hS⟩, h H (Same.refl _) _ fun v H2 s2 dv => ?_⟩
  cases dv
  refine ⟨d, z, S, n, rfl, rfl, s2 _ _ hS, Nat.lt_of_le_of_lt (Nat.succ_le_succ room) (by decide), ?_⟩
  exact k _ _ ((Chg.of s2).trans (Chg.setO (s2 _ _ hS) rfl)) (by split <;> omega) upd_same
theorem s_ifAdd {b : Bool} (hc : EvB tt σ H b) (hv : σ[i]? = some (some (.ref d))) (hS : H d = some (SetO w d S n)) (h : b = true → EvD K te σ H (.int z)) (room : n ≤ 1000)
    (k : ∀ H1 m, Chg K (fun a => a = d) H H1 → m ≤ n + 1 → H1 d = some (SetO w d (fun j => S j || (b && decide (j = z))) m) → D.nx σ H1) :
    tIfS tt (tDrop (tSAdd w (tVar i) (tCons te tNil))) tNext D σ H := by
  refine s_if hc (fun q H1 s => ?_) (fun q H1 s => ?_)
  · subst q
    exact s_sadd hv (s _ _ hS) ((h rfl).mono s) room fun H2 m c hm e => k H2 m ((Chg.of s).trans c) hm e
  · subst q
    have e : (fun j => S j || (false && decide (j = z))) = S := funext fun j => by rw [Bool.false_and, Bool.or_false]
    rw [e] at k
    exact k H1 n (Chg.of s) (Nat.le_succ _) (s _ _ hS)
theorem q_ifAdd {b : Bool} (hc : EvB tt σ H b) (hv : σ[i]? = some (some (.ref d))) (hS : H d = some (SetO w d S n)) (h : b = true → EvD K te σ H (.int z)) (room : n ≤ 1000)
    (k : ∀ H1 m, Chg K (fun a => a = d) H H1 → m ≤ n + 1 → H1 d = some (SetO w d (fun j => S j || (b && decide (j = z))) m) → tz D σ H1) :
    tSeq (tIfS tt (tDrop (tSAdd w (tVar i) (tCons te tNil))) tNext) tz D σ H := s_ifAdd (D := { D with nx := tz D }) hc hv hS h room k
/-- found.discard(z) -/
theorem q_sdis (hv : σ[i]? = some (some (.ref d))) (hS : H d = some (SetO w d S n)) (h : EvD K te σ H (.int z)) (k : ∀ H1 m, Chg K (fun a => a = d) H H1 → m ≤ n → H1 d = some (SetO w d (fun j => S j && !decide (j = z)) m) → tz D σ H1) :
    tSeq (tDrop (tSDis w (tVar i) te)) tz D σ H := by
  refine ⟨_, hv, d, S, n, rfl, hS, h H (Same.refl _) _ fun v H2 s2 dv => ?_⟩
  cases dv
  refine ⟨z, S, n, rfl, s2 _ _ hS, fun m hm => ?_⟩
  exact k _ _ ((Chg.of s2).trans (Chg.setO (s2 _ _ hS) rfl)) hm upd_same
theorem rise_eq : ∀ {xs ys : List Int}, xs.Pairwise (· < ·) → ys.Pairwise (· < ·) → (∀ j, j ∈ xs ↔ j ∈ ys) → xs = ys
  | [], [], _, _, _ => rfl
  | [], y :: ys, _, _, h => absurd ((h y).mpr (List.mem_cons_self ..)) (by simp)
  | x :: xs, [], _, _, h => absurd ((h x).mp (List.mem_cons_self ..)) (by simp)
  | x :: xs, y :: ys, hx, hy, h => by
    rw [List.pairwise_cons] at hx hy
    have e : x = y := by
      rcases List.mem_cons.mp ((h x).mp (List.mem_cons_self ..)) with q | q
      · exact q
      · rcases List.mem_cons.mp ((h y).mpr (List.mem_cons_self ..)) with q2 | q2
        · exact q2.symm
        · have a := hy.1 x q
          have b := hx.1 y q2
          omega
    subst e
    rw [rise_eq hx.2 hy.2 fun j => ⟨fun hj => ?_, fun hj => ?_⟩]
    · rcases List.mem_cons.mp ((h j).mp (List.mem_cons_of_mem _ hj)) with q | q
      · have := hx.1 j hj
        omega
      · exact q
    · rcases List.mem_cons.mp ((h j).mpr (List.mem_cons_of_mem _ hj)) with q | q
      · have := hy.1 j hj
        omega
      · exact q
/-- sorted(found) -/
theorem en_sortS {ms : List Int} (hv : σ[i]? = some (some (.ref d))) (hS : H d = some (SetO w d S n)) (small : n ≤ 1000) (hm : ms.Pairwise (· < ·)) (mem : ∀ k, k ∈ ms ↔ S k = true) : EvN K (tCB (rSortS w) (tCons (tVar i) tNil)) σ H (ms.map .int) := fun H1 s Q q =>
  ⟨_, hv, d, S, n, rfl, s _ _ hS, small, fun ns p hr hn hp => by
    rw [rise_eq hr hm fun j => (hn j).trans (mem j).symm]
    exact q p _ _ hp (same_new hp _) upd_same (dpAll_ints K _ _)⟩
/-- sorted(set(xs)) -/
theorem en_sortSet {ns ms : List Int} (h : EvN K te σ H (ns.map .int)) (small : ns.length ≤ 1000) (hm : ms.Pairwise (· < ·)) (mem : ∀ k, k ∈ ms ↔ k ∈ ns) : EvN K (tCB (rSortS w) (tCons (tCB (rSetL K w) (tCons te tNil)) tNil)) σ H (ms.map .int) := fun H1 s Q q =>
  h H1 s _ fun p vs H2 np s2 e a => by
    rw [dpAll_int_eq a] at e
    refine ⟨p, ns, rfl, SqL.of e, small, fun p2 m hm2 hp2 => ⟨p2, _, m, rfl, upd_same, Nat.le_trans hm2 small, fun ks p3 hr hn hp3 => ?_⟩⟩
    rw [rise_eq hr hm fun j => (hn j).trans (decide_eq_true_iff.trans (mem j).symm)]
    have s3 := (s2.trans (same_new hp2 _)).trans (same_new hp3 (.lst (ms.map V.int)))
    exact q p3 _ _ ((s2.trans (same_new hp2 _)).free hp3) s3 upd_same (dpAll_ints K _ _)
/-- list(zip(xs, ys)) -/
theorem en_lzip (ha : EvD K ta σ H (.list ds)) (hb : EvD K tb σ H (.list es)) (hl : min ds.length es.length ≤ 1000) : EvN K (tLZip K (tCons ta (tCons tb tNil))) σ H (List.zipWith (fun d e => PyData.tuple [d, e]) ds es) := fun H1 s Q q =>
  ha H1 s _ fun v H2 s2 dv => hb H2 (s.trans s2) _ fun u H3 s3 du => by
    cases dv with
    | lst h1 a =>
      cases du with
      | lst h2 b =>
        rename_i l1 v1 l2 v2
        refine ⟨l1, l2, v1, v2, rfl, same_lst s3 h1, h2, by rw [dpAll_len a, dpAll_len b]; exact hl, fun L ts H4 hL s4 e len at_ => ?_⟩
        have a4 := dpAll_same (s3.trans s4) a
        have b4 := dpAll_same s4 b
        refine q L _ H4 ((s2.trans s3).free hL) ((s2.trans s3).trans s4) e (dpAll_of_get ?_ fun j x hx => ?_)
        · rw [List.length_map, len, dpAll_len a, dpAll_len b, List.length_zipWith]
        · obtain ⟨x1, x2, e1, e2, rfl⟩ := List.getElem?_zipWith_eq_some.mp hx
          have hj : j < ts.length := by
            rw [len, dpAll_len a, dpAll_len b]
            have := (List.getElem?_eq_some_iff.mp e1).1
            have := (List.getElem?_eq_some_iff.mp e2).1
            omega
          obtain ⟨x, y, f1, f2, f3⟩ := at_ j _ (List.getElem?_eq_getElem hj)
          obtain ⟨z1, g1, g2⟩ := dpAll_at a4 f1
          obtain ⟨z2, g3, g4⟩ := dpAll_at b4 f2
          rw [e1] at g1
          rw [e2] at g3
          cases g1
          cases g3
          exact ⟨_, by rw [List.getElem?_map, List.getElem?_eq_getElem hj]; rfl, .tup (tup_of f3) (.cons g2 (.cons g4 .nil))⟩
end
/-! ### where blocks begin -/
theorem go_dp {K : PySem.W.Frag} {H : Hp} {t : Addr} (h : KTup K t [.str "go", .str "if"]) : Dp K H (.ref t) (.tuple [.str "go", .str "if"]) := .tup h.at_ (.cons (.str _) (.cons (.str _) .nil))
theorem leaves_dp {K : PySem.W.Frag} {H : Hp} {t : Addr} (h : KTup K t [.str "go", .str "if", .str "stop"]) : Dp K H (.ref t) (.tuple [.str "go", .str "if", .str "stop"]) := .tup h.at_ (.cons (.str _) (.cons (.str _) (.cons (.str _) .nil)))
theorem go_eq (r : Rw) : inD (.str r.word) [.str "go", .str "if"] = r.isGo := by cases r <;> rfl
theorem leaves_eq (r : Rw) : inD (.str r.word) [.str "go", .str "if", .str "stop"] = r.leaves := by cases r <;> rfl
theorem word_at (r : Rw) : atI r.data 0 = some (.str r.word) := atI_nat (j := 0) rfl
def rowAt (rs : List Rw) (i : Nat) : Rw := rs.getD i .rest
theorem rowAt_get {rs : List Rw} {i : Nat} (h : i < rs.length) : rs[i]? = some (rowAt rs i) := by
  unfold rowAt
  rw [List.getD_eq_getElem?_getD, List.getElem?_eq_getElem h]
  rfl
theorem rowD_at {rs : List Rw} {i : Nat} (h : i < rs.length) : (rs.map rowD)[i]? = some (rowD (rowAt rs i)) := by rw [List.getElem?_map, rowAt_get h]; rfl
theorem rowAt_mem {rs : List Rw} {i : Nat} (h : i < rs.length) : rowAt rs i ∈ rs := List.mem_of_getElem? (rowAt_get h)
/-- where a row goes -/
def Rw.goal : Rw → Int
  | .go r => r
  | .iff _ r => r
  | _ => 0
theorem goal_at {r : Rw} (h : r.isGo = true) : atI r.data (-1) = some (.int r.goal) := by
  cases r <;> first | rfl | cases h
theorem goal_ok {r : Rw} {many : Int} (h : r.isGo = true) (ok : r.ok many) : 0 ≤ r.goal ∧ r.goal < many := by
  cases r <;> first | exact ok | exact ok.2 | cases h
/-- the first of the rows, their goals, and what lies behind those that leave -/
def begL (rs : List Rw) : Nat → List Int
  | 0 => [0]
  | n + 1 => (begL rs n ++ if (rowAt rs n).isGo = true then [(rowAt rs n).goal] else []) ++ if (rowAt rs n).leaves = true then [(n : Int) + 1] else []
theorem begL_len (rs : List Rw) : ∀ n, (begL rs n).length ≤ 2 * n + 1
  | 0 => Nat.le_refl _
  | n + 1 => by
    have h := begL_len rs n
    unfold begL
    rw [List.length_append, List.length_append]
    split <;> split <;> simp <;> omega
theorem begL_in {rs : List Rw} (hR : RsOk rs) : ∀ {n : Nat}, n ≤ rs.length → ∀ j, j ∈ begL rs n → 0 ≤ j ∧ j ≤ (rs.length : Int)
  | 0, _, j, h => by
    rw [List.mem_singleton.mp h]
    exact ⟨Int.le_refl _, by omega⟩
  | n + 1, hn, j, h => by
    unfold begL at h
    rcases List.mem_append.mp h with h | h
    · rcases List.mem_append.mp h with h | h
      · exact begL_in hR (by omega) j h
      · split at h
        · rename_i g
          rw [List.mem_singleton.mp h]
          have q := goal_ok g (hR.2.2 _ (rowAt_mem (by omega)))
          omega
        · cases h
    · split at h
      · rw [List.mem_singleton.mp h]
        omega
      · cases h
theorem begL_zero (rs : List Rw) : ∀ n, (0 : Int) ∈ begL rs n
  | 0 => List.mem_singleton.mpr rfl
  | n + 1 => by
    unfold begL
    exact List.mem_append_left _ (List.mem_append_left _ (begL_zero rs n))
/-- the begins, rising -/
def begins (rs : List Rw) : List Int := ((List.range rs.length).map fun (i : Nat) => (i : Int)).filter fun j => decide (j ∈ begL rs rs.length)
theorem begins_rise (rs : List Rw) : (begins rs).Pairwise (· < ·) := by
  refine List.Pairwise.filter _ ?_
  rw [List.pairwise_map]
  exact List.pairwise_lt_range.imp fun h => by omega
theorem begins_mem {rs : List Rw} (hR : RsOk rs) (j : Int) : j ∈ begins rs ↔ j ∈ begL rs rs.length ∧ j ≠ (rs.length : Int) := by
  unfold begins
  rw [List.mem_filter, decide_eq_true_iff, List.mem_map]
  constructor
  · rintro ⟨⟨i, hi, rfl⟩, h⟩
    have := List.mem_range.mp hi
    exact ⟨h, by omega⟩
  · rintro ⟨h, ne⟩
    have q := begL_in hR (Nat.le_refl _) j h
    exact ⟨⟨j.toNat, List.mem_range.mpr (by omega), by omega⟩, h⟩
theorem begins_len (rs : List Rw) : (begins rs).length ≤ rs.length := by
  unfold begins
  refine Nat.le_trans (List.length_filter_le _ _) ?_
  rw [List.length_map, List.length_range]
  exact Nat.le_refl _
theorem begins_ne {rs : List Rw} (hR : RsOk rs) : begins rs ≠ [] := by
  intro z
  have h : (0 : Int) ∈ begins rs := (begins_mem hR 0).mpr ⟨begL_zero _ _, by have := hR.1; omega⟩
  rw [z] at h
  cases h
def cuts (rs : List Rw) : List Int := begins rs ++ [(rs.length : Int)]
theorem cuts_rise (rs : List Rw) : (cuts rs).Pairwise (· < ·) := by
  unfold cuts
  rw [List.pairwise_append]
  refine ⟨begins_rise rs, List.pairwise_singleton _ _, fun a ha b hb => ?_⟩
  rw [List.mem_singleton.mp hb]
  unfold begins at ha
  obtain ⟨i, hi, rfl⟩ := List.mem_map.mp (List.mem_filter.mp ha).1
  have := List.mem_range.mp hi
  omega
def cutAt (rs : List Rw) (i : Nat) : Int := (cuts rs).getD i 0
theorem cutAt_get {rs : List Rw} {i : Nat} (h : i < (begins rs).length + 1) : (cuts rs)[i]? = some (cutAt rs i) := by
  unfold cutAt
  rw [List.getD_eq_getElem?_getD, List.getElem?_eq_getElem (by unfold cuts; rw [List.length_append]; exact h)]
  rfl
/-- the blocks -/
def blkB (rs : List Rw) : List (Int × Int) := (List.range (begins rs).length).map fun k => (cutAt rs k, cutAt rs (k + 1))
def blkD (t : Int × Int) : PyData := .tuple [.int t.1, .int t.2]
theorem noL_blk (t : Int × Int) : noL (blkD t) = true := rfl
theorem blk_len (rs : List Rw) : (blkB rs).length = (begins rs).length := by
  unfold blkB
  rw [List.length_map, List.length_range]
theorem zip_blk (rs : List Rw) (hR : RsOk rs) : List.zipWith (fun d e => PyData.tuple [d, e]) ((begins rs).map .int) (((begins rs).drop 1).map .int ++ [.int (rs.length : Int)]) = (blkB rs).map blkD := by
  have l0 : 0 < (begins rs).length := List.length_pos_iff.mpr (begins_ne hR)
  have e2 : ((begins rs).drop 1).map PyData.int ++ [PyData.int (rs.length : Int)] = ((cuts rs).drop 1).map .int := by
    unfold cuts
    rw [List.drop_append_of_le_length (by omega), List.map_append]
    rfl
  rw [e2]
  refine List.ext_getElem? fun k => ?_
  by_cases hk : k < (begins rs).length
  · have a1 := cutAt_get (rs := rs) (i := k) (by omega)
    have a2 := cutAt_get (rs := rs) (i := k + 1) (by omega)
    have b1 : (begins rs)[k]? = some (cutAt rs k) := by
      rw [← a1]
      unfold cuts
      rw [List.getElem?_append_left hk]
    have r : ((blkB rs).map blkD)[k]? = some (PyData.tuple [.int (cutAt rs k), .int (cutAt rs (k + 1))]) := by
      unfold blkB
      rw [List.getElem?_map, List.getElem?_map, List.getElem?_range hk]
      rfl
    rw [r, List.getElem?_zipWith, List.getElem?_map, b1, List.getElem?_map, List.getElem?_drop, show 1 + k = k + 1 by omega, a2]
    rfl
  · rw [List.getElem?_eq_none (by rw [List.length_zipWith, List.length_map]; omega), List.getElem?_eq_none (by rw [List.length_map, blk_len]; omega)]
end LB
namespace LB
open PySem L2
section
variable {P : Program} {w : World} {K : PySem.W.Frag} {mg : Str → Option Value} {base : Heap}
abbrev dBlocks (K : PySem.W.Frag) : Sp := spN K (fun rs : List Rw => [progD rs]) (fun rs => RsOk rs) (fun rs => (blkB rs).map blkD)
theorem scBlocks : FnScope ["program", "begins", "at", "row", "rising"] ["program"] (defScope s_blocks) := ⟨rfl, rfl, rfl, by decide +kernel, rfl, by decide +kernel, by decide +kernel⟩
theorem ok_blocks {f tG tL : Addr} {fd : FuncData} (F : Fun K "blocks" "blocks" s_blocks f fd) (CP : Cal P w K mg base 4 "check_program" ["program"] (dChkP K)) (B : Bl2 mg) (B3 : Bl3 mg) (gG : GGo K mg tG) (gL : GLv K mg tL) : FnOk P w K mg base CX0 5 f fd ["program"] (dBlocks K) := by
  obtain ⟨oc, od, kV, doc, pm, an, cdv, ct, osl, rfl, lk, hcd⟩ := F.ex
  refine fn_of lk hcd scBlocks (fun vs H Q E h => ?_) fun A outer s H vs Q E hr h => ?_
  · obtain ⟨i, _, a, _⟩ := h
    exact dpAll_len a
  · obtain ⟨rs, hR, a, k⟩ := h
    rcases a with _ | ⟨d_program, ⟨⟩⟩
    rename_i rv
    have d_program : Dp K H rv (.tuple (rs.map rowD)) := d_program
    have hR : RsOk rs := hR
    have r200 := hR.2.1
    refine ⟨_, PSs.nox (pss_cons (ps_expr (pe_cal CP hr (pa_cons (pv 0) pa_nil))) (pss_cons (ps_set (i := 1) scBlocks.nd rfl (Or.inl rfl) (pe_set1 (kdsCode_of hcd) pe_int)) (pss_cons (ps_for PassesOwn.never rfl (pi_enumT (by rfl) B.enum (pa_cons (pv 0) pa_nil)) (pg_tup rfl (pgs_cons (pg_name (i := 2) scBlocks.nd rfl (Or.inl rfl)) (pgs_cons (pg_name (i := 3) scBlocks.nd rfl (Or.inl rfl)) pgs_nil))) (pss_cons (ps_if (pt_cmpR op_in_seq (pe_ix ix_tup (pv 3) pe_int (fun _ _ => rfl)) (pe_gref gG.1) (by rfl)) (pss_one (ps_expr (pe_sadd (pv 1) (pa_cons (pe_ix ix_tup (pv 3) (pe_un un_neg pe_int) (fun _ _ => rfl)) pa_nil)))) pss_nil) (pss_one (ps_if (pt_cmpR op_in_seq (pe_ix ix_tup (pv 3) pe_int (fun _ _ => rfl)) (pe_gref gL.1) (by rfl)) (pss_one (ps_expr (pe_sadd (pv 1) (pa_cons (pe_op op_add (pv 2) pe_int) pa_nil)))) pss_nil)))) (pss_cons (ps_expr (pe_sdis (pv 1) (pe_callB call_len_seq (by rfl) B.b.len PySem.boot_len (pa_cons (pv 0) pa_nil)) ⟨by rfl, by rfl, by rfl, by rfl⟩)) (pss_cons (ps_set (i := 4) scBlocks.nd rfl (Or.inl rfl) (pe_callB (cr_sortS rfl) (by rfl) B3.sorted (by decide +kernel) (pa_cons (pv 1) pa_nil))) (pss_one (ps_ret (pe_lzip rfl (by rfl) B.b.list (by rfl) B.zip (pa_cons (pv 4) (pa_cons (pe_op op_cat (pe_slice sl_list (pv 4) (po_some pe_int) po_none) (pe_lst (pa_cons (pe_callB call_len_seq (by rfl) B.b.len PySem.boot_len (pa_cons (pv 0) pa_nil)) pa_nil))) pa_nil)))))))))), ?_⟩
    have S := Same.refl H
    refine q_drop (ed_cal rs (ea_cons (ed_var rfl (dp_same S d_program)) ea_nil) hR) fun H1 s1 => ?_
    have S := S.trans s1
    refine q_set1 (K := K) ed_int fun d H2 n2 s2 hd2 => ?_
    have nd : H d = none := S.free n2
    have S := S.trans s2
    refine q_for (ei_enumT (ed_var rfl (dp_same S d_program)) (noLs_rows rs)) tg2 (fun i d e => ?_) (fun Hb i σ' H' => Same H H' ∧ Grow K Hb H' ∧ (∃ T m, H' d = some (SetO w d T m) ∧ m ≤ 2 * i + 1 ∧ ∀ j, T j = true ↔ j ∈ begL rs i) ∧ ∃ a2 a3 a4, σ' = [some rv, some (.ref d), a2, a3, a4])
      (fun H3 s => ⟨S.trans s, Grow.refl _, ⟨_, 1, s _ _ hd2, by omega, fun j => by
        show decide (j = 0) = true ↔ j ∈ [(0 : Int)]
        rw [decide_eq_true_iff, List.mem_singleton]⟩, _, _, _, rfl⟩) (fun Hb i σ' H' p => p.2.1) ?_ ?_
    · obtain ⟨u, _, rfl⟩ := Option.map_eq_some_iff.mp e
      exact ⟨_, _, rfl⟩
    · rintro Hb i d' σ' H' σ2 H3 _ hi e ⟨S', gr, ⟨T, m, hT, hm, mem⟩, a2, a3, a4, rfl⟩ s3 ⟨v, u, a, b, rfl, dv, du, rfl⟩
      rw [List.length_map] at hi
      rw [rowD_at hi] at e
      cases e
      cases dv
      have S := S'.trans s3
      have gr := gr.trans (Grow.same s3)
      have dr : Dp K H3 u (.tuple (rowAt rs i).data) := du
      refine q_ifAdd (K := K) (i := 1) (b := (rowAt rs i).isGo) (z := (rowAt rs i).goal) (EvB.eq (eb_of (K := K) (ed_inT (ed_ixT (ed_var rfl dr) ed_int (word_at _)) (ed_c fun H => go_dp gG.2) rfl (by rfl) (go_eq _))) rfl) rfl (s3 _ _ hT) (fun q => ed_ixT (ed_var rfl dr) (ed_neg ed_int) (goal_at q)) (by omega) fun H4 m4 c4 l4 hT4 => ?_
      have dr4 : Dp K H4 u (.tuple (rowAt rs i).data) := dp_grow c4.grow (noL_row _) dr
      refine s_ifAdd (K := K) (i := 1) (b := (rowAt rs i).leaves) (z := (i : Int) + 1) (EvB.eq (eb_of (K := K) (ed_inT (ed_ixT (ed_var rfl dr4) ed_int (word_at _)) (ed_c fun H => leaves_dp gL.2) rfl (by rfl) (leaves_eq _))) rfl) rfl hT4 (fun _ => ed_I (ed_var rfl (.int (i : Int))) ed_int) (by omega) fun H5 m5 c5 l5 hT5 => ?_
      refine ⟨Same.chg S (c4.trans c5) (fun a z => by rw [z]; exact nd), (gr.trans c4.grow).trans c5.grow, ⟨_, m5, hT5, by omega, fun j => ?_⟩, _, _, _, rfl⟩
      unfold begL
      rw [List.mem_append, List.mem_append, ← mem j]
      cases (rowAt rs i).isGo <;> cases (rowAt rs i).leaves <;> simp
    · rintro Hb σ' H' _ ⟨S, gr, ⟨T, m, hT, hm, mem⟩, a2, a3, a4, rfl⟩
      rw [List.length_map] at hm mem
      refine q_sdis (K := K) (i := 1) rfl hT ((ed_lenT (ed_var rfl (dp_same S d_program))).eq (by rw [List.length_map])) fun H3 m3 c3 l3 hT3 => ?_
      have S := Same.chg S c3 (fun a z => by rw [z]; exact nd)
      refine q_asgN (K := K) (en_sortS rfl hT3 (by omega) (begins_rise rs) fun j => ?_) fun p H4 n4 s4 hp => ?_
      · rw [begins_mem hR, Bool.and_eq_true, mem, Bool.not_eq_true', decide_eq_false_iff_not]
      have S := S.trans s4
      have bl := begins_len rs
      have dl : ((begins rs).drop 1).length ≤ 200 := by rw [List.length_drop]; omega
      refine s_retN (EvN.eq (en_lzip (ed_var rfl hp.dp) (EvN.toD (en_catL (EvN.toL (EvN.eq (en_slL (ed_var rfl hp.dp) (eo_some (K := K) ed_int) eo_none) (cut_from _ _ 1))) (EvN.toL (en_lst (ea_cons ((ed_lenT (ed_var rfl (dp_same S d_program))).eq (by rw [List.length_map])) ea_nil) (show 1 ≤ 1000 by decide))) (by rw [List.length_map]; show _ + 1 ≤ 5000; omega))) ?_) (zip_blk rs hR)) fun q vs H5 n5 s5 e5 a5 => k q vs H5 (S.free n5) (S.trans s5) e5 a5
      rw [List.length_map]
      omega
end
end LB
namespace LB
open PySem L2
theorem noL_int (z : Int) : noL (.int z) = true := rfl
theorem sm_blk (t : Int × Int) (n : Nat) : Sm (n + 1) (blkD t) := .tup (by show 2 ≤ 5000; decide) fun e he => by
  simp only [List.mem_cons, List.not_mem_nil, or_false] at he
  rcases he with rfl | rfl <;> exact .int _ _
theorem cuts_mem {rs : List Rw} (hR : RsOk rs) (j : Int) : j ∈ cuts rs ↔ j ∈ (begL rs rs.length).filter (fun x => decide (x < (rs.length : Int))) ++ [(rs.length : Int)] := by
  unfold cuts
  rw [List.mem_append, List.mem_append, begins_mem hR, List.mem_filter, decide_eq_true_iff]
  constructor
  · rintro (⟨h, ne⟩ | h)
    · have := begL_in hR (Nat.le_refl _) j h
      exact .inl ⟨h, by omega⟩
    · exact .inr h
  · rintro (⟨h, lt⟩ | h)
    · exact .inl ⟨h, by omega⟩
    · exact .inr h
section
variable {P : Program} {w : World} {K : PySem.W.Frag} {mg : Str → Option Value} {base : Heap}
theorem scLBlk : FnScope ["_law_program", "_law_some", "_law_k", "_law_one"] ["_law_program"] (defScope s__law_blocks) := ⟨rfl, rfl, rfl, by decide +kernel, rfl, by decide +kernel, by decide +kernel⟩
theorem ok_lblocks {f : Addr} {fd : FuncData} (F : Fun K "_law_blocks" "_law_blocks" s__law_blocks f fd) (B : Bl2 mg) (B3 : Bl3 mg) : FnOk P w K mg base CX0 1 f fd ["_law_program"] (dBlocks K) := by
  refine F.ok scLBlk (fun vs H Q E h => ?_) (fun cdv A outer s H vs Q E hr h => ?_)
  · obtain ⟨i, _, a, _⟩ := h
    exact dpAll_len a
  · obtain ⟨rs, hR, a, k⟩ := h
    rcases a with _ | ⟨d_program, ⟨⟩⟩
    rename_i rv
    have d_program : Dp K H rv (.tuple (rs.map rowD)) := d_program
    have hR : RsOk rs := hR
    have r200 := hR.2.1
    refine ⟨_, (pss_cons (ps_set (i := 1) scLBlk.nd rfl (Or.inr rfl) (pe_lst (pa_cons pe_int pa_nil))) (pss_cons (ps_for PassesOwn.never rfl (pi_range1 (by rfl) B.b.range (pa_cons (pe_callB call_len_seq (by rfl) B.b.len PySem.boot_len (pa_cons (pv 0) pa_nil)) pa_nil)) (pg_name (i := 2) scLBlk.nd rfl (Or.inl rfl)) (pss_cons (ps_if (pt_cmpR op_in_seq (pe_ix ix_tup (pe_ix ix_tup (pv 0) (pv 2) (fun _ _ => rfl)) pe_int (fun _ _ => rfl)) (pe_tup (pa_cons pe_str (pa_cons pe_str pa_nil))) (by rfl)) (pss_one (ps_expr (pe_bm PySem.F.plainAttrs_list PySem.F.slot_list_append PySem.F.type_list_append mt_append (pv 1) (pa_cons (pe_ix ix_tup (pe_ix ix_tup (pv 0) (pv 2) (fun _ _ => rfl)) (pe_un un_neg pe_int) (fun _ _ => rfl)) pa_nil)))) pss_nil) (pss_one (ps_if (pt_cmpR op_in_seq (pe_ix ix_tup (pe_ix ix_tup (pv 0) (pv 2) (fun _ _ => rfl)) pe_int (fun _ _ => rfl)) (pe_tup (pa_cons pe_str (pa_cons pe_str (pa_cons pe_str pa_nil)))) (by rfl)) (pss_one (ps_expr (pe_bm PySem.F.plainAttrs_list PySem.F.slot_list_append PySem.F.type_list_append mt_append (pv 1) (pa_cons (pe_op op_add (pv 2) pe_int) pa_nil)))) pss_nil)))) (pss_cons (ps_set (i := 1) scLBlk.nd rfl (Or.inr rfl) (pe_callB (cr_sortS rfl) (by rfl) B3.sorted (by decide +kernel) (pa_cons (pe_callTy (cr_setL rfl) (by rfl) B3.set (by decide +kernel) (pa_cons (pe_op op_cat (pe_lc (own := [("_law_one", 3)]) (g := (gName 3)) (by rfl) scLBlk.nd (pi_list (pv 1)) (blkOk_by (own := [("_law_one", 3)]) (N := ["_law_program", "_law_some", "_law_k", "_law_one"]) (sc := defScope s__law_blocks) (by decide +kernel)) (fun _ _ _ _ _ => (pg_name (i := 3) scLBlk.nd rfl (Or.inl rfl))) (fun _ _ _ _ _ => (pts_one (pt_cmpR op_lt (pv 3) (pe_callB (show CallR _ (.builtin "len") (fun xs H Q => ∃ p ys, xs = [V.ref p] ∧ (SqL K H p ys ∨ SqT K H p ys) ∧ Q (.int ys.length) H) from call_len_seq) (by rfl) B.b.len PySem.boot_len (pa_cons (pv 0) pa_nil)) (nomark _)))) (fun _ _ _ _ _ => (pv 3))) (pe_lst (pa_cons (pe_callB call_len_seq (by rfl) B.b.len PySem.boot_len (pa_cons (pv 0) pa_nil)) pa_nil))) pa_nil)) pa_nil))) (pss_one (ps_ret (pe_lc (own := [("_law_k", 2)]) (g := (gName 2)) (by rfl) scLBlk.nd (pi_range1 (by rfl) B.b.range (pa_cons (pe_op op_sub (pe_callB call_len_seq (by rfl) B.b.len PySem.boot_len (pa_cons (pv 1) pa_nil)) pe_int) pa_nil)) (blkOk_by (own := [("_law_k", 2)]) (N := ["_law_program", "_law_some", "_law_k", "_law_one"]) (sc := defScope s__law_blocks) (by decide +kernel)) (fun _ _ _ _ _ => (pg_name (i := 2) scLBlk.nd rfl (Or.inl rfl))) (fun _ _ _ _ _ => pts_nil) (fun _ _ _ _ _ => (pe_tup (pa_cons (pe_ix (show IxR _ (rIxL K) from ix_list) (pv 1) (pv 2) (fun _ _ => rfl)) (pa_cons (pe_ix (show IxR _ (rIxL K) from ix_list) (pv 1) (pe_op op_add (pv 2) pe_int) (fun _ _ => rfl)) pa_nil)))))))))), ?_⟩
    have S := Same.refl H
    refine q_asgN (K := K) (ds := [(0 : Int)].map .int) (en_lst (ea_cons ed_int ea_nil) (show 1 ≤ 1000 by decide)) fun l H1 n1 s1 hl1 => ?_
    have nl : H l = none := n1
    have S := S.trans s1
    refine q_for ((ei_range1 (K := K) (n := (rs.length : Int)) ((ed_lenT (ed_var rfl (dp_same S d_program))).eq (by rw [List.length_map])) (by omega) (by omega)) |> EvI.len (by omega : ((rs.length : Int)).toNat = rs.length)) tg1 (fun _ _ _ => trivial) (fun _ i σ' H' => Same H H' ∧ LstAt K H' l ((begL rs i).map .int) ∧ ∃ a2 a3, σ' = [some rv, some (.ref l), a2, a3])
      (fun H2 s => ⟨S.trans s, hl1.same s, _, _, rfl⟩) (fun _ _ _ _ _ => trivial) ?_ ?_
    · rintro _ i d σ' H' σ2 H2 _ hi e ⟨S', hL, a2, a3, rfl⟩ s2 ⟨v, dv, rfl⟩
      cases e
      cases dv
      have S := S'.trans s2
      have bl := begL_len rs i
      have row : ∀ {H3 : Hp} {σ3 : L2.St}, Same H H3 → σ3[0]? = some (some rv) → σ3[2]? = some (some (.int (i : Int))) → EvD K (tOp (rIxT K) (tVar 0) (tVar 2)) σ3 H3 (rowD (rowAt rs i)) := fun S e1 e2 => ed_ixT (ed_var e1 (dp_same S d_program)) (ed_var e2 (.int (i : Int))) (atD_nat rfl (rowD_at hi))
      refine xq_ifApp (K := K) (c := PyData.int) (x := (rowAt rs i).goal) (bad := fun a => a = l) (EvB.eq (eb_of (K := K) (ed_inT (ed_ixT (row S rfl rfl) ed_int (word_at _)) (ed_tup (ea_cons ed_str (ea_cons ed_str ea_nil)) (show 2 ≤ 1000 by decide)) rfl (by rfl) (go_eq _))) rfl) rfl (hL.same s2) (fun q => ed_ixT (row S rfl rfl) (ed_neg ed_int) (goal_at q)) noL_int (by omega) rfl fun H3 c3 hL3 => ?_
      have S := Same.chg S c3 (fun a z => by rw [z]; exact nl)
      refine x_ifApp (K := K) (c := PyData.int) (x := (i : Int) + 1) (bad := fun a => a = l) (EvB.eq (eb_of (K := K) (ed_inT (ed_ixT (row S rfl rfl) ed_int (word_at _)) (ed_tup (ea_cons ed_str (ea_cons ed_str (ea_cons ed_str ea_nil))) (show 3 ≤ 1000 by decide)) rfl (by rfl) (leaves_eq _))) rfl) rfl hL3 (fun _ => ed_I (ed_var rfl (.int (i : Int))) ed_int) noL_int ?_ rfl fun H4 c4 hL4 => ?_
      · rw [List.length_append]
        split <;> simp <;> omega
      exact ⟨Same.chg S c4 (fun a z => by rw [z]; exact nl), hL4, _, _, rfl⟩
    · rintro _ σ' H' _ ⟨S, hL, a2, a3, rfl⟩
      have bl := begL_len rs rs.length
      refine q_asgN (K := K) (en_sortSet (ns := (begL rs rs.length).filter (fun x => decide (x < (rs.length : Int))) ++ [(rs.length : Int)]) (EvN.eq (en_catL (EvN.toL (en_lc (begL rs rs.length) (fun x => decide (x < (rs.length : Int))) PyData.int ((ei_list (ed_var rfl hL.dp)) |> EvI.len (List.length_map ..)) tg1 (fun _ _ _ => trivial) (by rintro d σ2 H5 ⟨v, _, rfl⟩; rfl)
        (by
          rintro i x d σ2 H3 hx hd s3 ⟨v, dv, rfl⟩
          rw [List.getElem?_map, hx] at hd
          cases hd
          exact eb_of (K := K) (ed_cI (ed_var rfl dv) ((ed_lenT (ed_var rfl (dp_same (S.trans s3) d_program))).eq (by rw [List.length_map]))))
        (by
          rintro i x d σ2 H3 hx hd _ s3 ⟨v, dv, rfl⟩
          rw [List.getElem?_map, hx] at hd
          cases hd
          exact ed_var rfl dv)
        noL_int (by omega))) (EvN.toL (en_lst (ea_cons ((ed_lenT (ed_var rfl (dp_same S d_program))).eq (by rw [List.length_map])) ea_nil) (show 1 ≤ 1000 by decide))) ?_) ?_) ?_ (cuts_rise rs) (cuts_mem hR)) fun p H3 n3 s3 hp => ?_
      · rw [List.length_map]
        have := List.length_filter_le (fun x => decide (x < (rs.length : Int))) (begL rs rs.length)
        show _ + 1 ≤ 5000
        omega
      · rw [List.map_append]
        rfl
      · have := List.length_filter_le (fun x => decide (x < (rs.length : Int))) (begL rs rs.length)
        rw [List.length_append]
        show _ + 1 ≤ 1000
        omega
      have S := S.trans s3
      have bl2 := begins_len rs
      have cl : (cuts rs).length = (begins rs).length + 1 := by unfold cuts; rw [List.length_append]; rfl
      have e2 : (blkB rs).map blkD = (List.range (begins rs).length).map fun k => blkD (cutAt rs k, cutAt rs (k + 1)) := by
        unfold blkB
        rw [List.map_map]
        rfl
      refine s_retN (EvN.eq (en_lcY (K := K) (List.range (begins rs).length) (fun k => blkD (cutAt rs k, cutAt rs (k + 1))) ((ei_range1 (K := K) (n := ((cuts rs).length : Int) - 1) (ed_I ((ed_lenL (ed_var rfl hp.dp)).eq (by rw [List.length_map])) ed_int) (by omega) (by omega) |> EvI.len (by rw [List.length_range]; omega)) |>.weaken fun _ _ _ => trivial) tg1 (fun _ _ _ => trivial) (by rintro d σ2 H5 ⟨v, _, rfl⟩; rfl)
        (by
          rintro i x d σ2 H4 hx hd s4 ⟨v, dv, rfl⟩
          have hi : i < (begins rs).length := by
            have := (List.getElem?_eq_some_iff.mp hx).1
            rw [List.length_range] at this
            exact this
          rw [List.getElem?_range hi] at hx
          cases hx
          cases hd
          cases dv
          exact ed_tup (ea_cons (ed_ixL (ed_var rfl (hp.same s4).dp) (ed_var rfl (.int (i : Int))) (atD_nat rfl (by rw [List.getElem?_map, cutAt_get (by omega)]; rfl))) (ea_cons (ed_ixL (ed_var rfl (hp.same s4).dp) (ed_I (ed_var rfl (.int (i : Int))) ed_int) (atD_nat (j := i + 1) (by omega) (by rw [List.getElem?_map, cutAt_get (by omega)]; rfl))) ea_nil)) (show 2 ≤ 1000 by decide))
        (fun _ => rfl) (by rw [List.length_range]; omega)) e2.symm) fun q vs H5 n5 s5 e5 a5 => k q vs H5 (S.free n5) (S.trans s5) e5 a5
def spLaw (K : PySem.W.Frag) : Sp := fun vs H Q _ => ∃ (a : Addr) (ns : List Int), vs = [.ref a] ∧ SqL K H a (ns.map V.int) ∧ ns.length ≤ 63 ∧ ∀ H', Q (.bl true) H'
theorem scLaw : FnScope ["_law_script", "_law_h", "_law_turn", "_law_program", "_law_due", "_law_again", "_law_found"] ["_law_script"] (defScope sLaw) := ⟨rfl, rfl, rfl, by decide +kernel, rfl, by decide +kernel, by decide +kernel⟩
theorem ok_law {f : Addr} {fd : FuncData} (F : Fun K "law" "law" sLaw f fd) (B : Bl2 mg) (MX : Cal P w K mg base 1 "_law_mix" ["_law_script", "_law_seed"] (spMix K)) (PL : Cal P w K mg base 4 "_law_plain" ["_law_h", "_law_most"] (spPlain K)) (NX : Cal P w K mg base 1 "_law_next" psN spNext)
    (LB : Cal P w K mg base 1 "_law_blocks" ["_law_program"] (dBlocks K)) (BK : Cal P w K mg base 5 "blocks" ["program"] (dBlocks K)) (AL : Cal P w K mg base 3 "_law_alike" psAlike (spA K 3)) : FnOk P w K mg base CX0 6 f fd ["_law_script"] (spLaw K) := by
  refine F.ok scLaw (fun vs H Q E h => ?_) (fun cdv A outer s H vs Q E hr h => ?_)
  · obtain ⟨a, ns, rfl, _⟩ := h
    rfl
  · obtain ⟨a, ns0, rfl, hS, hlen, k⟩ := h
    have hr1 : Room 1 _ := hr.mono (by decide)
    have hr3 : Room 3 _ := hr.mono (by decide)
    have hr4 : Room 4 _ := hr.mono (by decide)
    refine ⟨_, (pss_cons (ps_set (i := 1) scLaw.nd rfl (Or.inl rfl) (pe_cal MX hr1 (pa_cons (pv 0) (pa_cons pe_int pa_nil)))) (pss_cons (ps_for PassesOwn.never rfl (pi_range1 (by rfl) B.b.range (pa_cons pe_int pa_nil)) (pg_name (i := 2) scLaw.nd rfl (Or.inl rfl)) (pss_cons (ps_set (i := 3) scLaw.nd rfl (Or.inl rfl) (pe_cal PL hr4 (pa_cons (pv 1) (pa_cons (pe_ix ix_list (pe_lst (pa_cons pe_int (pa_cons pe_int (pa_cons pe_int (pa_cons pe_int pa_nil))))) (pe_cal NX hr1 (pa_cons (pv 1) (pa_cons pe_int pa_nil))) (fun _ _ => rfl)) pa_nil)))) (pss_cons (ps_set (i := 4) scLaw.nd rfl (Or.inl rfl) (pe_cal LB hr1 (pa_cons (pv 3) pa_nil))) (pss_one (ps_for PassesOwn.never rfl (pi_range1 (by rfl) B.b.range (pa_cons pe_int pa_nil)) (pg_name (i := 5) scLaw.nd rfl (Or.inl rfl)) (pss_cons (ps_set (i := 6) scLaw.nd rfl (Or.inl rfl) (pe_cal BK hr (pa_cons (pv 3) pa_nil))) (pss_cons (ps_if (pt_not (pt_val (pe_cal AL hr3 (pa_cons (pv 6) (pa_cons (pv 4) pa_nil))))) (pss_one (ps_ret pe_bl)) pss_nil) (pss_one (ps_expr (pe_bm PySem.F.plainAttrs_list PySem.F.slot_list_append PySem.F.type_list_append mt_append (pv 6) (pa_cons (pe_tup pa_nil) pa_nil))))))))))) (pss_one (ps_ret pe_bl)))), ?_⟩
    refine ⟨_, rfl, a, ns0, 19, rfl, hS, hlen, by decide, by decide, fun p l H1 s1 hp0 hl0 h1 => ?_⟩
    refine q_for (ei_range1 (K := K) (n := 12) ed_int (by decide) (by decide)) tg1 (fun _ _ _ => trivial) (fun _ i σ H2 => HAt H2 p l ∧ ∃ v2 v3 v4 v5 v6 : Option V, σ = [some (.ref a), some (.ref p), v2, v3, v4, v5, v6])
      (fun H2 s => ⟨h1.same s, _, _, _, _, _, rfl⟩) (fun _ _ _ _ _ => trivial) ?_ ?_
    · rintro _ i d σ H2 σ2 H2' _ hi e ⟨h2, v2, v3, v4, v5, v6, rfl⟩ s2 ⟨vT, dv, rfl⟩
      have h2 := h2.same s2
      refine ⟨_, rfl, show 4 ≤ sizeLine from small (by decide), fun d hd => ⟨_, rfl, p, l, 4, rfl, h2.new hd, by decide, by decide, fun c H3 c0 c1 h3 k3 => ?_⟩⟩
      have hd3 : H3 d = some (.lst [.int 6, .int 14, .int 40, .int 200]) := k3 _ _ upd_same (h2.nep hd) (h2.nel hd)
      obtain ⟨v, hv, hat⟩ := at4 (a0 := V.int 6) (a1 := V.int 14) (a2 := V.int 40) (a3 := V.int 200) c0 c1
      obtain ⟨o, rfl, o0, o1⟩ : ∃ o : Int, v = .int o ∧ 0 < o ∧ o ≤ 200 := by
        rcases hv with rfl | rfl | rfl | rfl
        · exact ⟨6, rfl, by decide, by decide⟩
        · exact ⟨14, rfl, by decide, by decide⟩
        · exact ⟨40, rfl, by decide, by decide⟩
        · exact ⟨200, rfl, by decide, by decide⟩
      refine ⟨d, _, _, _, rfl, rfl, SqL.of hd3, hat, p, l, o, rfl, h3, o0, o1, fun ap rs H4 hP n1 n200 hok h4 k4 => ?_⟩
      have d_prog : Dp K H4 (.ref ap) (progD rs) := prog_dp hP
      have hR : RsOk rs := ⟨n1, n200, hok⟩
      have S := Same.refl H4
      have bl := begins_len rs
      have bl2 := blk_len rs
      refine q_asgN (K := K) (en_cal (K := K) (args := fun rs : List Rw => [progD rs]) (pre := fun rs => RsOk rs) (res := fun rs => (blkB rs).map blkD) rs (ea_cons (ed_var rfl (dp_same S d_prog)) ea_nil) hR) fun pd H5 npd s5 hpd => ?_
      have d_due : Dp K H5 (.ref pd) (.list ((blkB rs).map blkD)) := hpd.dp
      have S := S.trans s5
      refine s_for (ei_range1 (K := K) (n := 2) ed_int (by decide) (by decide)) tg1 (fun _ _ _ => trivial) (fun _ j σ' H' => Same H5 H' ∧ ∃ w5 w6 : Option V, σ' = [some (.ref a), some (.ref p), some vT, some (.ref ap), some (.ref pd), w5, w6])
        (fun H6 s => ⟨s, _, _, rfl⟩) (fun _ _ _ _ _ => trivial) ?_ ?_
      · rintro _ j d σ' H' σ3 H6 _ hj e ⟨S', w5, w6, rfl⟩ s6 ⟨u, du, rfl⟩
        have S5 := S'.trans s6
        have S := S.trans S5
        refine q_asgN (en_cal rs (ea_cons (ed_var rfl (dp_same S d_prog)) ea_nil) hR) fun q H7 nq7 s7 hL => ?_
        have nq : H5 q = none := S5.free nq7
        have S5 := S5.trans s7
        refine q_when (EvB.eq (eb_not (eb_val (K := K) (ed_alike (n := 2) (ed_var rfl hL.dp) (ed_var rfl (dp_same S5 d_due)) (sm_list (by omega) fun t => sm_blk t 0)))) (b := false) rfl) (fun z => by cases z) fun _ H8 s8 => ?_
        refine s_app (bad := fun a => a = q) rfl (hL.same s8) (ed_tup ea_nil (by decide)) (noLs_map noL_blk) rfl (by rw [List.length_map]; omega) rfl fun H9 c _ => ?_
        exact ⟨Same.chg (S5.trans s8) c (fun a z => by rw [z]; exact nq), _, _, rfl⟩
      · rintro _ σ' H' _ ⟨S', w5, w6, rfl⟩
        exact ⟨h4.same (s5.trans S'), _, _, _, _, _, rfl⟩
    · rintro _ σ H2 _ ⟨h2, v2, v3, v4, v5, v6, rfl⟩
      exact k _
end
end LB
namespace LB
open PySem L2
theorem all_mk {l : PySem.W.OpenLaw} {w : World} {K : PySem.W.Frag} {h : Heap} {mg : Str → Option Value} {fa f1 f2 f3 f4 f5 f6 f7 f8 f9 f10 f11 f12 f13 f14 f15 f16 dS tG tL : Addr} {od1 an1 od2 an2 od3 an3 od4 an4 od5 an5 od6 an6 od7 an7 od8 an8 od9 an9 od10 an10 od11 an11 od12 an12 od13 an13 od14 an14 od15 an15 od16 an16 : Option Addr} {sl1 sl2 sl3 sl4 sl5 sl6 sl7 sl8 sl9 sl10 sl11 sl12 sl13 sl14 sl15 sl16 : Array (Option Value)} {oc1 kV1 dc1 pm1 cd1 ct1 oc2 kV2 dc2 pm2 cd2 ct2 oc3 kV3 dc3 pm3 cd3 ct3 oc4 kV4 dc4 pm4 cd4 ct4 oc5 kV5 dc5 pm5 cd5 ct5 oc6 kV6 dc6 pm6 cd6 ct6 oc7 kV7 dc7 pm7 cd7 ct7 oc8 kV8 dc8 pm8 cd8 ct8 oc9 kV9 dc9 pm9 cd9 ct9 oc10 kV10 dc10 pm10 cd10 ct10 oc11 kV11 dc11 pm11 cd11 ct11 oc12 kV12 dc12 pm12 cd12 ct12 oc13 kV13 dc13 pm13 cd13 ct13 oc14 kV14 dc14 pm14 cd14 ct14 oc15 kV15 dc15 pm15 cd15 ct15 oc16 kV16 dc16 pm16 cd16 ct16 : Value} {tBOXES tMOST_HELD tMOST_ROWS : Tok} {esdS : Array DictEntry} {ndS ntG ntL : Nat} {otG otL : Obj} {ittG ittL : Array Value}  (X : K.In h) (G : h.Ns mainGlobals mg) (hfa : mg "law" = some (.ref fa))
    (a1 : PySem.W.nsIn K mainGlobals "_law_mix" = some (some (.ref f1)))
    (l1 : K.lookup f1 = some ⟨oc1, od1, .func (PySem.W.fnOf "_law_mix" "_law_mix" (defArgs sMix) (defBody sMix) (defScope sMix) .none kV1 dc1 pm1 an1 cd1 ct1), sl1⟩)
    (c1 : PySem.W.codeIn K cd1 "_law_mix" = true)
    (k1 : PySem.W.keepIn K (.ref f1) = true)
    (a2 : PySem.W.nsIn K mainGlobals "_law_next" = some (some (.ref f2)))
    (l2 : K.lookup f2 = some ⟨oc2, od2, .func (PySem.W.fnOf "_law_next" "_law_next" (defArgs sNext) (defBody sNext) (defScope sNext) .none kV2 dc2 pm2 an2 cd2 ct2), sl2⟩)
    (c2 : PySem.W.codeIn K cd2 "_law_next" = true)
    (k2 : PySem.W.keepIn K (.ref f2) = true)
    (a3 : PySem.W.nsIn K mainGlobals "_law_number" = some (some (.ref f3)))
    (l3 : K.lookup f3 = some ⟨oc3, od3, .func (PySem.W.fnOf "_law_number" "_law_number" (defArgs sNumber) (defBody sNumber) (defScope sNumber) .none kV3 dc3 pm3 an3 cd3 ct3), sl3⟩)
    (c3 : PySem.W.codeIn K cd3 "_law_number" = true)
    (k3 : PySem.W.keepIn K (.ref f3) = true)
    (a4 : PySem.W.nsIn K mainGlobals "_law_boxes" = some (some (.ref f4)))
    (l4 : K.lookup f4 = some ⟨oc4, od4, .func (PySem.W.fnOf "_law_boxes" "_law_boxes" (defArgs sBoxes) (defBody sBoxes) (defScope sBoxes) .none kV4 dc4 pm4 an4 cd4 ct4), sl4⟩)
    (c4 : PySem.W.codeIn K cd4 "_law_boxes" = true)
    (k4 : PySem.W.keepIn K (.ref f4) = true)
    (a5 : PySem.W.nsIn K mainGlobals "_law_deed" = some (some (.ref f5)))
    (l5 : K.lookup f5 = some ⟨oc5, od5, .func (PySem.W.fnOf "_law_deed" "_law_deed" (defArgs sDeed) (defBody sDeed) (defScope sDeed) .none kV5 dc5 pm5 an5 cd5 ct5), sl5⟩)
    (c5 : PySem.W.codeIn K cd5 "_law_deed" = true)
    (k5 : PySem.W.keepIn K (.ref f5) = true)
    (a6 : PySem.W.nsIn K mainGlobals "_law_jump" = some (some (.ref f6)))
    (l6 : K.lookup f6 = some ⟨oc6, od6, .func (PySem.W.fnOf "_law_jump" "_law_jump" (defArgs sJump) (defBody sJump) (defScope sJump) .none kV6 dc6 pm6 an6 cd6 ct6), sl6⟩)
    (c6 : PySem.W.codeIn K cd6 "_law_jump" = true)
    (k6 : PySem.W.keepIn K (.ref f6) = true)
    (a7 : PySem.W.nsIn K mainGlobals "_law_plain" = some (some (.ref f7)))
    (l7 : K.lookup f7 = some ⟨oc7, od7, .func (PySem.W.fnOf "_law_plain" "_law_plain" (defArgs sPlain) (defBody sPlain) (defScope sPlain) .none kV7 dc7 pm7 an7 cd7 ct7), sl7⟩)
    (c7 : PySem.W.codeIn K cd7 "_law_plain" = true)
    (k7 : PySem.W.keepIn K (.ref f7) = true)
    (a8 : PySem.W.nsIn K mainGlobals "is_whole" = some (some (.ref f8)))
    (l8 : K.lookup f8 = some ⟨oc8, od8, .func (PySem.W.fnOf "is_whole" "is_whole" (defArgs sWhole) (defBody sWhole) (defScope sWhole) .none kV8 dc8 pm8 an8 cd8 ct8), sl8⟩)
    (c8 : PySem.W.codeIn K cd8 "is_whole" = true)
    (k8 : PySem.W.keepIn K (.ref f8) = true)
    (a9 : PySem.W.nsIn K mainGlobals "most_for" = some (some (.ref f9)))
    (l9 : K.lookup f9 = some ⟨oc9, od9, .func (PySem.W.fnOf "most_for" "most_for" (defArgs sMost) (defBody sMost) (defScope sMost) .none kV9 dc9 pm9 an9 cd9 ct9), sl9⟩)
    (c9 : PySem.W.codeIn K cd9 "most_for" = true)
    (k9 : PySem.W.keepIn K (.ref f9) = true)
    (a10 : PySem.W.nsIn K mainGlobals "is_row" = some (some (.ref f10)))
    (l10 : K.lookup f10 = some ⟨oc10, od10, .func (PySem.W.fnOf "is_row" "is_row" (defArgs sRow) (defBody sRow) (defScope sRow) .none kV10 dc10 pm10 an10 cd10 ct10), sl10⟩)
    (c10 : PySem.W.codeIn K cd10 "is_row" = true)
    (k10 : PySem.W.keepIn K (.ref f10) = true)
    (a11 : PySem.W.nsIn K mainGlobals "first_flaw" = some (some (.ref f11)))
    (l11 : K.lookup f11 = some ⟨oc11, od11, .func (PySem.W.fnOf "first_flaw" "first_flaw" (defArgs s_first_flaw) (defBody s_first_flaw) (defScope s_first_flaw) .none kV11 dc11 pm11 an11 cd11 ct11), sl11⟩)
    (c11 : PySem.W.codeIn K cd11 "first_flaw" = true)
    (k11 : PySem.W.keepIn K (.ref f11) = true)
    (a12 : PySem.W.nsIn K mainGlobals "check_program" = some (some (.ref f12)))
    (l12 : K.lookup f12 = some ⟨oc12, od12, .func (PySem.W.fnOf "check_program" "check_program" (defArgs sChkP) (defBody sChkP) (defScope sChkP) .none kV12 dc12 pm12 an12 cd12 ct12), sl12⟩)
    (c12 : PySem.W.codeIn K cd12 "check_program" = true)
    (k12 : PySem.W.keepIn K (.ref f12) = true)
    (a13 : PySem.W.nsIn K mainGlobals "blocks" = some (some (.ref f13)))
    (l13 : K.lookup f13 = some ⟨oc13, od13, .func (PySem.W.fnOf "blocks" "blocks" (defArgs s_blocks) (defBody s_blocks) (defScope s_blocks) .none kV13 dc13 pm13 an13 cd13 ct13), sl13⟩)
    (c13 : PySem.W.codeIn K cd13 "blocks" = true)
    (k13 : PySem.W.keepIn K (.ref f13) = true)
    (a14 : PySem.W.nsIn K mainGlobals "_law_blocks" = some (some (.ref f14)))
    (l14 : K.lookup f14 = some ⟨oc14, od14, .func (PySem.W.fnOf "_law_blocks" "_law_blocks" (defArgs s__law_blocks) (defBody s__law_blocks) (defScope s__law_blocks) .none kV14 dc14 pm14 an14 cd14 ct14), sl14⟩)
    (c14 : PySem.W.codeIn K cd14 "_law_blocks" = true)
    (k14 : PySem.W.keepIn K (.ref f14) = true)
    (a15 : PySem.W.nsIn K mainGlobals "_law_alike" = some (some (.ref f15)))
    (l15 : K.lookup f15 = some ⟨oc15, od15, .func (PySem.W.fnOf "_law_alike" "_law_alike" (defArgs sAlike) (defBody sAlike) (defScope sAlike) .none kV15 dc15 pm15 an15 cd15 ct15), sl15⟩)
    (c15 : PySem.W.codeIn K cd15 "_law_alike" = true)
    (k15 : PySem.W.keepIn K (.ref f15) = true)
    (a16 : PySem.W.nsIn K mainGlobals "law" = some (some (.ref f16)))
    (l16 : K.lookup f16 = some ⟨oc16, od16, .func (PySem.W.fnOf "law" "law" (defArgs sLaw) (defBody sLaw) (defScope sLaw) .none kV16 dc16 pm16 an16 cd16 ct16), sl16⟩)
    (c16 : PySem.W.codeIn K cd16 "law" = true)
    (k16 : PySem.W.keepIn K (.ref f16) = true)
    (zlen : PySem.W.nsIn K mainGlobals "len" = some none)
    (zlist : PySem.W.nsIn K mainGlobals "list" = some none)
    (zmax : PySem.W.nsIn K mainGlobals "max" = some none)
    (zmin : PySem.W.nsIn K mainGlobals "min" = some none)
    (ztuple : PySem.W.nsIn K mainGlobals "tuple" = some none)
    (zrange : PySem.W.nsIn K mainGlobals "range" = some none)
    (zisinstance : PySem.W.nsIn K mainGlobals "isinstance" = some none)
    (zint : PySem.W.nsIn K mainGlobals "int" = some none)
    (zbool : PySem.W.nsIn K mainGlobals "bool" = some none)
    (zstr : PySem.W.nsIn K mainGlobals "str" = some none)
    (zall : PySem.W.nsIn K mainGlobals "all" = some none)
    (zzip : PySem.W.nsIn K mainGlobals "zip" = some none)
    (zenumerate : PySem.W.nsIn K mainGlobals "enumerate" = some none)
    (zsum : PySem.W.nsIn K mainGlobals "sum" = some none)
    (zany : PySem.W.nsIn K mainGlobals "any" = some none)
    (zsorted : PySem.W.nsIn K mainGlobals "sorted" = some none)
    (zset : PySem.W.nsIn K mainGlobals "set" = some none)
    (zdict : PySem.W.nsIn K mainGlobals "dict" = some none)
    (gBOXES : PySem.W.nsIn K mainGlobals "BOXES" = some (some (.int 8 tBOXES)))
    (gMOST_HELD : PySem.W.nsIn K mainGlobals "MOST_HELD" = some (some (.int 999 tMOST_HELD)))
    (gMOST_ROWS : PySem.W.nsIn K mainGlobals "MOST_ROWS" = some (some (.int 200 tMOST_ROWS)))
    (rdS : PySem.W.nsIn K mainGlobals "SIGNS" = some (some (.ref dS)))
    (ldS : K.lookup dS = some ⟨.type "dict", none, .dict esdS ndS, #[]⟩)
    (litdS : PySem.W.KeysLit w.params esdS.toList)
    (lowdS : (dS == sysModules) = false)
    (entdS : EntsAt esdS.toList signsTab)
    (rtG : PySem.W.nsIn K mainGlobals "GOES" = some (some (.ref tG)))
    (lttG : K.lookup tG = some otG)
    (lctG : otG.cls = .type "tuple")
    (ldtG : otG.data = .seq ittG ntG)
    (lstG : ittG.size ≤ sizeLine)
    (lvtG : Vals [.str "go", .str "if"] ittG.toList)
    (rtL : PySem.W.nsIn K mainGlobals "LEAVES" = some (some (.ref tL)))
    (lttL : K.lookup tL = some otL)
    (lctL : otL.cls = .type "tuple")
    (ldtL : otL.data = .seq ittL ntL)
    (lstL : ittL.size ≤ sizeLine)
    (lvtL : Vals [.str "go", .str "if", .str "stop"] ittL.toList) :
    ∃ fd : FuncData, (∀ (s : Shared) (v : Value), BindsTo s fd ⟨[v], []⟩ [("_law_script", v)]) ∧ ∀ base : Heap, K.In base → base.Ns mainGlobals mg → FnOk l.prog w K mg base CX0 6 fa fd ["_law_script"] (spLaw K) := by
  have e := hfa.symm.trans (PySem.W.mg_of X G a16)
  cases e
  have B : Bl2 mg := ⟨⟨PySem.W.mg_none_of X G zlen, PySem.W.mg_none_of X G zlist, PySem.W.mg_none_of X G zmax, PySem.W.mg_none_of X G zmin, PySem.W.mg_none_of X G ztuple, PySem.W.mg_none_of X G zrange⟩, PySem.W.mg_none_of X G zisinstance, PySem.W.mg_none_of X G zint, PySem.W.mg_none_of X G zbool, PySem.W.mg_none_of X G zstr, PySem.W.mg_none_of X G zall, PySem.W.mg_none_of X G zzip, PySem.W.mg_none_of X G zenumerate⟩
  have B3 : Bl3 mg := ⟨PySem.W.mg_none_of X G zsum, PySem.W.mg_none_of X G zany, PySem.W.mg_none_of X G zsorted, PySem.W.mg_none_of X G zset, PySem.W.mg_none_of X G zdict⟩
  have hBOXES : ∃ t, mg "BOXES" = some (.int 8 t) := ⟨_, PySem.W.mg_of X G gBOXES⟩
  have hMOST_HELD : ∃ t, mg "MOST_HELD" = some (.int 999 t) := ⟨_, PySem.W.mg_of X G gMOST_HELD⟩
  have hMOST_ROWS : ∃ t, mg "MOST_ROWS" = some (.int 200 t) := ⟨_, PySem.W.mg_of X G gMOST_ROWS⟩
  have GB : Gb K w mg dS := ⟨hBOXES, hMOST_HELD, hMOST_ROWS, PySem.W.mg_of X G rdS, ⟨esdS, ndS, ⟨ldS, litdS, lowdS⟩, entdS⟩⟩
  have hGOES := (⟨PySem.W.mg_of X G rtG, ⟨otG, ittG, ntG, lttG, lctG, ldtG, lstG, lvtG⟩⟩ : GGo K mg tG)
  have hLEAVES := (⟨PySem.W.mg_of X G rtL, ⟨otL, ittL, ntL, lttL, lctL, ldtL, lstL, lvtL⟩⟩ : GLv K mg tL)
  have F1 := fun_mk (st := sMix) l1 c1 k1
  have b1 := F1.binds (ps := ["_law_script", "_law_seed"]) fun _ _ _ _ _ _ us hl => match us, hl with | [_, _], _ => rfl
  have m1 := PySem.W.mg_of X G a1
  have F2 := fun_mk (st := sNext) l2 c2 k2
  have b2 := F2.binds (ps := ["_law_h", "_law_many"]) fun _ _ _ _ _ _ us hl => match us, hl with | [_, _], _ => rfl
  have m2 := PySem.W.mg_of X G a2
  have F3 := fun_mk (st := sNumber) l3 c3 k3
  have b3 := F3.binds (ps := ["_law_h"]) fun _ _ _ _ _ _ us hl => match us, hl with | [_], _ => rfl
  have m3 := PySem.W.mg_of X G a3
  have F4 := fun_mk (st := sBoxes) l4 c4 k4
  have b4 := F4.binds (ps := ["_law_h"]) fun _ _ _ _ _ _ us hl => match us, hl with | [_], _ => rfl
  have m4 := PySem.W.mg_of X G a4
  have F5 := fun_mk (st := sDeed) l5 c5 k5
  have b5 := F5.binds (ps := ["_law_h", "_law_e"]) fun _ _ _ _ _ _ us hl => match us, hl with | [_, _], _ => rfl
  have m5 := PySem.W.mg_of X G a5
  have F6 := fun_mk (st := sJump) l6 c6 k6
  have b6 := F6.binds (ps := ["_law_h", "_law_e", "_law_at", "_law_rows"]) fun _ _ _ _ _ _ us hl => match us, hl with | [_, _, _, _], _ => rfl
  have m6 := PySem.W.mg_of X G a6
  have F7 := fun_mk (st := sPlain) l7 c7 k7
  have b7 := F7.binds (ps := ["_law_h", "_law_most"]) fun _ _ _ _ _ _ us hl => match us, hl with | [_, _], _ => rfl
  have m7 := PySem.W.mg_of X G a7
  have F8 := fun_mk (st := sWhole) l8 c8 k8
  have b8 := F8.binds (ps := ["x", "most"]) fun _ _ _ _ _ _ us hl => match us, hl with | [_, _], _ => rfl
  have m8 := PySem.W.mg_of X G a8
  have F9 := fun_mk (st := sMost) l9 c9 k9
  have b9 := F9.binds (ps := ["sign", "many"]) fun _ _ _ _ _ _ us hl => match us, hl with | [_, _], _ => rfl
  have m9 := PySem.W.mg_of X G a9
  have F10 := fun_mk (st := sRow) l10 c10 k10
  have b10 := F10.binds (ps := ["row", "many"]) fun _ _ _ _ _ _ us hl => match us, hl with | [_, _], _ => rfl
  have m10 := PySem.W.mg_of X G a10
  have F11 := fun_mk (st := s_first_flaw) l11 c11 k11
  have b11 := F11.binds (ps := ["rows", "many"]) fun _ _ _ _ _ _ us hl => match us, hl with | [_, _], _ => rfl
  have m11 := PySem.W.mg_of X G a11
  have F12 := fun_mk (st := sChkP) l12 c12 k12
  have b12 := F12.binds (ps := ["program"]) fun _ _ _ _ _ _ us hl => match us, hl with | [_], _ => rfl
  have m12 := PySem.W.mg_of X G a12
  have F13 := fun_mk (st := s_blocks) l13 c13 k13
  have b13 := F13.binds (ps := ["program"]) fun _ _ _ _ _ _ us hl => match us, hl with | [_], _ => rfl
  have m13 := PySem.W.mg_of X G a13
  have F14 := fun_mk (st := s__law_blocks) l14 c14 k14
  have b14 := F14.binds (ps := ["_law_program"]) fun _ _ _ _ _ _ us hl => match us, hl with | [_], _ => rfl
  have m14 := PySem.W.mg_of X G a14
  have F15 := fun_mk (st := sAlike) l15 c15 k15
  have b15 := F15.binds (ps := ["_law_found", "_law_due"]) fun _ _ _ _ _ _ us hl => match us, hl with | [_, _], _ => rfl
  have m15 := PySem.W.mg_of X G a15
  have F16 := fun_mk (st := sLaw) l16 c16 k16
  have b16 := F16.binds (ps := ["_law_script"]) fun _ _ _ _ _ _ us hl => match us, hl with | [_], _ => rfl
  have m16 := PySem.W.mg_of X G a16
  refine ⟨PySem.W.fnOf "law" "law" (defArgs sLaw) (defBody sLaw) (defScope sLaw) .none kV16 dc16 pm16 an16 cd16 ct16, fun s v => .of_eq rfl, fun base _ _ => ?_⟩
  · skip
    have MX := Cal.mk' (P := l.prog) (w := w) (base := base) (ok_mix F1 B.b.list) m1 F1.kp b1
    have NX := Cal.mk' (P := l.prog) (w := w) (base := base) (ok_next F2 B.b.max B.b.len) m2 F2.kp b2
    have NU := Cal.mk' (P := l.prog) (w := w) (base := base) (ok_number F3 NX) m3 F3.kp b3
    have BO := Cal.mk' (P := l.prog) (w := w) (base := base) (ok_boxes F4 NX) m4 F4.kp b4
    have DE := Cal.mk' (P := l.prog) (w := w) (base := base) (ok_deed F5 NX NU B.b) m5 F5.kp b5
    have JU := Cal.mk' (P := l.prog) (w := w) (base := base) (ok_jump F6 NX B.b) m6 F6.kp b6
    have PL := Cal.mk' (P := l.prog) (w := w) (base := base) (ok_plain F7 NX BO DE JU B.b) m7 F7.kp b7
    have WH := Cal.mk' (P := l.prog) (w := w) (base := base) (ok_whole F8 B) m8 F8.kp b8
    have MO := Cal.mk' (P := l.prog) (w := w) (base := base) (ok_most F9 GB) m9 F9.kp b9
    have RW := row_d (Cal.mk' (P := l.prog) (w := w) (base := base) (ok_row F10 WH MO B GB) m10 F10.kp b10)
    have FF := Cal.mk' (P := l.prog) (w := w) (base := base) (ok_flaw F11 RW B hMOST_ROWS) m11 F11.kp b11
    have CP := Cal.mk' (P := l.prog) (w := w) (base := base) (ok_chkPn F12 FF B hMOST_ROWS) m12 F12.kp b12
    have BK := Cal.mk' (P := l.prog) (w := w) (base := base) (ok_blocks F13 CP B B3 hGOES hLEAVES) m13 F13.kp b13
    have LK := Cal.mk' (P := l.prog) (w := w) (base := base) (ok_lblocks F14 B B3) m14 F14.kp b14
    have AL := Cal.mk' (P := l.prog) (w := w) (base := base) (alike_all F15 m15 b15 B 3) m15 F15.kp b15
    exact ok_law F16 B MX PL NX LK BK AL
end LB
open PySem PySem.W PyProof.Rows
set_option maxRecDepth 100000 in
set_option maxHeartbeats 0 in
theorem PySem.Challenge.cw_lateboxes_k07_blocks_holds : PySem.Challenge.rw_lateboxes_k07_blocks.Holds := by
  w_on; o_law; k_head; (case hw => w_witness2)
  k_fill
  refine L2.walk_of (l := PySem.Challenge.rw_lateboxes_k07_blocks) (n := 63) (k := 6) (x := "_law_script") (CX := fun _ => L2.CX0) (sp := fun w => LB.spLaw _) rfl (by decide) rfl ⟨rfl, by decide, by decide⟩ (fun w h Y => PySem.W.kIn_of Y) ?F (fun _ _ a ns hl _ hS => ⟨a, ns, rfl, hS, hl, fun _ => rfl⟩) (fun _ _ _ _ _ h => h)
  case F =>
    intro w mg fa h KX G hmg
    refine' LB.all_mk KX G hmg ?a1 ?l1 ?c1 ?k1 ?a2 ?l2 ?c2 ?k2 ?a3 ?l3 ?c3 ?k3 ?a4 ?l4 ?c4 ?k4 ?a5 ?l5 ?c5 ?k5 ?a6 ?l6 ?c6 ?k6 ?a7 ?l7 ?c7 ?k7 ?a8 ?l8 ?c8 ?k8 ?a9 ?l9 ?c9 ?k9 ?a10 ?l10 ?c10 ?k10 ?a11 ?l11 ?c11 ?k11 ?a12 ?l12 ?c12 ?k12 ?a13 ?l13 ?c13 ?k13 ?a14 ?l14 ?c14 ?k14 ?a15 ?l15 ?c15 ?k15 ?a16 ?l16 ?c16 ?k16 ?zlen ?zlist ?zmax ?zmin ?ztuple ?zrange ?zisinstance ?zint ?zbool ?zstr ?zall ?zzip ?zenumerate ?zsum ?zany ?zsorted ?zset ?zdict ?gBOXES ?gMOST_HELD ?gMOST_ROWS ?rdS ?ldS ?litdS ?lowdS ?entdS ?rtG ?lttG ?lctG ?ldtG ?lstG ?lvtG ?rtL ?lttL ?lctL ?ldtL ?lstL ?lvtL
    (case a1 => k_is)
    (case l1 => k_is)
    (case c1 => k_is)
    (case k1 => k_is)
    (case a2 => k_is)
    (case l2 => k_is)
    (case c2 => k_is)
    (case k2 => k_is)
    (case a3 => k_is)
    (case l3 => k_is)
    (case c3 => k_is)
    (case k3 => k_is)
    (case a4 => k_is)
    (case l4 => k_is)
    (case c4 => k_is)
    (case k4 => k_is)
    (case a5 => k_is)
    (case l5 => k_is)
    (case c5 => k_is)
    (case k5 => k_is)
    (case a6 => k_is)
    (case l6 => k_is)
    (case c6 => k_is)
    (case k6 => k_is)
    (case a7 => k_is)
    (case l7 => k_is)
    (case c7 => k_is)
    (case k7 => k_is)
    (case a8 => k_is)
    (case l8 => k_is)
    (case c8 => k_is)
    (case k8 => k_is)
    (case a9 => k_is)
    (case l9 => k_is)
    (case c9 => k_is)
    (case k9 => k_is)
    (case a10 => k_is)
    (case l10 => k_is)
    (case c10 => k_is)
    (case k10 => k_is)
    (case a11 => k_is)
    (case l11 => k_is)
    (case c11 => k_is)
    (case k11 => k_is)
    (case a12 => k_is)
    (case l12 => k_is)
    (case c12 => k_is)
    (case k12 => k_is)
    (case a13 => k_is)
    (case l13 => k_is)
    (case c13 => k_is)
    (case k13 => k_is)
    (case a14 => k_is)
    (case l14 => k_is)
    (case c14 => k_is)
    (case k14 => k_is)
    (case a15 => k_is)
    (case l15 => k_is)
    (case c15 => k_is)
    (case k15 => k_is)
    (case a16 => k_is)
    (case l16 => k_is)
    (case c16 => k_is)
    (case k16 => k_is)
    (case zlen => k_is)
    (case zlist => k_is)
    (case zmax => k_is)
    (case zmin => k_is)
    (case ztuple => k_is)
    (case zrange => k_is)
    (case zisinstance => k_is)
    (case zint => k_is)
    (case zbool => k_is)
    (case zstr => k_is)
    (case zall => k_is)
    (case zzip => k_is)
    (case zenumerate => k_is)
    (case zsum => k_is)
    (case zany => k_is)
    (case zsorted => k_is)
    (case zset => k_is)
    (case zdict => k_is)
    (case gBOXES => k_is)
    (case gMOST_HELD => k_is)
    (case gMOST_ROWS => k_is)
    (case rdS => k_is)
    (case ldS => k_is)
    (case litdS => exact ⟨⟨_, _, rfl, rfl⟩, ⟨_, _, rfl, rfl⟩, ⟨_, _, rfl, rfl⟩, ⟨_, _, rfl, rfl⟩, ⟨_, _, rfl, rfl⟩, ⟨_, _, rfl, rfl⟩, ⟨_, _, rfl, rfl⟩, ⟨_, _, rfl, rfl⟩, ⟨_, _, rfl, rfl⟩, ⟨_, _, rfl, rfl⟩, ⟨_, _, rfl, rfl⟩, ⟨_, _, rfl, rfl⟩, trivial⟩)
    (case lowdS => rfl)
    (case entdS => exact ⟨⟨_, rfl⟩, ⟨_, rfl⟩, ⟨_, rfl⟩, ⟨_, rfl⟩, ⟨_, rfl⟩, ⟨_, rfl⟩, ⟨_, rfl⟩, ⟨_, rfl⟩, ⟨_, rfl⟩, ⟨_, rfl⟩, ⟨_, rfl⟩, ⟨_, rfl⟩, ⟨_, rfl⟩, ⟨_, rfl⟩, ⟨_, rfl⟩, ⟨_, rfl⟩, ⟨_, rfl⟩, ⟨_, rfl⟩, ⟨_, rfl⟩, ⟨_, rfl⟩, ⟨_, rfl⟩, ⟨_, rfl⟩, ⟨_, rfl⟩, ⟨_, rfl⟩, trivial⟩)
    (case rtG => k_is)
    (case lttG => k_is)
    (case lctG => rfl)
    (case ldtG => rfl)
    (case lstG => decide)
    (case lvtG => exact .cons ⟨_, rfl⟩ (.cons ⟨_, rfl⟩ .nil))
    (case rtL => k_is)
    (case lttL => k_is)
    (case lctL => rfl)
    (case ldtL => rfl)
    (case lstL => decide)
    (case lvtL => exact .cons ⟨_, rfl⟩ (.cons ⟨_, rfl⟩ (.cons ⟨_, rfl⟩ .nil)))
