import PyProof.Rows.All
import Wide.All
import OpenK.AllK
import Wide.FinOn
import HandS.ForMost
import HandS.IsInst
import HandS.SetKeys
import HandS.NoneIn
import HandS.Style
import HandS.More
import HandS.Zip
import HandS.Walk
import HandS.TupAny
import KE.GoesMore
import KE.GoesEnum
import HandS.DictTup
import HandS.SortKw
import KE.DataMinMax
import PyProof.P3In
import PySem.Challenge.RW_lateboxes_k03_runs_beat_by_beat
set_option Elab.async false
set_option linter.all false
set_option maxRecDepth 100000
set_option maxHeartbeats 4000000
/-! Lateboxes, common to all laws: the drawer's list, what stays, rows as data. Own text. -/
namespace LB
open PySem L2
/-- the drawer: a list at p, its own list of numbers at l -/
def HAt (H : Hp) (p l : Addr) : Prop := ∃ (m t : Int) (ns : List Int), H p = some (.lst [.int m, .ref l, .int t]) ∧ H l = some (.lst (ns.map V.int)) ∧ 0 ≤ m ∧ m < 2147483647 ∧ ns.length ≤ 63
/-- all that stood stands, but for what stands at p and l -/
def Keep (p l : Addr) (H H' : Hp) : Prop := ∀ b o, H b = some o → b ≠ p → b ≠ l → H' b = some o
theorem HAt.ne {H : Hp} {p l : Addr} (h : HAt H p l) : p ≠ l := by
  obtain ⟨m, t, ns, h1, h2, _⟩ := h
  intro e
  rw [e, h2] at h1
  cases ns with
  | nil => cases h1
  | cons x r =>
    cases r with
    | nil => cases h1
    | cons y r => cases h1
theorem Keep.refl (p l : Addr) (H : Hp) : Keep p l H H := fun _ _ h _ _ => h
theorem Keep.trans {p l : Addr} {H H1 H2 : Hp} (a : Keep p l H H1) (b : Keep p l H1 H2) : Keep p l H H2 := fun c o e n1 n2 => b c o (a c o e n1 n2) n1 n2
theorem Keep.of_same {p l : Addr} {H H' : Hp} (s : Same H H') : Keep p l H H' := fun c o e _ _ => s c o e
theorem same_new {H : Hp} {a : Addr} (h : H a = none) (o : HO) : Same H (upd H a o) := fun b u q => by
  rw [upd_ne (ne_of_none q h)]
  exact q
theorem Keep.new {p l a : Addr} {H H' : Hp} {o : HO} (s : Keep p l H H') (h : H' a = none) : Keep p l H (upd H' a o) := s.trans (.of_same (same_new h o))
/-- a drawer stands when others are made or changed -/
theorem HAt.same {H H' : Hp} {p l : Addr} (h : HAt H p l) (s : Same H H') : HAt H' p l := by
  obtain ⟨m, t, ns, h1, h2, h3⟩ := h
  exact ⟨m, t, ns, s _ _ h1, s _ _ h2, h3⟩
theorem HAt.new {H : Hp} {p l a : Addr} {o : HO} (h : HAt H p l) (n : H a = none) : HAt (upd H a o) p l := h.same (same_new n o)
/-- what is not there at the end was not there ahead -/
theorem Keep.free {p l a : Addr} {H H' : Hp} (hh : HAt H' p l) (s : Keep p l H H') (h : H' a = none) : H a = none := by
  cases q : H a with
  | none => rfl
  | some o =>
    obtain ⟨m, t, ns, h1, h2, _⟩ := hh
    by_cases e1 : a = p
    · rw [e1, h1] at h; cases h
    · by_cases e2 : a = l
      · rw [e2, h2] at h; cases h
      · rw [s a o q e1 e2] at h; cases h
theorem keep_tup {K : PySem.W.Frag} {p l a : Addr} {H H' : Hp} {xs : List V} (hh : HAt H p l) (s : Keep p l H H') (h : SqT K H a xs) : SqT K H' a xs := by
  obtain ⟨m, t, ns, h1, h2, _⟩ := hh
  rcases h with (h | ⟨o, h⟩) | h
  · refine .inl (.inl (s _ _ h (fun e => ?_) (fun e => ?_)))
    · rw [e, h1] at h; cases h
    · rw [e, h2] at h; cases h
  · refine .inl (.inr ⟨o, s _ _ h (fun e => ?_) (fun e => ?_)⟩)
    · rw [e, h1] at h; cases h
    · rw [e, h2] at h; cases h
  · exact .inr h
theorem HAt.nep {H : Hp} {p l d : Addr} (h : HAt H p l) (hd : H d = none) : d ≠ p := fun e => by
  obtain ⟨m, t, ns, q, _⟩ := h
  rw [e, q] at hd; cases hd
theorem HAt.nel {H : Hp} {p l d : Addr} (h : HAt H p l) (hd : H d = none) : d ≠ l := fun e => by
  obtain ⟨m, t, ns, _, q, _⟩ := h
  rw [e, q] at hd; cases hd
/-- what stands at d, made behind H0, may change -/
theorem Keep.over {p l d : Addr} {H0 H : Hp} {o : HO} (s : Keep p l H0 H) (hd : H0 d = none) : Keep p l H0 (upd H d o) := fun b u e n1 n2 => by
  rw [upd_ne (ne_of_none e hd)]
  exact s b u e n1 n2
theorem HAt.over {H : Hp} {p l d : Addr} {o : HO} (h : HAt H p l) (n1 : d ≠ p) (n2 : d ≠ l) : HAt (upd H d o) p l := by
  obtain ⟨m, t, ns, h1, h2, h3⟩ := h
  exact ⟨m, t, ns, by rw [upd_ne n1.symm]; exact h1, by rw [upd_ne n2.symm]; exact h2, h3⟩
theorem small {n : Nat} (h : n ≤ 1000) : n ≤ sizeLine := Nat.le_of_lt (small1000 h)
theorem map_get {ns : List Int} {i : Nat} {y : V} (h : (ns.map V.int)[i]? = some y) : ∃ u, ns[i]? = some u ∧ y = V.int u := by
  rw [List.getElem?_map] at h
  cases e : ns[i]? with
  | none => rw [e] at h; cases h
  | some u => rw [e] at h; exact ⟨u, rfl, (Option.some.inj h).symm⟩
/-! ### joining ways -/
theorem if_cut {b : Bool} {ta tb : TE} {σ : L2.St} {H : Hp} {Q : V → Hp → Prop} (G : V → Hp → Prop) (hT : b = true → ∀ Q' : V → Hp → Prop, (∀ v H', G v H' → Q' v H') → ta σ H Q') (hF : b = false → ∀ Q' : V → Hp → Prop, (∀ v H', G v H' → Q' v H') → tb σ H Q')
    (k : ∀ v H', G v H' → Q v H') : if b = true then ta σ H Q else tb σ H Q := by
  cases b with
  | true => rw [if_pos rfl]; exact hT rfl Q k
  | false => rw [if_neg (by decide)]; exact hF rfl Q k
theorem ifs_cut {b : Bool} {t u : TS} {D : Ends} {σ : L2.St} {H : Hp} (G : L2.St → Hp → Prop) (hT : b = true → ∀ D' : Ends, D'.rt = D.rt → (∀ σ' H', G σ' H' → D'.nx σ' H') → t D' σ H)
    (hF : b = false → ∀ D' : Ends, D'.rt = D.rt → (∀ σ' H', G σ' H' → D'.nx σ' H') → u D' σ H) (k : ∀ σ' H', G σ' H' → D.nx σ' H') : if b = true then t D σ H else u D σ H := by
  cases b with
  | true => rw [if_pos rfl]; exact hT rfl D rfl k
  | false => rw [if_neg (by decide)]; exact hF rfl D rfl k
theorem yes_if {σ : L2.St} {H : Hp} {A B : Hp → Prop} (h : A H) : tYes σ H fun b H3 => if b = true then A H3 else B H3 := by
  show if (true : Bool) = true then A H else B H
  exact iteT h
theorem if_both {b : Bool} {A B : Prop} (hT : b = true → A) (hF : b = false → B) : if b = true then A else B := by
  cases b with
  | true => rw [if_pos rfl]; exact hT rfl
  | false => rw [if_neg (by decide)]; exact hF rfl
/-! ### lists of numbers as data -/
theorem all_ints (K : PySem.W.Frag) (H : Hp) : ∀ ns : List Int, DpAll K H (ns.map V.int) (ns.map PyData.int)
  | [] => .nil
  | x :: r => .cons (.int x) (all_ints K H r)
theorem lay_ints : ∀ ns : List Int, PyData.canLayAll0 (ns.map PyData.int) = true
  | [] => rfl
  | x :: r => by
    show (PyData.canLay0 (.int x) && PyData.canLayAll0 (r.map PyData.int)) = true
    rw [lay_ints r]
    rfl
theorem deep_ints : ∀ ns : List Int, PyData.depthAll (ns.map PyData.int) = 0
  | [] => rfl
  | x :: r => by
    show max (PyData.depth (.int x)) (PyData.depthAll (r.map PyData.int)) = 0
    rw [deep_ints r]
    rfl
theorem shaped_ints (ns : List Int) : SeqAt.shaped (.list (ns.map PyData.int)) = true := by
  have h1 : PyData.canLay0 (.list (ns.map PyData.int)) = true := lay_ints ns
  have h2 : PyData.depth (.list (ns.map PyData.int)) = 1 := by
    show PyData.depthAll (ns.map PyData.int) + 1 = 1
    rw [deep_ints]
  unfold SeqAt.shaped
  rw [h1, h2]
  rfl
theorem eqv_ints : ∀ ns ms : List Int, PyData.eqvAll (ns.map PyData.int) (ms.map PyData.int) = decide (ns = ms)
  | [], [] => rfl
  | [], _ :: _ => rfl
  | _ :: _, [] => rfl
  | x :: r, y :: t => by
    show ((x == y) && PyData.eqvAll (r.map PyData.int) (t.map PyData.int)) = decide (x :: r = y :: t)
    rw [eqv_ints r t]
    by_cases h : x = y <;> by_cases h2 : r = t <;> simp [h, h2]
theorem eqv_lists (ns ms : List Int) : PyData.eqv (.list (ns.map PyData.int)) (.list (ms.map PyData.int)) = decide (ns = ms) := eqv_ints ns ms
theorem Dp.ints {K : PySem.W.Frag} {H : Hp} {a : Addr} {ns : List Int} (h : SqL K H a (ns.map V.int)) : Dp K H (.ref a) (.list (ns.map PyData.int)) := .lst h (all_ints K H ns)
theorem set_ints (ns : List Int) (j : Nat) (z : Int) : (ns.map V.int).set j (.int z) = (ns.set j z).map V.int := by rw [List.map_set]
/-! ### a def as its callers see it -/
structure Cal (P : Program) (w : World) (K : PySem.W.Frag) (mg : Str → Option Value) (base : Heap) (k : Nat) (x : Str) (ps : List Str) (sp : Sp) : Prop where
  ex : ∃ (f : Addr) (fd : FuncData), FnOk P w K mg base CX0 k f fd ps sp ∧ mg x = some (.ref f) ∧ PySem.W.keepIn K (.ref f) = true ∧ Binds K fd ps []
theorem Cal.mk' {P : Program} {w : World} {K : PySem.W.Frag} {mg : Str → Option Value} {base : Heap} {k : Nat} {x : Str} {ps : List Str} {sp : Sp} {f : Addr} {fd : FuncData} (F : FnOk P w K mg base CX0 k f fd ps sp) (m : mg x = some (.ref f)) (kp : PySem.W.keepIn K (.ref f) = true)
    (b : Binds K fd ps []) : Cal P w K mg base k x ps sp := ⟨f, fd, F, m, kp, b⟩
theorem Cal.mono {P : Program} {w : World} {K : PySem.W.Frag} {mg : Str → Option Value} {base : Heap} {j k : Nat} {x : Str} {ps : List Str} {sp : Sp} (C : Cal P w K mg base j x ps sp) (h : j ≤ k) : Cal P w K mg base k x ps sp := by
  obtain ⟨f, fd, F, m, kp, b⟩ := C.ex
  exact ⟨f, fd, F.mono h, m, kp, b⟩
def tCal (sp : Sp) (t : TA) : TE := fun σ H Q => t σ H fun vs H1 => sp vs H1 Q fun _ _ _ => False
theorem pe_cal {X : Cx} {x : Str} {e : Expr} {es : List Expr} {p pos : Pos} {k : Nat} {ps : List Str} {sp : Sp} {t : TA} (C : Cal X.prog X.w X.K X.mg X.base k x ps sp) (hr : Room k X.A) (ha : PA X (e :: es) t) (hg : Gl X x := by rfl)
    (hdb : (x == ("__debug__" : Str)) = false := by decide) (he : starEach (e :: es) X.env = (false, eval e X.env) :: starEach es X.env := by rfl) (hpl : (backTo pos (starEach es X.env)).any (·.1) = false := by rfl) :
    PE X (.Call (.Name x p) (e :: es) [] pos) (tCal sp t) := by
  obtain ⟨f, fd, F, m, kp, b⟩ := C.ex
  have r := pe_call (p := p) (pos := pos) (E := fun _ _ _ => False) F hr hg m kp b .nil pass0 ha hdb he hpl
  have q : (tCall sp [] (fun _ _ _ => False) t) = tCal sp t := by
    funext σ H Q
    show (t σ H fun vs H1 => sp (vs ++ []) H1 Q fun _ _ _ => False) = _
    simp only [List.append_nil]
    rfl
  rw [q] at r
  exact r
/-- which names of the top are the built-ins still -/
structure Bl (mg : Str → Option Value) : Prop where
  len : mg "len" = none
  list : mg "list" = none
  max : mg "max" = none
  min : mg "min" = none
  tuple : mg "tuple" = none
  range : mg "range" = none
/-! ### rows as data -/
inductive Rw where
  | put (b n : Int) | move (b c : Int) | add (b c d : Int) | take (b c d : Int) | times (b c d : Int) | get (b c : Int) | set (c d : Int) | say (c : Int) | rest | go (r : Int) | iff (c r : Int) | stop
def Rw.vals : Rw → List V
  | .put b n => [.str "put", .int b, .int n]
  | .move b c => [.str "move", .int b, .int c]
  | .add b c d => [.str "add", .int b, .int c, .int d]
  | .take b c d => [.str "take", .int b, .int c, .int d]
  | .times b c d => [.str "times", .int b, .int c, .int d]
  | .get b c => [.str "get", .int b, .int c]
  | .set c d => [.str "set", .int c, .int d]
  | .say c => [.str "say", .int c]
  | .rest => [.str "rest"]
  | .go r => [.str "go", .int r]
  | .iff c r => [.str "if", .int c, .int r]
  | .stop => [.str "stop"]
def Rw.isGo : Rw → Bool
  | .go _ => true
  | .iff _ _ => true
  | _ => false
def Rw.leaves : Rw → Bool
  | .go _ => true
  | .iff _ _ => true
  | .stop => true
  | _ => false
def Bx (b : Int) : Prop := 0 ≤ b ∧ b < 8
/-- a row of a program of so many rows -/
def Rw.ok (many : Int) : Rw → Prop
  | .put b n => Bx b ∧ 0 ≤ n ∧ n < 1000
  | .move b c => Bx b ∧ Bx c
  | .add b c d => Bx b ∧ Bx c ∧ Bx d
  | .take b c d => Bx b ∧ Bx c ∧ Bx d
  | .times b c d => Bx b ∧ Bx c ∧ Bx d
  | .get b c => Bx b ∧ Bx c
  | .set c d => Bx c ∧ Bx d
  | .say c => Bx c
  | .rest => True
  | .go r => 0 ≤ r ∧ r < many
  | .iff c r => Bx c ∧ 0 ≤ r ∧ r < many
  | .stop => True
/-- a row stands at the value -/
def RowAt (K : PySem.W.Frag) (H : Hp) (v : V) (r : Rw) : Prop := ∃ a, v = .ref a ∧ SqT K H a r.vals
/-- a tuple of rows stands at a -/
def ProgAt (K : PySem.W.Frag) (H : Hp) (a : Addr) (rs : List Rw) : Prop := ∃ vs : List V, SqT K H a vs ∧ vs.length = rs.length ∧ ∀ (i : Nat) (r : Rw), rs[i]? = some r → ∃ v, vs[i]? = some v ∧ RowAt K H v r
theorem same_tup {K : PySem.W.Frag} {a : Addr} {H H' : Hp} {xs : List V} (s : Same H H') (h : SqT K H a xs) : SqT K H' a xs := by
  rcases h with (h | ⟨o, h⟩) | h
  · exact .inl (.inl (s _ _ h))
  · exact .inl (.inr ⟨o, s _ _ h⟩)
  · exact .inr h
theorem keep_row {K : PySem.W.Frag} {p l : Addr} {H H' : Hp} {v : V} {r : Rw} (hh : HAt H p l) (s : Keep p l H H') (h : RowAt K H v r) : RowAt K H' v r := by
  obtain ⟨a, e, q⟩ := h
  exact ⟨a, e, keep_tup hh s q⟩
theorem keep_prog {K : PySem.W.Frag} {p l a : Addr} {H H' : Hp} {rs : List Rw} (hh : HAt H p l) (s : Keep p l H H') (h : ProgAt K H a rs) : ProgAt K H' a rs := by
  obtain ⟨vs, q, hl, g⟩ := h
  refine ⟨vs, keep_tup hh s q, hl, fun i r e => ?_⟩
  obtain ⟨v, e1, e2⟩ := g i r e
  exact ⟨v, e1, keep_row hh s e2⟩
theorem tup_of {K : PySem.W.Frag} {H : Hp} {a : Addr} {xs : List V} (h : H a = some (.tup xs)) : SqT K H a xs := .inl (.inl h)
theorem atI_in {xs : List V} {z : Int} (h0 : 0 ≤ z) (h1 : z < (xs.length : Int)) : ∃ v, xs[z.toNat]? = some v ∧ atI xs z = some v := by
  have hj : z.toNat < xs.length := by omega
  exact ⟨xs[z.toNat], List.getElem?_eq_getElem hj, at_of (j := z.toNat) (by omega) (List.getElem?_eq_getElem hj)⟩
/-! ### a list filled by drawing: D holds what is made so far -/
def Kp3 (p l D : Addr) (Ha Hb : Hp) : Prop := ∀ b o, Ha b = some o → b ≠ p → b ≠ l → b ≠ D → Hb b = some o
structure Acc (p l D : Addr) (H0 : Hp) (F : V → Hp → Prop) (i : Nat) (H : Hp) : Prop where
  ex : ∃ acc : List V, H D = some (.lst acc) ∧ acc.length = i ∧ ∀ v, v ∈ acc → F v H
  at_ : HAt H p l
  keep : Keep p l H0 H
def Fmono (p l D : Addr) (F : V → Hp → Prop) : Prop := ∀ v Ha Hb, HAt Ha p l → (∃ acc, Ha D = some (.lst acc)) → Kp3 p l D Ha Hb → F v Ha → F v Hb
theorem Acc.start {p l D : Addr} {H0 H : Hp} {F : V → Hp → Prop} (h : HAt H p l) (k : Keep p l H0 H) (hD : H D = none) : Acc p l D H0 F 0 (upd H D (.lst [])) :=
  ⟨⟨[], upd_same, rfl, fun v h => by cases h⟩, h.new hD, k.new hD⟩
theorem Acc.step {p l D : Addr} {H0 H H3 : Hp} {F : V → Hp → Prop} {i : Nat} {v : V} (A : Acc p l D H0 F i H) (m : Fmono p l D F) (np : D ≠ p) (nl : D ≠ l) (h0 : H0 D = none) (hi : i ≤ 500) (h3 : HAt H3 p l) (k3 : Keep p l H H3) (new : F v H3) :
    ∃ acc, H3 D = some (.lst acc) ∧ acc.length < sizeLine ∧ Acc p l D H0 F (i + 1) (upd H3 D (.lst (acc ++ [v]))) := by
  obtain ⟨⟨acc, e1, e2, e3⟩, h, k⟩ := A
  have e4 := k3 _ _ e1 np nl
  refine ⟨acc, e4, small1000 (by omega), ⟨acc ++ [v], upd_same, by rw [List.length_append, e2]; rfl, fun x hx => ?_⟩, h3.over np nl, (k.trans k3).over h0⟩
  have up : Kp3 p l D H3 (upd H3 D (.lst (acc ++ [v]))) := fun b o e _ _ n => by rw [upd_ne n]; exact e
  rcases List.mem_append.mp hx with hx | hx
  · exact m x H _ h ⟨acc, e1⟩ (fun b o e n1 n2 n3 => up b o (k3 b o e n1 n2) n1 n2 n3) (e3 x hx)
  · have ex : x = v := by simpa using hx
    subst ex
    exact m x H3 _ h3 ⟨acc, e4⟩ up new
theorem kp3_tup {K : PySem.W.Frag} {p l D a : Addr} {H H' : Hp} {xs : List V} (hh : HAt H p l) (hD : ∃ acc, H D = some (.lst acc)) (s : Kp3 p l D H H') (h : SqT K H a xs) : SqT K H' a xs := by
  obtain ⟨m, t, ns, h1, h2, _⟩ := hh
  obtain ⟨acc, h3⟩ := hD
  rcases h with (h | ⟨o, h⟩) | h
  · refine .inl (.inl (s _ _ h (fun e => ?_) (fun e => ?_) (fun e => ?_)))
    · rw [e, h1] at h; cases h
    · rw [e, h2] at h; cases h
    · rw [e, h3] at h; cases h
  · refine .inl (.inr ⟨o, s _ _ h (fun e => ?_) (fun e => ?_) (fun e => ?_)⟩)
    · rw [e, h1] at h; cases h
    · rw [e, h2] at h; cases h
    · rw [e, h3] at h; cases h
  · exact .inr h
theorem kp3_row {K : PySem.W.Frag} {p l D : Addr} {H H' : Hp} {v : V} {r : Rw} (hh : HAt H p l) (hD : ∃ acc, H D = some (.lst acc)) (s : Kp3 p l D H H') (h : RowAt K H v r) : RowAt K H' v r := by
  obtain ⟨a, e, q⟩ := h
  exact ⟨a, e, kp3_tup hh hD s q⟩
theorem ints_of {P : Int → Prop} : ∀ {acc : List V}, (∀ v, v ∈ acc → ∃ z, v = .int z ∧ P z) → ∃ ns : List Int, acc = ns.map V.int ∧ ∀ z, z ∈ ns → P z
  | [], _ => ⟨[], rfl, fun z h => by cases h⟩
  | v :: r, h => by
    obtain ⟨z, e, hz⟩ := h v (List.mem_cons_self ..)
    obtain ⟨ns, e2, h2⟩ := ints_of (acc := r) fun x hx => h x (List.mem_cons_of_mem _ hx)
    refine ⟨z :: ns, by rw [e, e2]; rfl, fun y hy => ?_⟩
    rcases List.mem_cons.mp hy with q | q
    · rw [q]; exact hz
    · exact h2 y q
theorem fmono_int {p l D : Addr} {P : Int → Prop} : Fmono p l D fun v _ => ∃ z, v = .int z ∧ P z := fun _ _ _ _ _ _ h => h
theorem if_t {b : Bool} {A B : Prop} (e : b = true) (h : A) : if b = true then A else B := by rw [e]; exact iteT h
theorem if_f {b : Bool} {A B : Prop} (e : b = false) (h : B) : if b = true then A else B := by rw [e]; exact iteF h
theorem merge3 (a b c : Str) (x y z : V) (j : Str) : valV (mergeK [] [(Sum.inr a, x), (Sum.inr b, y), (Sum.inr c, z)]) (Sum.inr j) = if j = c then some z else if j = b then some y else if j = a then some x else none := by
  show valV (putK (putK (putK [] (Sum.inr a) x) (Sum.inr b) y) (Sum.inr c) z) (Sum.inr j) = _
  rw [valV_put, valV_put, valV_put, valV_nil]
  simp only [Sum.inr.injEq]
theorem merge2 (a b : Str) (x y : V) (j : Str) : valV (mergeK [] [(Sum.inr a, x), (Sum.inr b, y)]) (Sum.inr j) = if j = b then some y else if j = a then some x else none := by
  show valV (putK (putK [] (Sum.inr a) x) (Sum.inr b) y) (Sum.inr j) = _
  rw [valV_put, valV_put, valV_nil]
  simp only [Sum.inr.injEq]
theorem at4 {α : Type} {a0 a1 a2 a3 : α} {z : Int} (h0 : 0 ≤ z) (h1 : z < 4) : ∃ v, (v = a0 ∨ v = a1 ∨ v = a2 ∨ v = a3) ∧ atI [a0, a1, a2, a3] z = some v := by
  have e : z = 0 ∨ z = 1 ∨ z = 2 ∨ z = 3 := by omega
  rcases e with rfl | rfl | rfl | rfl
  · exact ⟨a0, .inl rfl, rfl⟩
  · exact ⟨a1, .inr (.inl rfl), rfl⟩
  · exact ⟨a2, .inr (.inr (.inl rfl)), rfl⟩
  · exact ⟨a3, .inr (.inr (.inr rfl)), rfl⟩
theorem at3 {α : Type} {a0 a1 a2 : α} {z : Int} (h0 : 0 ≤ z) (h1 : z < 3) : ∃ v, (v = a0 ∨ v = a1 ∨ v = a2) ∧ atI [a0, a1, a2] z = some v := by
  have e : z = 0 ∨ z = 1 ∨ z = 2 := by omega
  rcases e with rfl | rfl | rfl
  · exact ⟨a0, .inl rfl, rfl⟩
  · exact ⟨a1, .inr (.inl rfl), rfl⟩
  · exact ⟨a2, .inr (.inr rfl), rfl⟩
theorem le8_of {x : Int} : 0 ≤ x % 8 ∧ x % 8 < 8 := ⟨Int.emod_nonneg _ (by decide), Int.emod_lt_of_pos _ (by decide)⟩
theorem at15 {α : Type} {a0 a1 a2 a3 a4 a5 a6 a7 a8 a9 aa ab ac ad ae : α} {z : Int} (h0 : 0 ≤ z) (h1 : z < 15) : ∃ v, v ∈ [a0, a1, a2, a3, a4, a5, a6, a7, a8, a9, aa, ab, ac, ad, ae] ∧ atI [a0, a1, a2, a3, a4, a5, a6, a7, a8, a9, aa, ab, ac, ad, ae] z = some v := by
  have hj : z.toNat < [a0, a1, a2, a3, a4, a5, a6, a7, a8, a9, aa, ab, ac, ad, ae].length := by
    show z.toNat < 15
    omega
  refine ⟨_, List.getElem_mem hj, ?_⟩
  have e : z = ((z.toNat : Nat) : Int) := by omega
  have q := atI_nat (List.getElem?_eq_getElem hj)
  rw [← e] at q
  exact q
end LB
namespace LB
open PySem L2
def top (i : Nat) : Stmt := PySem.Challenge.pw_lateboxes_k03_runs_beat_by_beat.main.body.getD i (.Pass ⟨0, 0, 0, 0⟩)
abbrev s_BadProgram___init__ : Stmt := inClass (top 2) 0
abbrev sWhole : Stmt := top 15
abbrev sMost : Stmt := top 16
abbrev sRow : Stmt := top 17
abbrev s_first_flaw : Stmt := top 18
abbrev sChkP : Stmt := top 19
abbrev sChkM : Stmt := top 20
abbrev sMade : Stmt := top 21
abbrev sLate : Stmt := top 22
abbrev sMInit : Stmt := inClass (top 25) 0
abbrev sDoRow : Stmt := inClass (top 25) 1
abbrev sBegin : Stmt := inClass (top 25) 2
abbrev sSend : Stmt := inClass (top 25) 3
abbrev sCellOf : Stmt := inClass (top 25) 4
abbrev sWorth : Stmt := inClass (top 25) 5
abbrev sReck : Stmt := top 26
abbrev sChkC : Stmt := top 27
abbrev sChkF : Stmt := top 28
abbrev sEnding : Stmt := top 29
abbrev sRun : Stmt := top 30
abbrev sMix : Stmt := top 32
abbrev sNext : Stmt := top 33
abbrev sAlike : Stmt := top 34
abbrev sMill : Stmt := top 35
abbrev sNumber : Stmt := top 36
abbrev sBoxes : Stmt := top 37
abbrev sDeed : Stmt := top 38
abbrev sJump : Stmt := top 39
abbrev sPlain : Stmt := top 40
abbrev sCells : Stmt := top 41
abbrev sLLate : Stmt := top 42
abbrev sComes : Stmt := top 43
abbrev sLRun : Stmt := top 44
abbrev sLaw : Stmt := top 45
end LB
namespace LB
open PySem L2
section
variable {P : Program} {w : World} {K : PySem.W.Frag} {mg : Str → Option Value} {base : Heap}
def spMix (K : PySem.W.Frag) : Sp := fun vs H Q _ => ∃ (a : Addr) (ns : List Int) (z : Int), vs = [.ref a, .int z] ∧ SqL K H a (ns.map V.int) ∧ ns.length ≤ 63 ∧ 0 ≤ z ∧ z < 1000 ∧
  ∀ p l H', Same H H' → H p = none → H l = none → HAt H' p l → Q (.ref p) H'
theorem scMix : FnScope ["_law_script", "_law_seed", "_law_mixed", "_law_cell"] ["_law_script", "_law_seed"] (defScope sMix) := ⟨rfl, rfl, rfl, by decide +kernel, rfl, by decide +kernel, by decide +kernel⟩
theorem ok_mix {f : Addr} {fd : FuncData} (F : Fun K "_law_mix" "_law_mix" sMix f fd) (mL : mg "list" = none) : FnOk P w K mg base CX0 1 f fd ["_law_script", "_law_seed"] (spMix K) := by
  refine F.ok scMix (fun vs H Q E h => ?_) (fun cdv A outer s H vs Q E hr h => ?_)
  · obtain ⟨a, ns, z, rfl, _⟩ := h
    rfl
  · obtain ⟨a, ns, z, rfl, hS, hlen, hz0, hz1, k⟩ := h
    refine ⟨_, pss_cons (ps_set (i := 2) scMix.nd rfl (Or.inl rfl) (pv 1))
      (pss_cons (ps_for PassesOwn.never rfl (pi_list (pv 0)) (pg_name (i := 3) scMix.nd rfl (Or.inl rfl))
        (pss_one (ps_set (i := 2) scMix.nd rfl (Or.inl rfl) (pe_op op_mod (pe_op op_add (pe_op op_add (pe_op op_mul (pv 2) pe_int) (pe_op op_mod (pv 3) pe_int)) pe_int) pe_int))))
      (pss_one (ps_ret (pe_lst (pa_cons (pv 2) (pa_cons (pe_callTy call_list_of (by rfl) mL (by decide +kernel) (pa_cons (pv 0) pa_nil)) (pa_cons pe_int pa_nil))))))), ?_⟩
    refine ⟨_, rfl, _, rfl, a, rfl, ⟨_, hS⟩, for_list (K := K) (a := a) (xs := ns.map V.int) (fun i σ H' => ∃ (m : Int) (v : Option V), σ = [some (.ref a), some (.int z), some (.int m), v] ∧ H' = H ∧ 0 ≤ m ∧ m < 2147483647)
      ⟨z, none, rfl, rfl, hz0, by omega⟩ (fun i σ H' _ ⟨_, _, _, e, _⟩ => by rw [e]; exact hS) ?_ ?_⟩
    · rintro i y σ H' hi ⟨m, v, rfl, rfl, h0, h1⟩
      obtain ⟨u, _, rfl⟩ := map_get hi
      refine ⟨_, rfl, _, _, rfl, rfl, .inl ⟨by omega, by omega⟩, _, rfl, _, _, rfl, rfl, (by show (0 : Int) < 2147483629; decide), _, _, rfl, rfl, _, _, rfl, rfl, _, _, rfl, rfl, (by show (0 : Int) < 2147483647; decide), ?_⟩
      exact ⟨_, _, rfl, rfl, Int.emod_nonneg _ (by decide), Int.emod_lt_of_pos _ (by decide)⟩
    · rintro σ H' ⟨m, v, rfl, rfl, h0, h1⟩
      refine ⟨_, rfl, _, rfl, a, _, rfl, .inl hS, fun l hl => ?_⟩
      refine ⟨by show 3 ≤ sizeLine; decide, fun p hp => ?_⟩
      have npl : p ≠ l := (ne_of_none upd_same hp).symm
      have hp0 : H' p = none := by rw [upd_ne npl] at hp; exact hp
      exact k p l _ ((same_new hl _).trans (same_new hp _)) hp0 hl ⟨m, 0, ns, upd_same, by rw [upd_ne npl.symm, upd_same], h0, h1, hlen⟩
def spNext : Sp := fun vs H Q _ => ∃ (p l : Addr) (many : Int), vs = [.ref p, .int many] ∧ HAt H p l ∧ 0 < many ∧ many ≤ 100000 ∧
  ∀ k H', 0 ≤ k → k < many → HAt H' p l → Keep p l H H' → Q (.int k) H'
theorem scNext : FnScope ["_law_h", "_law_many", "_law_at", "_law_cell"] ["_law_h", "_law_many"] (defScope sNext) := ⟨rfl, rfl, rfl, by decide +kernel, rfl, by decide +kernel, by decide +kernel⟩
theorem ok_next {f : Addr} {fd : FuncData} (F : Fun K "_law_next" "_law_next" sNext f fd) (mM : mg "max" = none) (mL : mg "len" = none) : FnOk P w K mg base CX0 1 f fd ["_law_h", "_law_many"] spNext := by
  refine F.ok scNext (fun vs H Q E h => ?_) (fun cdv A outer s H vs Q E hr h => ?_)
  · obtain ⟨p, l, many, rfl, _⟩ := h
    rfl
  · obtain ⟨p, l, many, rfl, hH, hm0, hm1, k⟩ := h
    obtain ⟨m, t, ns, h1, h2, h3, h4, h5⟩ := id hH
    have npl := hH.ne
    refine ⟨_, pss_cons (ps_set (i := 2) scNext.nd rfl (Or.inl rfl) (pe_op op_modN (pe_ix ix_list (pv 0) pe_int (fun _ _ => rfl)) (pe_callB (call_max2 rfl) (by rfl) mM (by decide +kernel) (pa_cons pe_int (pa_cons (pe_callB call_len_seq (by rfl) mL PySem.boot_len (pa_cons (pe_ix ix_list (pv 0) pe_int (fun _ _ => rfl)) pa_nil)) pa_nil)))))
      (pss_cons (ps_set (i := 3) scNext.nd rfl (Or.inl rfl) (pe_ifExp (pt_cmpR (op_neD hr.units) (pe_ix ix_list (pv 0) pe_int (fun _ _ => rfl)) (pe_lst pa_nil) (nomark _)) (pe_ix ix_list (pe_ix ix_list (pv 0) pe_int (fun _ _ => rfl)) (pv 2) (fun _ _ => rfl)) pe_int))
      (pss_cons (ps_if (pt_cmpR op_ge (pv 3) (pe_op op_pow pe_int pe_int) (nomark _))
        (pss_cons (ps_asg (pe_op op_fdivN (pv 3) (pv 1)) (pg_sub (pe_ix ix_list (pv 0) pe_int (fun _ _ => rfl)) (pv 2) set_list))
        (pss_one (ps_ret (pe_op op_modN (pv 3) (pv 1))))) pss_nil)
      (pss_cons (ps_asg (pe_op op_mod (pe_op op_add (pe_op op_add (pe_op op_mul (pe_ix ix_list (pv 0) pe_int (fun _ _ => rfl)) pe_int) (pe_op op_mul (pv 3) pe_int)) pe_int) pe_int) (pg_sub (pv 0) pe_int set_list))
      (pss_cons (ps_asg (pe_op op_add (pe_ix ix_list (pv 0) pe_int (fun _ _ => rfl)) pe_int) (pg_sub (pv 0) pe_int set_list))
      (pss_one (ps_ret (pe_op op_modN (pe_op op_fdiv (pe_ix ix_list (pv 0) pe_int (fun _ _ => rfl)) pe_int) (pv 1)))))))), ?_⟩
    have i0 : atI [V.int m, V.ref l, V.int t] 0 = some (V.int m) := rfl
    have i1 : atI [V.int m, V.ref l, V.int t] 1 = some (V.ref l) := rfl
    have i2 : atI [V.int m, V.ref l, V.int t] 2 = some (V.int t) := rfl
    -- _law_at
    have hlen : (if (((ns.map V.int).length : Nat) : Int) > 1 then (((ns.map V.int).length : Nat) : Int) else 1) > 0 := by split <;> omega
    generalize hg : (if (((ns.map V.int).length : Nat) : Int) > 1 then (((ns.map V.int).length : Nat) : Int) else 1) = g at hlen
    refine ⟨_, rfl, p, _, _, _, rfl, rfl, SqL.of h1, i2, _, rfl, p, _, _, _, rfl, rfl, SqL.of h1, i1, l, _, rfl, .inl (SqL.of h2), _, _, rfl, ?_⟩
    rw [hg]
    refine ⟨_, _, rfl, rfl, by omega, ?_⟩
    have q0 : 0 ≤ t.fmod g := by rw [Int.fmod_eq_emod_of_nonneg _ (by omega)]; exact Int.emod_nonneg _ (by omega)
    have q1 : t.fmod g < g := by rw [Int.fmod_eq_emod_of_nonneg _ (by omega)]; exact Int.emod_lt_of_pos _ (by omega)
    -- _law_cell
    refine ⟨_, rfl, p, _, _, _, rfl, rfl, SqL.of h1, i1, by show 0 ≤ sizeLine; decide, fun n hn => ?_⟩
    have sn := same_new hn (.lst [])
    have h1' := sn _ _ h1
    have h2' := sn _ _ h2
    have kn : Keep p l H (upd H n (.lst [])) := .of_same sn
    refine ⟨_, _, Dp.ints (SqL.of h2'), Dp.ints (ns := []) (SqL.of upd_same), shaped_ints ns, shaped_ints [], _, rfl, ?_⟩
    refine if_cut (fun v H' => H' = upd H n (.lst []) ∧ ∃ c : Int, v = .int c ∧ (c ≥ 10 ^ 18 → (t.fmod g).toNat < ns.length)) (fun e Q' k' => ?_) (fun e Q' k' => ?_) ?_
    · rw [eqv_lists] at e
      have e' : ns ≠ [] := by simpa using e
      have hl : 0 < ns.length := List.length_pos_iff.mpr e'
      have hj : (t.fmod g).toNat < ns.length := by
        rw [List.length_map] at hg
        split at hg <;> omega
      refine ⟨_, rfl, p, _, _, _, rfl, rfl, SqL.of h1', i1, _, rfl, l, _, _, _, rfl, rfl, SqL.of h2', at_of (j := (t.fmod g).toNat) (v := V.int ns[(t.fmod g).toNat]) (by omega) (by rw [List.getElem?_map, List.getElem?_eq_getElem hj]; rfl), ?_⟩
      exact k' _ _ ⟨rfl, _, rfl, fun _ => hj⟩
    · exact k' _ _ ⟨rfl, 0, rfl, fun h => absurd h (by decide)⟩
    rintro v _ ⟨rfl, c, rfl, hc⟩
    -- if _law_cell >= 10 ** 18
    refine ⟨_, rfl, _, _, rfl, rfl, ⟨by decide, by decide, by decide⟩, _, _, rfl, rfl, _, rfl, if_both (fun e => ?_) (fun e => ?_)⟩
    · have hj := hc (of_decide_eq_true e)
      refine ⟨_, rfl, _, rfl, _, _, rfl, rfl, ⟨by omega, by omega⟩, _, rfl, p, _, _, _, rfl, rfl, SqL.of h1', i1, _, rfl, l, _, _, (t.fmod g).toNat, rfl, rfl, h2', ?_, ?_⟩
      · unfold ixN
        rw [List.length_map, if_pos q0, if_pos (by omega)]
      · refine ⟨_, rfl, _, rfl, _, _, rfl, rfl, by omega, ?_⟩
        refine k _ _ (by rw [Int.fmod_eq_emod_of_nonneg _ (by omega)]; exact Int.emod_nonneg _ (by omega)) (by rw [Int.fmod_eq_emod_of_nonneg _ (by omega)]; exact Int.emod_lt_of_pos _ (by omega)) ⟨m, t, _, by rw [upd_ne npl]; exact h1', by rw [upd_same, set_ints], h3, h4, by rw [List.length_set]; exact h5⟩ ?_
        exact fun b o e1 n1 n2 => by rw [upd_ne n2]; exact sn _ _ e1
    · refine ⟨_, rfl, p, _, _, _, rfl, rfl, SqL.of h1', i0, _, _, rfl, rfl, .inr ⟨by decide, by decide⟩, _, rfl, _, _, rfl, rfl, .inr ⟨by decide, by decide⟩, _, _, rfl, rfl, _, _, rfl, rfl, _, _, rfl, rfl, (by show (0 : Int) < 2147483647; decide), _, rfl, p, _, _, 0, rfl, rfl, h1', rfl, ?_⟩
      have b0 : 0 ≤ (m * 48271 + c * 69621 + 11) % 2147483647 := by exact Int.emod_nonneg _ (by decide)
      have b1 : (m * 48271 + c * 69621 + 11) % 2147483647 < 2147483647 := by exact Int.emod_lt_of_pos _ (by decide)
      refine ⟨_, rfl, p, _, _, _, rfl, rfl, SqL.of upd_same, (rfl : atI [V.int ((m * 48271 + c * 69621 + 11) % 2147483647), V.ref l, V.int t] 2 = some (V.int t)), _, _, rfl, rfl, _, rfl, p, _, _, 2, rfl, rfl, upd_same, rfl, ?_⟩
      refine ⟨_, rfl, p, _, _, _, rfl, rfl, SqL.of upd_same, (rfl : atI [V.int ((m * 48271 + c * 69621 + 11) % 2147483647), V.ref l, V.int (t + 1)] 0 = some (V.int ((m * 48271 + c * 69621 + 11) % 2147483647))), _, _, rfl, rfl, ⟨by decide, by decide⟩, _, rfl, _, _, rfl, rfl, by omega, ?_⟩
      refine k _ _ (by rw [Int.fmod_eq_emod_of_nonneg _ (by omega)]; exact Int.emod_nonneg _ (by omega)) (by rw [Int.fmod_eq_emod_of_nonneg _ (by omega)]; exact Int.emod_lt_of_pos _ (by omega)) ⟨_, t + 1, ns, upd_same, by rw [upd_ne npl.symm, upd_ne npl.symm]; exact h2', b0, b1, h5⟩ ?_
      exact fun b o e1 n1 n2 => by rw [upd_ne n1, upd_ne n1]; exact sn _ _ e1
end
end LB
namespace LB
open PySem L2
section
variable {P : Program} {w : World} {K : PySem.W.Frag} {mg : Str → Option Value} {base : Heap}
abbrev psN : List Str := ["_law_h", "_law_many"]
/-- a number drawn -/
def spNumber : Sp := fun vs H Q _ => ∃ (p l : Addr), vs = [.ref p] ∧ HAt H p l ∧ ∀ k H', 0 ≤ k → k < 1000 → HAt H' p l → Keep p l H H' → Q (.int k) H'
theorem scNumber : FnScope ["_law_h"] ["_law_h"] (defScope sNumber) := ⟨rfl, rfl, rfl, by decide +kernel, rfl, by decide +kernel, by decide +kernel⟩
theorem ok_number {f : Addr} {fd : FuncData} (F : Fun K "_law_number" "_law_number" sNumber f fd) (N : Cal P w K mg base 1 "_law_next" psN spNext) : FnOk P w K mg base CX0 2 f fd ["_law_h"] spNumber := by
  refine F.ok scNumber (fun vs H Q E h => ?_) (fun cdv A outer s H vs Q E hr h => ?_)
  · obtain ⟨p, l, rfl, _⟩ := h
    rfl
  · obtain ⟨p, l, rfl, hH, k⟩ := h
    refine ⟨_, pss_one (ps_ret (pe_ix ix_list (pe_lst (pa_cons (pe_cal N hr (pa_cons (pv 0) (pa_cons pe_int pa_nil))) (pa_cons (pe_cal N hr (pa_cons (pv 0) (pa_cons pe_int pa_nil))) pa_nil))) (pe_cal N hr (pa_cons (pv 0) (pa_cons pe_int pa_nil))) (fun _ _ => rfl))), ?_⟩
    refine ⟨_, rfl, p, l, 4, rfl, hH, by decide, by decide, fun a H1 a0 a1 h1 k1 => ?_⟩
    refine ⟨_, rfl, p, l, 1000, rfl, h1, by decide, by decide, fun b H2 b0 b1 h2 k2 => ?_⟩
    refine ⟨by show 2 ≤ sizeLine; decide, fun d hd => ?_⟩
    refine ⟨_, rfl, p, l, 2, rfl, h2.new hd, by decide, by decide, fun c H3 c0 c1 h3 k3 => ?_⟩
    have hd3 : H3 d = some (.lst [.int a, .int b]) := k3 _ _ upd_same (fun e => by obtain ⟨m, t, ns, q, _⟩ := h2; rw [e, q] at hd; cases hd) (fun e => by obtain ⟨m, t, ns, _, q, _⟩ := h2; rw [e, q] at hd; cases hd)
    have kk : Keep p l H H3 := (k1.trans k2).trans ((Keep.of_same (same_new hd _)).trans k3)
    by_cases e : c = 0
    · subst e
      exact ⟨d, _, _, .int a, rfl, rfl, SqL.of hd3, rfl, k a H3 a0 (by omega) h3 kk⟩
    · have e : c = 1 := by omega
      subst e
      exact ⟨d, _, _, .int b, rfl, rfl, SqL.of hd3, rfl, k b H3 b0 b1 h3 kk⟩
/-- a mill drawn -/
def MillAt (K : PySem.W.Frag) (H : Hp) (a : Addr) (ms : List Int) : Prop := SqT K H a (ms.map V.int)
def MillOk (ms : List Int) : Prop := ∃ p g t j : Int, ms = [p, g, t, j] ∧ (0 ≤ p ∧ p ≤ 2) ∧ (0 ≤ g ∧ g ≤ 4) ∧ (0 ≤ t ∧ t ≤ 4) ∧ (0 ≤ j ∧ j ≤ 3)
def spMill (K : PySem.W.Frag) : Sp := fun vs H Q _ => ∃ (p l : Addr), vs = [.ref p] ∧ HAt H p l ∧ ∀ a ms H', MillAt K H' a ms → MillOk ms → HAt H' p l → Keep p l H H' → Q (.ref a) H'
theorem scMill : FnScope ["_law_h", "_law_turn", "_law_most"] ["_law_h"] (defScope sMill) := ⟨rfl, rfl, rfl, by decide +kernel, rfl, by decide +kernel, by decide +kernel⟩
theorem ok_mill {f : Addr} {fd : FuncData} (F : Fun K "_law_mill" "_law_mill" sMill f fd) (N : Cal P w K mg base 1 "_law_next" psN spNext) (B : Bl mg) : FnOk P w K mg base CX0 2 f fd ["_law_h"] (spMill K) := by
  refine F.ok scMill (fun vs H Q E h => ?_) (fun cdv A outer s H vs Q E hr h => ?_)
  · obtain ⟨p, l, rfl, _⟩ := h
    rfl
  · obtain ⟨p, l, rfl, hH, k⟩ := h
    refine ⟨_, pss_cons (ps_set (i := 1) scMill.nd rfl (Or.inl rfl) (pe_cal N hr (pa_cons (pv 0) (pa_cons pe_int pa_nil))))
      (pss_cons (ps_if (pt_cmpR op_lt (pv 1) pe_int (nomark _)) (pss_one (ps_ret (pe_ix ix_list (pe_lst (pa_cons (pe_tup (pa_cons pe_int (pa_cons pe_int (pa_cons pe_int (pa_cons pe_int pa_nil))))) (pa_cons (pe_tup (pa_cons pe_int (pa_cons pe_int (pa_cons pe_int (pa_cons pe_int pa_nil))))) pa_nil))) (pv 1) (fun _ _ => rfl)))) pss_nil)
      (pss_one (ps_ret (pe_callTy call_tuple_of (by rfl) B.tuple (by decide +kernel) (pa_cons
        (pe_lc (own := [("_law_most", 2)]) (g := gName 2) (by rfl) scMill.nd (pi_tup (pe_tup (pa_cons pe_int (pa_cons pe_int (pa_cons pe_int (pa_cons pe_int pa_nil)))))) (blkOk_by (own := [("_law_most", 2)]) (N := ["_law_h", "_law_turn", "_law_most"]) (sc := defScope sMill) (by decide +kernel))
          (fun _ _ _ _ _ => pg_name (i := 2) scMill.nd rfl (Or.inl rfl)) (fun _ _ _ _ _ => pts_nil) (fun _ _ _ _ _ => pe_cal N hr (pa_cons (pv 0) (pa_cons (pe_op op_add (pv 2) pe_int) pa_nil)))) pa_nil))))), ?_⟩
    refine ⟨_, rfl, p, l, 9, rfl, hH, by decide, by decide, fun c H1 c0 c1 h1 k1 => ?_⟩
    refine ⟨_, rfl, _, _, rfl, rfl, _, rfl, if_both (fun e => ?_) (fun e => ?_)⟩
    · have e' : c < 2 := of_decide_eq_true e
      refine ⟨by show 4 ≤ sizeLine; decide, fun a ha => ⟨by show 4 ≤ sizeLine; decide, fun b hb => ⟨by show 2 ≤ sizeLine; decide, fun d hd => ?_⟩⟩⟩
      have h2 := ((h1.new (o := .tup [.int 0, .int 0, .int 0, .int 0]) ha).new (o := .tup [.int 2, .int 4, .int 4, .int 3]) hb).new (o := .lst [.ref a, .ref b]) hd
      have k2 := ((k1.new (o := .tup [.int 0, .int 0, .int 0, .int 0]) ha).new (o := .tup [.int 2, .int 4, .int 4, .int 3]) hb).new (o := .lst [.ref a, .ref b]) hd
      have ab : a ≠ b := ne_of_none upd_same hb
      have bd : b ≠ d := ne_of_none upd_same hd
      have ad : a ≠ d := ne_of_none (by rw [upd_ne ab, upd_same]) hd
      have ec : c = 0 ∨ c = 1 := by omega
      rcases ec with rfl | rfl
      · refine ⟨_, rfl, d, _, _, .ref a, rfl, rfl, SqL.of upd_same, rfl, k a [0, 0, 0, 0] _ (tup_of (by rw [upd_ne ad, upd_ne ab, upd_same]; rfl)) ⟨0, 0, 0, 0, rfl, by omega, by omega, by omega, by omega⟩ h2 k2⟩
      · refine ⟨_, rfl, d, _, _, .ref b, rfl, rfl, SqL.of upd_same, rfl, k b [2, 4, 4, 3] _ (tup_of (by rw [upd_ne bd, upd_same]; rfl)) ⟨2, 4, 4, 3, rfl, by omega, by omega, by omega, by omega⟩ h2 k2⟩
    · refine ⟨by show 4 ≤ sizeLine; decide, fun a ha => ⟨a, rfl, ⟨_, tup_of upd_same⟩, fun D hD => ?_⟩⟩
      have k2 := k1.new (o := .tup [.int 2, .int 4, .int 4, .int 3]) ha
      have hD1 : H1 D = none := by rw [upd_ne (ne_of_none upd_same hD).symm] at hD; exact hD
      have hD0 : H D = none := k1.free h1 hD1
      have aD : a ≠ D := ne_of_none upd_same hD
      have hp : D ≠ p := (h1.new ha).nep hD
      have hl : D ≠ l := (h1.new ha).nel hD
      refine lc_tup (K := K) (xs := [.int 2, .int 4, .int 4, .int 3]) (fun i H' => ∃ acc : List Int, H' D = some (.lst (acc.map V.int)) ∧ acc.length = i ∧ (∀ (j : Nat) (z m : Int), acc[j]? = some z → [(2 : Int), 4, 4, 3][j]? = some m → 0 ≤ z ∧ z ≤ m) ∧ HAt H' p l ∧ Keep p l H H' ∧ H' a = some (.tup [.int 2, .int 4, .int 4, .int 3]))
        ⟨[], upd_same, rfl, fun j z m e => by simp at e, (h1.new ha).over hp hl, k2.over hD0, by rw [upd_ne aD, upd_same]⟩ (fun i H' _ ⟨_, _, _, _, _, _, q⟩ => tup_of q) ?_ ?_
      · rintro i x H' hx ⟨acc, e1, e2, e3, e4, e5, e6⟩
        obtain ⟨m, hm, rfl, m0, m1⟩ : ∃ m : Int, [(2 : Int), 4, 4, 3][i]? = some m ∧ x = .int m ∧ 0 ≤ m ∧ m < 10 := by
          match i, hx with
          | 0, hx => exact ⟨2, rfl, (Option.some.inj hx).symm, by omega, by omega⟩
          | 1, hx => exact ⟨4, rfl, (Option.some.inj hx).symm, by omega, by omega⟩
          | 2, hx => exact ⟨4, rfl, (Option.some.inj hx).symm, by omega, by omega⟩
          | 3, hx => exact ⟨3, rfl, (Option.some.inj hx).symm, by omega, by omega⟩
        refine ⟨rfl, yes_if ?_⟩
        refine ⟨_, rfl, _, rfl, _, _, rfl, rfl, p, l, m + 1, rfl, e4, by omega, by omega, fun z H3 z0 z1 h3 k3 => ?_⟩
        refine ⟨acc.map V.int, k3 _ _ e1 hp hl, small1000 (by rw [List.length_map]; have := (List.getElem?_eq_some_iff.mp hm).1; simp at this; omega), acc ++ [z], ?_, by rw [List.length_append, e2]; rfl, ?_, h3.over hp hl, (e5.trans k3).over hD0, ?_⟩
        · rw [upd_same, List.map_append]; rfl
        · intro j y m' ey em
          by_cases hj : j < acc.length
          · rw [List.getElem?_append_left hj] at ey
            exact e3 j y m' ey em
          · have hj2 : j = i := by
              have := (List.getElem?_eq_some_iff.mp ey).1
              rw [List.length_append, List.length_singleton] at this
              omega
            subst hj2
            rw [← e2, List.getElem?_concat_length] at ey
            have e8 := Option.some.inj ey
            have e9 := Option.some.inj (em.symm.trans hm)
            omega
        · rw [upd_ne aD]; exact k3 _ _ e6 (h1.nep ha) (h1.nel ha)
      · rintro H' ⟨acc, e1, e2, e3, e4, e5, e6⟩
        refine ⟨D, _, rfl, .inl ⟨SqL.of e1, fun T hT => ?_⟩⟩
        match acc, e2, e3 with
        | [x0, x1, x2, x3], _, e3 =>
          refine k T [x0, x1, x2, x3] _ (tup_of upd_same) ⟨x0, x1, x2, x3, rfl, e3 0 _ _ rfl rfl, e3 1 _ _ rfl rfl, e3 2 _ _ rfl rfl, e3 3 _ _ rfl rfl⟩ (e4.new hT) (e5.new hT)
end
end LB
namespace LB
open PySem L2
section
variable {P : Program} {w : World} {K : PySem.W.Frag} {mg : Str → Option Value} {base : Heap}
/-- which boxes rows use -/
def BxAt (K : PySem.W.Frag) (H : Hp) (e : Addr) : Prop := ∃ c n : Int, SqT K H e [.int c, .int n] ∧ 0 ≤ c ∧ c < 8 ∧ 1 ≤ n ∧ n ≤ 8
def spBoxes (K : PySem.W.Frag) : Sp := fun vs H Q _ => ∃ (p l : Addr), vs = [.ref p] ∧ HAt H p l ∧ ∀ e H', BxAt K H' e → HAt H' p l → Keep p l H H' → Q (.ref e) H'
theorem scBoxes : FnScope ["_law_h"] ["_law_h"] (defScope sBoxes) := ⟨rfl, rfl, rfl, by decide +kernel, rfl, by decide +kernel, by decide +kernel⟩
theorem ok_boxes {f : Addr} {fd : FuncData} (F : Fun K "_law_boxes" "_law_boxes" sBoxes f fd) (N : Cal P w K mg base 1 "_law_next" psN spNext) : FnOk P w K mg base CX0 2 f fd ["_law_h"] (spBoxes K) := by
  refine F.ok scBoxes (fun vs H Q E h => ?_) (fun cdv A outer s H vs Q E hr h => ?_)
  · obtain ⟨p, l, rfl, _⟩ := h
    rfl
  · obtain ⟨p, l, rfl, hH, k⟩ := h
    refine ⟨_, pss_one (ps_ret (pe_tup (pa_cons (pe_cal N hr (pa_cons (pv 0) (pa_cons pe_int pa_nil))) (pa_cons (pe_ix ix_list (pe_lst (pa_cons pe_int (pa_cons pe_int (pa_cons pe_int pa_nil)))) (pe_cal N hr (pa_cons (pv 0) (pa_cons pe_int pa_nil))) (fun _ _ => rfl)) pa_nil)))), ?_⟩
    refine ⟨_, rfl, p, l, 8, rfl, hH, by decide, by decide, fun a H1 a0 a1 h1 k1 => ?_⟩
    refine ⟨by show 3 ≤ sizeLine; decide, fun d hd => ?_⟩
    refine ⟨_, rfl, p, l, 3, rfl, h1.new hd, by decide, by decide, fun c H3 c0 c1 h3 k3 => ?_⟩
    have hd3 : H3 d = some (.lst [.int 2, .int 3, .int 8]) := k3 _ _ upd_same (h1.nep hd) (h1.nel hd)
    have kk : Keep p l H H3 := (k1.new hd).trans k3
    obtain ⟨n, hn, n0, n1⟩ : ∃ n : Int, atI [V.int 2, V.int 3, V.int 8] c = some (.int n) ∧ 1 ≤ n ∧ n ≤ 8 := by
      have ec : c = 0 ∨ c = 1 ∨ c = 2 := by omega
      rcases ec with rfl | rfl | rfl
      · exact ⟨2, rfl, by decide, by decide⟩
      · exact ⟨3, rfl, by decide, by decide⟩
      · exact ⟨8, rfl, by decide, by decide⟩
    refine ⟨d, _, _, _, rfl, rfl, SqL.of hd3, hn, by show 2 ≤ sizeLine; decide, fun t ht => ?_⟩
    exact k t _ ⟨a, n, tup_of upd_same, a0, a1, n0, n1⟩ (h3.new ht) (kk.new ht)
/-- a row that goes nowhere -/
def spDeed (K : PySem.W.Frag) : Sp := fun vs H Q _ => ∃ (p l e : Addr), vs = [.ref p, .ref e] ∧ HAt H p l ∧ BxAt K H e ∧ ∀ v r H', RowAt K H' v r → (∀ many, r.ok many) → r.leaves = false → HAt H' p l → Keep p l H H' → Q v H'
abbrev psD : List Str := ["_law_h", "_law_e"]
abbrev nsDeed : List Str := ["_law_h", "_law_e", "_law_words", "_law_word", "_law_b", "_law_c", "_law_d", "_law_k"]
theorem scDeed : FnScope nsDeed psD (defScope sDeed) := ⟨rfl, rfl, rfl, by decide +kernel, rfl, by decide +kernel, by decide +kernel⟩
abbrev deedWords : List V := [.str "put", .str "put", .str "move", .str "add", .str "add", .str "take", .str "times", .str "times", .str "get", .str "get", .str "set", .str "set", .str "say", .str "say"]
theorem ok_deed {f : Addr} {fd : FuncData} (F : Fun K "_law_deed" "_law_deed" sDeed f fd) (N : Cal P w K mg base 1 "_law_next" psN spNext) (M : Cal P w K mg base 2 "_law_number" ["_law_h"] spNumber) (B : Bl mg) : FnOk P w K mg base CX0 3 f fd psD (spDeed K) := by
  refine F.ok scDeed (fun vs H Q E h => ?_) (fun cdv A outer s H vs Q E hr h => ?_)
  · obtain ⟨p, l, e, rfl, _⟩ := h
    rfl
  · obtain ⟨p, l, e, rfl, hH, hE, k⟩ := h
    have hr1 : Room 1 _ := hr.mono (by decide)
    refine ⟨_, pss_cons (ps_set (i := 2) scDeed.nd rfl (Or.inl rfl) (pe_lst (pa_cons pe_str (pa_cons pe_str (pa_cons pe_str (pa_cons pe_str (pa_cons pe_str (pa_cons pe_str (pa_cons pe_str (pa_cons pe_str (pa_cons pe_str (pa_cons pe_str (pa_cons pe_str (pa_cons pe_str (pa_cons pe_str (pa_cons pe_str pa_nil))))))))))))))))
      (pss_cons (ps_set (i := 3) scDeed.nd rfl (Or.inl rfl) (pe_ix ix_list (pe_op op_cat (pv 2) (pe_lst (pa_cons pe_str pa_nil))) (pe_cal N hr1 (pa_cons (pv 0) (pa_cons pe_int pa_nil))) (fun _ _ => rfl)))
      (pss_cons (ps_asg (pe_lc (own := [("_law_k", 7)]) (g := gName 7) (by rfl) scDeed.nd (pi_range1 (by rfl) B.range (pa_cons pe_int pa_nil)) (blkOk_by (own := [("_law_k", 7)]) (N := nsDeed) (sc := defScope sDeed) (by decide +kernel))
          (fun _ _ _ _ _ => pg_name (i := 7) scDeed.nd rfl (Or.inl rfl)) (fun _ _ _ _ _ => pts_nil) (fun _ _ _ _ _ => pe_op op_mod (pe_op op_add (pe_ix (show IxR _ (rIxT K) from ix_tup) (pv 1) pe_int (fun _ _ => rfl)) (pe_cal N hr1 (pa_cons (pv 0) (pa_cons (pe_ix (show IxR _ (rIxT K) from ix_tup) (pv 1) pe_int (fun _ _ => rfl)) pa_nil)))) pe_int))
          (pg_unl (by rfl) (pgs_cons (pg_name (i := 4) scDeed.nd rfl (Or.inl rfl)) (pgs_cons (pg_name (i := 5) scDeed.nd rfl (Or.inl rfl)) (pgs_cons (pg_name (i := 6) scDeed.nd rfl (Or.inl rfl)) pgs_nil)))))
      (pss_cons (ps_if (pt_cmpR op_in_seq (pv 3) (pe_tup (pa_cons pe_str (pa_cons pe_str (pa_cons pe_str pa_nil)))) (by rfl)) (pss_one (ps_ret (pe_tup (pa_cons (pv 3) (pa_cons (pv 4) (pa_cons (pv 5) (pa_cons (pv 6) pa_nil))))))) pss_nil)
      (pss_one (ps_ret (pe_dget2 (hu_of hr) (pe_disp (pps_cons pe_str (pe_tup (pa_cons (pv 3) (pa_cons (pv 4) (pa_cons (pe_cal M hr (pa_cons (pv 0) pa_nil)) pa_nil)))) (pps_cons pe_str (pe_tup (pa_cons (pv 3) (pa_cons (pv 5) pa_nil))) (pps_cons pe_str (pe_tup (pa_cons (pv 3) pa_nil)) pps_nil))) (by rfl) (by rfl) (fun z => by cases z) (by decide))
          (pv 3) (pe_tup (pa_cons (pv 3) (pa_cons (pv 4) (pa_cons (pv 5) pa_nil)))) ⟨by rfl, by rfl, by rfl, by rfl⟩)))))), ?_⟩
    refine ⟨by show 14 ≤ sizeLine; decide, fun wl hwl => ?_⟩
    have h1 := hH.new (o := .lst deedWords) hwl
    have k1 := (Keep.refl p l H).new (o := .lst deedWords) hwl
    refine ⟨_, rfl, by show 1 ≤ sizeLine; decide, fun rl hrl => ?_⟩
    have h2 := h1.new (o := .lst [.str "rest"]) hrl
    have k2 := k1.new (o := .lst [.str "rest"]) hrl
    have nwr : wl ≠ rl := ne_of_none upd_same hrl
    refine ⟨wl, rl, deedWords, [.str "rest"], rfl, rfl, by rw [upd_ne nwr, upd_same], upd_same, by show 15 ≤ sizeLine; decide, fun cl hcl => ?_⟩
    have h3 := h2.new (o := .lst (deedWords ++ [.str "rest"])) hcl
    have k3 := k2.new (o := .lst (deedWords ++ [.str "rest"])) hcl
    refine ⟨_, rfl, p, l, 15, rfl, h3, by decide, by decide, fun wi H4 w0 w1 h4 k4 => ?_⟩
    have kk4 := k3.trans k4
    have hc4 : H4 cl = some (.lst (deedWords ++ [.str "rest"])) := k4 _ _ upd_same (h2.nep hcl) (h2.nel hcl)
    obtain ⟨wv, hwv, hat⟩ := at15 (a0 := V.str "put") (a1 := V.str "put") (a2 := V.str "move") (a3 := V.str "add") (a4 := V.str "add") (a5 := V.str "take") (a6 := V.str "times") (a7 := V.str "times") (a8 := V.str "get") (a9 := V.str "get") (aa := V.str "set") (ab := V.str "set") (ac := V.str "say") (ad := V.str "say") (ae := V.str "rest") w0 w1
    refine ⟨cl, _, _, wv, rfl, rfl, SqL.of hc4, hat, ?_⟩
    have hE4 : BxAt K H4 e := by
      obtain ⟨c, n, q, h⟩ := hE
      exact ⟨c, n, keep_tup hH kk4 q, h⟩
    -- _law_b, _law_c, _law_d
    refine ⟨3, rfl, by decide, by decide, fun D hD => ?_⟩
    have np := h4.nep hD
    have nl := h4.nel hD
    have hD0 : H D = none := kk4.free h4 hD
    refine lc_range (lo := 0) (n := 3) (fun i H' => Acc p l D H (fun v _ => ∃ z, v = .int z ∧ Bx z) i H') (Acc.start h4 kk4 hD) ?_ ?_
    · intro i H' hi A
      obtain ⟨c, n, q, c0, c1, n0, n1⟩ := hE
      have q' := keep_tup hH A.keep q
      refine ⟨rfl, yes_if ?_⟩
      refine ⟨_, rfl, e, _, _, _, rfl, rfl, q', (rfl : atI [V.int c, V.int n] 0 = some (V.int c)), ?_⟩
      refine ⟨_, rfl, _, rfl, e, _, _, _, rfl, rfl, q', (rfl : atI [V.int c, V.int n] 1 = some (V.int n)), p, l, n, rfl, A.at_, by omega, by omega, fun z H5 z0 z1 h5 k5 => ?_⟩
      refine ⟨_, _, rfl, rfl, _, _, rfl, rfl, (by show (0 : Int) < 8; decide), ?_⟩
      exact A.step fmono_int np nl hD0 (by omega) h5 k5 ⟨_, rfl, le8_of⟩
    intro H5 A
    obtain ⟨acc, e1, e2, e3⟩ := A.ex
    obtain ⟨ns, rfl, e4⟩ := ints_of e3
    have h5 := A.at_
    have k5 := A.keep
    match ns, e2, e4 with
    | [b, c, d], _, e4 =>
    have hb : Bx b := e4 b (by simp)
    have hc : Bx c := e4 c (by simp)
    have hd : Bx d := e4 d (by simp)
    refine ⟨D, _, rfl, SqL.of e1, rfl, ?_⟩
    refine ⟨.int b, [.int c, .int d], rfl, .int c, [.int d], rfl, .int d, [], rfl, rfl, ?_⟩
    have ret : ∀ (t : Addr) (r : Rw) (H6 : Hp), Keep p l H5 H6 → HAt H6 p l → H6 t = none → (∀ many, r.ok many) → r.leaves = false → Q (.ref t) (upd H6 t (.tup r.vals)) := fun t r H6 k6 h6 ht hr hlv => k (.ref t) r _ ⟨t, rfl, tup_of upd_same⟩ hr hlv (h6.new ht) ((k5.trans k6).new ht)
    have hw : (wv = .str "add" ∨ wv = .str "take" ∨ wv = .str "times") ∨ ∃ u : Str, wv = .str u ∧ (u = "put" ∨ u = "say" ∨ u = "rest" ∨ u = "move" ∨ u = "get" ∨ u = "set") := by
      simp only [List.mem_cons, List.not_mem_nil, or_false] at hwv
      rcases hwv with h | h | h | h | h | h | h | h | h | h | h | h | h | h | h
      · exact .inr ⟨_, h, .inl rfl⟩
      · exact .inr ⟨_, h, .inl rfl⟩
      · exact .inr ⟨_, h, .inr (.inr (.inr (.inl rfl)))⟩
      · exact .inl (.inl h)
      · exact .inl (.inl h)
      · exact .inl (.inr (.inl h))
      · exact .inl (.inr (.inr h))
      · exact .inl (.inr (.inr h))
      · exact .inr ⟨_, h, .inr (.inr (.inr (.inr (.inl rfl))))⟩
      · exact .inr ⟨_, h, .inr (.inr (.inr (.inr (.inl rfl))))⟩
      · exact .inr ⟨_, h, .inr (.inr (.inr (.inr (.inr rfl))))⟩
      · exact .inr ⟨_, h, .inr (.inr (.inr (.inr (.inr rfl))))⟩
      · exact .inr ⟨_, h, .inr (.inl rfl)⟩
      · exact .inr ⟨_, h, .inr (.inl rfl)⟩
      · exact .inr ⟨_, h, .inr (.inr (.inl rfl))⟩
    rcases hw with (rfl | rfl | rfl) | ⟨u, rfl, hu⟩
    · refine ⟨_, rfl, by show 3 ≤ sizeLine; decide, fun T hT => ⟨T, _, rfl, .inr (tup_of upd_same), rfl, rfl, _, rfl, if_t (by decide +kernel) ?_⟩⟩
      refine ⟨_, rfl, _, rfl, _, rfl, _, rfl, by show 4 ≤ sizeLine; decide, fun t ht => ?_⟩
      exact ret t (.add b c d) _ ((Keep.refl _ _ _).new hT) (h5.new hT) ht (fun _ => ⟨hb, hc, hd⟩) rfl
    · refine ⟨_, rfl, by show 3 ≤ sizeLine; decide, fun T hT => ⟨T, _, rfl, .inr (tup_of upd_same), rfl, rfl, _, rfl, if_t (by decide +kernel) ?_⟩⟩
      refine ⟨_, rfl, _, rfl, _, rfl, _, rfl, by show 4 ≤ sizeLine; decide, fun t ht => ?_⟩
      exact ret t (.take b c d) _ ((Keep.refl _ _ _).new hT) (h5.new hT) ht (fun _ => ⟨hb, hc, hd⟩) rfl
    · refine ⟨_, rfl, by show 3 ≤ sizeLine; decide, fun T hT => ⟨T, _, rfl, .inr (tup_of upd_same), rfl, rfl, _, rfl, if_t (by decide +kernel) ?_⟩⟩
      refine ⟨_, rfl, _, rfl, _, rfl, _, rfl, by show 4 ≤ sizeLine; decide, fun t ht => ?_⟩
      exact ret t (.times b c d) _ ((Keep.refl _ _ _).new hT) (h5.new hT) ht (fun _ => ⟨hb, hc, hd⟩) rfl
    · have nu : inV (.str u) [.str "add", .str "take", .str "times"] = false := by rcases hu with rfl | rfl | rfl | rfl | rfl | rfl <;> decide +kernel
      refine ⟨_, rfl, by show 3 ≤ sizeLine; decide, fun T hT => ⟨T, _, rfl, .inr (tup_of upd_same), rfl, rfl, _, rfl, if_f nu ?_⟩⟩
      have h6 := h5.new (o := .tup [.str "add", .str "take", .str "times"]) hT
      have k6 := (Keep.refl p l H5).new (o := .tup [.str "add", .str "take", .str "times"]) hT
      intro dd hdd
      have nd1 := h6.nep hdd
      have nd2 := h6.nel hdd
      refine ⟨_, rfl, _, rfl, _, rfl, p, l, rfl, h6.new hdd, fun n H8 n0 n1 h8 k8 => ⟨by show 3 ≤ sizeLine; decide, fun t1 ht1 => ⟨_, rfl, _, rfl, by show 2 ≤ sizeLine; decide, fun t2 ht2 => ⟨_, rfl, by show 1 ≤ sizeLine; decide, fun t3 ht3 => ?_⟩⟩⟩⟩
      have d8 : H8 dd = some (.dK []) := k8 _ _ upd_same nd1 nd2
      have d1 : dd ≠ t1 := ne_of_none d8 ht1
      have d8' : (upd H8 t1 (.tup [.str u, .int b, .int n])) dd = some (.dK []) := by rw [upd_ne d1]; exact d8
      have d2 : dd ≠ t2 := ne_of_none d8' ht2
      have d8'' : (upd (upd H8 t1 (.tup [.str u, .int b, .int n])) t2 (.tup [.str u, .int c])) dd = some (.dK []) := by rw [upd_ne d2]; exact d8'
      have d3 : dd ≠ t3 := ne_of_none d8'' ht3
      have h9 := ((h8.new (o := .tup [.str u, .int b, .int n]) ht1).new (o := .tup [.str u, .int c]) ht2).new (o := .tup [.str u]) ht3
      have k9 : Keep p l H5 _ := ((((k6.new (o := .dK []) hdd).trans k8).new (o := .tup [.str u, .int b, .int n]) ht1).new (o := .tup [.str u, .int c]) ht2).new (o := .tup [.str u]) ht3
      have nt12 : t1 ≠ t2 := ne_of_none upd_same ht2
      have nt23 : t2 ≠ t3 := ne_of_none upd_same ht3
      have nt13 : t1 ≠ t3 := ne_of_none (by rw [upd_ne nt12, upd_same]) ht3
      have hd5 : H5 dd = none := by
        have q := hdd
        rw [upd_ne (ne_of_none upd_same hdd).symm] at q
        exact q
      refine ⟨by rw [upd_ne d3]; exact d8'', [(Sum.inr "put", .ref t1), (Sum.inr "say", .ref t2), (Sum.inr "rest", .ref t3)], rfl, by show 3 ≤ 15; decide, ?_⟩
      refine ⟨dd, rfl, .inl ⟨_, .inl upd_same⟩, _, rfl, _, rfl, _, rfl, _, rfl, by show 3 ≤ sizeLine; decide, fun t4 ht4 => ?_⟩
      have nd4 : dd ≠ t4 := ne_of_none upd_same ht4
      refine ⟨_, DGet.k (k := Sum.inr u) (by rw [upd_ne nd4, upd_same]), ?_⟩
      rw [merge3]
      have fin : ∀ (t : Addr) (r : Rw), upd (upd (upd (upd (upd H8 t1 (.tup [.str u, .int b, .int n])) t2 (.tup [.str u, .int c])) t3 (.tup [.str u])) dd (.dK (mergeK [] [(Sum.inr "put", .ref t1), (Sum.inr "say", .ref t2), (Sum.inr "rest", .ref t3)]))) t4 (.tup [.str u, .int b, .int c]) t = some (.tup r.vals) → (∀ many, r.ok many) → r.leaves = false → _ := fun t r e ho hlv =>
        k (.ref t) r _ ⟨t, rfl, tup_of e⟩ ho hlv ((h9.over (o := .dK (mergeK [] [(Sum.inr "put", .ref t1), (Sum.inr "say", .ref t2), (Sum.inr "rest", .ref t3)])) nd1 nd2).new ht4) ((k5.trans (k9.over hd5)).new ht4)
      have f1 : upd (upd (upd (upd H8 t1 (.tup [.str u, .int b, .int n])) t2 (.tup [.str u, .int c])) t3 (.tup [.str u])) dd (.dK (mergeK [] [(Sum.inr "put", .ref t1), (Sum.inr "say", .ref t2), (Sum.inr "rest", .ref t3)])) t1 = some (.tup [.str u, .int b, .int n]) := by
        rw [upd_ne d1.symm, upd_ne nt13, upd_ne nt12, upd_same]
      have f2 : upd (upd (upd (upd H8 t1 (.tup [.str u, .int b, .int n])) t2 (.tup [.str u, .int c])) t3 (.tup [.str u])) dd (.dK (mergeK [] [(Sum.inr "put", .ref t1), (Sum.inr "say", .ref t2), (Sum.inr "rest", .ref t3)])) t2 = some (.tup [.str u, .int c]) := by
        rw [upd_ne d2.symm, upd_ne nt23, upd_same]
      have f3 : upd (upd (upd (upd H8 t1 (.tup [.str u, .int b, .int n])) t2 (.tup [.str u, .int c])) t3 (.tup [.str u])) dd (.dK (mergeK [] [(Sum.inr "put", .ref t1), (Sum.inr "say", .ref t2), (Sum.inr "rest", .ref t3)])) t3 = some (.tup [.str u]) := by
        rw [upd_ne d3.symm, upd_same]
      rcases hu with rfl | rfl | rfl | rfl | rfl | rfl
      · rw [if_neg (by decide +kernel), if_neg (by decide +kernel), if_pos rfl]
        exact fin t1 (.put b n) (by rw [upd_ne (ne_of_none f1 ht4)]; exact f1) (fun _ => ⟨hb, n0, n1⟩) rfl
      · rw [if_neg (by decide +kernel), if_pos rfl]
        exact fin t2 (.say c) (by rw [upd_ne (ne_of_none f2 ht4)]; exact f2) (fun _ => hc) rfl
      · rw [if_pos rfl]
        exact fin t3 .rest (by rw [upd_ne (ne_of_none f3 ht4)]; exact f3) (fun _ => trivial) rfl
      · rw [if_neg (by decide +kernel), if_neg (by decide +kernel), if_neg (by decide +kernel)]
        exact fin t4 (.move b c) upd_same (fun _ => ⟨hb, hc⟩) rfl
      · rw [if_neg (by decide +kernel), if_neg (by decide +kernel), if_neg (by decide +kernel)]
        exact fin t4 (.get b c) upd_same (fun _ => ⟨hb, hc⟩) rfl
      · rw [if_neg (by decide +kernel), if_neg (by decide +kernel), if_neg (by decide +kernel)]
        exact fin t4 (.set b c) upd_same (fun _ => ⟨hb, hc⟩) rfl
end
end LB
namespace LB
open PySem L2
section
variable {P : Program} {w : World} {K : PySem.W.Frag} {mg : Str → Option Value} {base : Heap}
/-- what cells hold -/
def spCells (K : PySem.W.Frag) : Sp := fun vs H Q _ => ∃ (p l : Addr), vs = [.ref p] ∧ HAt H p l ∧ ∀ (a : Addr) (cs : List Int) (H' : Hp), H a = none → H' a = some (.lst (cs.map V.int)) → cs.length = 16 → (∀ z, z ∈ cs → 0 ≤ z ∧ z < 1000) → HAt H' p l → Keep p l H H' → Q (.ref a) H'
theorem scCells : FnScope ["_law_h", "_law_cell"] ["_law_h"] (defScope sCells) := ⟨rfl, rfl, rfl, by decide +kernel, rfl, by decide +kernel, by decide +kernel⟩
theorem ok_cells {f : Addr} {fd : FuncData} (F : Fun K "_law_cells" "_law_cells" sCells f fd) (N : Cal P w K mg base 2 "_law_number" ["_law_h"] spNumber) (B : Bl mg) : FnOk P w K mg base CX0 3 f fd ["_law_h"] (spCells K) := by
  refine F.ok scCells (fun vs H Q E h => ?_) (fun cdv A outer s H vs Q E hr h => ?_)
  · obtain ⟨p, l, rfl, _⟩ := h
    rfl
  · obtain ⟨p, l, rfl, hH, k⟩ := h
    refine ⟨_, pss_one (ps_ret (pe_lc (own := [("_law_cell", 1)]) (g := gName 1) (by rfl) scCells.nd (pi_range1 (by rfl) B.range (pa_cons pe_int pa_nil)) (blkOk_by (own := [("_law_cell", 1)]) (N := ["_law_h", "_law_cell"]) (sc := defScope sCells) (by decide +kernel))
          (fun _ _ _ _ _ => pg_name (i := 1) scCells.nd rfl (Or.inl rfl)) (fun _ _ _ _ _ => pts_nil) (fun _ _ _ _ _ => pe_cal N hr (pa_cons (pv 0) pa_nil)))), ?_⟩
    refine ⟨16, rfl, by decide, by decide, fun D hD => ?_⟩
    have np := hH.nep hD
    have nl := hH.nel hD
    refine lc_range (lo := 0) (n := 16) (fun i H' => Acc p l D H (fun v _ => ∃ z, v = .int z ∧ 0 ≤ z ∧ z < 1000) i H') (Acc.start hH (.refl _ _ _) hD) ?_ ?_
    · intro i H' hi A
      refine ⟨rfl, yes_if ?_⟩
      refine ⟨_, rfl, p, l, rfl, A.at_, fun z H3 z0 z1 h3 k3 => ?_⟩
      exact A.step fmono_int np nl hD (by omega) h3 k3 ⟨z, rfl, z0, z1⟩
    · intro H' A
      obtain ⟨acc, e1, e2, e3⟩ := A.ex
      obtain ⟨ns, rfl, e4⟩ := ints_of e3
      exact k D ns H' hD e1 (by rw [List.length_map] at e2; exact e2) e4 A.at_ A.keep
end
end LB
namespace LB
open PySem L2
section
variable {P : Program} {w : World} {K : PySem.W.Frag} {mg : Str → Option Value} {base : Heap}
/-- a row that goes, or stops -/
def spJump (K : PySem.W.Frag) : Sp := fun vs H Q _ => ∃ (p l e : Addr) (at_ rows : Int), vs = [.ref p, .ref e, .int at_, .int rows] ∧ HAt H p l ∧ BxAt K H e ∧ 0 ≤ at_ ∧ at_ < rows ∧ rows ≤ 1000 ∧ ∀ v r H', RowAt K H' v r → r.ok rows → HAt H' p l → Keep p l H H' → Q v H'
abbrev psJ : List Str := ["_law_h", "_law_e", "_law_at", "_law_rows"]
theorem scJump : FnScope ["_law_h", "_law_e", "_law_at", "_law_rows", "_law_goal", "_law_box"] psJ (defScope sJump) := ⟨rfl, rfl, rfl, by decide +kernel, rfl, by decide +kernel, by decide +kernel⟩
theorem ok_jump {f : Addr} {fd : FuncData} (F : Fun K "_law_jump" "_law_jump" sJump f fd) (N : Cal P w K mg base 1 "_law_next" psN spNext) (B : Bl mg) : FnOk P w K mg base CX0 2 f fd psJ (spJump K) := by
  refine F.ok scJump (fun vs H Q E h => ?_) (fun cdv A outer s H vs Q E hr h => ?_)
  · obtain ⟨p, l, e, a, r, rfl, _⟩ := h
    rfl
  · obtain ⟨p, l, e, a, rows, rfl, hH, hE, a0, a1, r1, k⟩ := h
    refine ⟨_, pss_cons (ps_set (i := 4) scJump.nd rfl (Or.inl rfl) (pe_callB (call_min2 rfl) (by rfl) B.min (by decide +kernel) (pa_cons (pe_op op_sub (pv 3) pe_int) (pa_cons (pe_op op_add (pe_op op_add (pv 2) pe_int) (pe_cal N hr (pa_cons (pv 0) (pa_cons (pe_op op_sub (pv 3) (pv 2)) pa_nil)))) pa_nil))))
      (pss_cons (ps_if (pt_cmpR op_eq (pe_cal N hr (pa_cons (pv 0) (pa_cons pe_int pa_nil))) pe_int (nomark _)) (pss_one (ps_set (i := 4) scJump.nd rfl (Or.inl rfl) (pe_cal N hr (pa_cons (pv 0) (pa_cons (pv 3) pa_nil))))) pss_nil)
      (pss_cons (ps_set (i := 5) scJump.nd rfl (Or.inl rfl) (pe_op op_mod (pe_op op_add (pe_ix ix_tup (pv 1) pe_int (fun _ _ => rfl)) (pe_cal N hr (pa_cons (pv 0) (pa_cons (pe_ix ix_tup (pv 1) pe_int (fun _ _ => rfl)) pa_nil)))) pe_int))
      (pss_one (ps_ret (pe_ix ix_list (pe_lst (pa_cons (pe_tup (pa_cons pe_str (pa_cons (pv 4) pa_nil))) (pa_cons (pe_tup (pa_cons pe_str (pa_cons (pv 5) (pa_cons (pv 4) pa_nil)))) (pa_cons (pe_tup (pa_cons pe_str (pa_cons (pv 5) (pa_cons (pv 4) pa_nil)))) (pa_cons (pe_tup (pa_cons pe_str pa_nil)) pa_nil)))))
          (pe_cal N hr (pa_cons (pv 0) (pa_cons pe_int pa_nil))) (fun _ _ => rfl)))))), ?_⟩
    refine ⟨_, rfl, _, _, rfl, rfl, _, rfl, _, _, rfl, rfl, _, rfl, _, rfl, _, rfl, _, _, rfl, rfl, p, l, rows - a, rfl, hH, by omega, by omega, fun n H1 n0 n1 h1 k1 => ?_⟩
    refine ⟨_, _, rfl, rfl, _, _, rfl, ?_⟩
    refine ⟨_, rfl, p, l, 4, rfl, h1, by decide, by decide, fun m H2 m0 m1 h2 k2 => ⟨rfl, _, rfl, ?_⟩⟩
    have kk2 := k1.trans k2
    refine ifs_cut (fun σ' H' => ∃ g : Int, σ' = [some (.ref p), some (.ref e), some (.int a), some (.int rows), some (.int g), none] ∧ 0 ≤ g ∧ g < rows ∧ HAt H' p l ∧ Keep p l H H') (fun _ D' _ k' => ?_) (fun _ D' _ k' => ?_) ?_
    · refine ⟨_, rfl, _, rfl, p, l, rows, rfl, h2, by omega, by omega, fun g H3 g0 g1 h3 k3 => ?_⟩
      exact k' _ _ ⟨g, rfl, g0, g1, h3, kk2.trans k3⟩
    · refine k' _ _ ⟨_, rfl, ?_, ?_, h2, kk2⟩
      · show (0 : Int) ≤ if a + 1 + n < rows - 1 then a + 1 + n else rows - 1
        split <;> omega
      · show (if a + 1 + n < rows - 1 then a + 1 + n else rows - 1) < rows
        split <;> omega
    rintro σ' H3 ⟨g, rfl, g0, g1, h3, k3⟩
    obtain ⟨c, bn, q, c0, c1, b0, b1⟩ := hE
    have q3 := keep_tup hH k3 q
    refine ⟨_, rfl, e, _, _, _, rfl, rfl, q3, (rfl : atI [V.int c, V.int bn] 0 = some (V.int c)), ?_⟩
    refine ⟨_, rfl, _, rfl, e, _, _, _, rfl, rfl, q3, (rfl : atI [V.int c, V.int bn] 1 = some (V.int bn)), p, l, bn, rfl, h3, by omega, by omega, fun z H4 z0 z1 h4 k4 => ?_⟩
    refine ⟨_, _, rfl, rfl, _, _, rfl, rfl, (by show (0 : Int) < 8; decide), ?_⟩
    have hx : Bx ((c + z) % 8) := le8_of
    refine ⟨_, rfl, by show 2 ≤ sizeLine; decide, fun t1 ht1 => ⟨_, rfl, _, rfl, by show 3 ≤ sizeLine; decide, fun t2 ht2 => ⟨_, rfl, _, rfl, by show 3 ≤ sizeLine; decide, fun t3 ht3 => ⟨by show 1 ≤ sizeLine; decide, fun t4 ht4 => ⟨by show 4 ≤ sizeLine; decide, fun d hd => ?_⟩⟩⟩⟩⟩
    have hh := ((((h4.new (o := .tup (Rw.go g).vals) ht1).new (o := .tup (Rw.iff ((c + z) % 8) g).vals) ht2).new (o := .tup (Rw.iff ((c + z) % 8) g).vals) ht3).new (o := .tup Rw.stop.vals) ht4).new (o := .lst [.ref t1, .ref t2, .ref t3, .ref t4]) hd
    have hk := (((((k3.trans k4).new (o := .tup (Rw.go g).vals) ht1).new (o := .tup (Rw.iff ((c + z) % 8) g).vals) ht2).new (o := .tup (Rw.iff ((c + z) % 8) g).vals) ht3).new (o := .tup Rw.stop.vals) ht4).new (o := .lst [.ref t1, .ref t2, .ref t3, .ref t4]) hd
    refine ⟨_, rfl, p, l, 4, rfl, hh, by decide, by decide, fun y H5 y0 y1 h5 k5 => ?_⟩
    have s1 := same_new ht2 (.tup (Rw.iff ((c + z) % 8) g).vals)
    have s2 := s1.trans (same_new ht3 (.tup (Rw.iff ((c + z) % 8) g).vals))
    have s3 := s2.trans (same_new ht4 (.tup Rw.stop.vals))
    have s4 := s3.trans (same_new hd (.lst [.ref t1, .ref t2, .ref t3, .ref t4]))
    have p1 := ((h4.new (o := .tup (Rw.go g).vals) ht1).new (o := .tup (Rw.iff ((c + z) % 8) g).vals) ht2)
    have p2 := p1.new (o := .tup (Rw.iff ((c + z) % 8) g).vals) ht3
    have p3 := p2.new (o := .tup Rw.stop.vals) ht4
    have e1 := k5 t1 _ (s4 _ _ upd_same) (h4.nep ht1) (h4.nel ht1)
    have e2 := k5 t2 _ (((same_new ht3 (.tup (Rw.iff ((c + z) % 8) g).vals)).trans ((same_new ht4 (.tup Rw.stop.vals)).trans (same_new hd (.lst [.ref t1, .ref t2, .ref t3, .ref t4])))) _ _ upd_same) ((h4.new ht1).nep ht2) ((h4.new ht1).nel ht2)
    have e3 := k5 t3 _ (((same_new ht4 (.tup Rw.stop.vals)).trans (same_new hd (.lst [.ref t1, .ref t2, .ref t3, .ref t4]))) _ _ upd_same) (p1.nep ht3) (p1.nel ht3)
    have e4 := k5 t4 _ ((same_new hd (.lst [.ref t1, .ref t2, .ref t3, .ref t4])) _ _ upd_same) (p2.nep ht4) (p2.nel ht4)
    have ed := k5 d _ upd_same (p3.nep hd) (p3.nel hd)
    obtain ⟨v, hv, hat⟩ := at4 (a0 := V.ref t1) (a1 := V.ref t2) (a2 := V.ref t3) (a3 := V.ref t4) y0 y1
    refine ⟨d, _, _, v, rfl, rfl, SqL.of ed, hat, ?_⟩
    rcases hv with rfl | rfl | rfl | rfl
    · exact k _ (.go g) H5 ⟨t1, rfl, tup_of e1⟩ ⟨g0, g1⟩ h5 (hk.trans k5)
    · exact k _ (.iff _ g) H5 ⟨t2, rfl, tup_of e2⟩ ⟨hx, g0, g1⟩ h5 (hk.trans k5)
    · exact k _ (.iff _ g) H5 ⟨t3, rfl, tup_of e3⟩ ⟨hx, g0, g1⟩ h5 (hk.trans k5)
    · exact k _ .stop H5 ⟨t4, rfl, tup_of e4⟩ trivial h5 (hk.trans k5)
/-- a program -/
def spPlain (K : PySem.W.Frag) : Sp := fun vs H Q _ => ∃ (p l : Addr) (most : Int), vs = [.ref p, .int most] ∧ HAt H p l ∧ 0 < most ∧ most ≤ 200 ∧ ∀ (a : Addr) (rs : List Rw) (H' : Hp), ProgAt K H' a rs → 1 ≤ rs.length → rs.length ≤ 200 → (∀ r, r ∈ rs → r.ok rs.length) → HAt H' p l → Keep p l H H' → Q (.ref a) H'
abbrev nsPlain : List Str := ["_law_h", "_law_most", "_law_e", "_law_rows", "_law_often", "_law_at"]
theorem scPlain : FnScope nsPlain ["_law_h", "_law_most"] (defScope sPlain) := ⟨rfl, rfl, rfl, by decide +kernel, rfl, by decide +kernel, by decide +kernel⟩
theorem rows_of {K : PySem.W.Frag} {H : Hp} {F : Rw → Prop} : ∀ {acc : List V}, (∀ v, v ∈ acc → ∃ r, RowAt K H v r ∧ F r) → ∃ rs : List Rw, acc.length = rs.length ∧ (∀ (i : Nat) (r : Rw), rs[i]? = some r → ∃ v, acc[i]? = some v ∧ RowAt K H v r) ∧ ∀ r, r ∈ rs → F r
  | [], _ => ⟨[], rfl, fun i r h => by simp at h, fun r h => by cases h⟩
  | v :: t, h => by
    obtain ⟨r, hr, hf⟩ := h v (List.mem_cons_self ..)
    obtain ⟨rs, e1, e2, e3⟩ := rows_of (acc := t) fun x hx => h x (List.mem_cons_of_mem _ hx)
    refine ⟨r :: rs, by simp [e1], fun i q hq => ?_, fun q hq => ?_⟩
    · cases i with
      | zero => exact ⟨v, rfl, by rw [← Option.some.inj hq]; exact hr⟩
      | succ i => exact e2 i q hq
    · rcases List.mem_cons.mp hq with z | z
      · rw [z]; exact hf
      · exact e3 q z
theorem fmono_row {p l D : Addr} {F : Rw → Prop} : Fmono p l D fun v H => ∃ r, RowAt K H v r ∧ F r := fun v Ha Hb hh hD s ⟨r, q, f⟩ => ⟨r, kp3_row hh hD s q, f⟩
theorem ok_plain {f : Addr} {fd : FuncData} (F : Fun K "_law_plain" "_law_plain" sPlain f fd) (N : Cal P w K mg base 1 "_law_next" psN spNext) (X : Cal P w K mg base 2 "_law_boxes" ["_law_h"] (spBoxes K)) (D : Cal P w K mg base 3 "_law_deed" psD (spDeed K)) (J : Cal P w K mg base 2 "_law_jump" psJ (spJump K)) (B : Bl mg) : FnOk P w K mg base CX0 4 f fd ["_law_h", "_law_most"] (spPlain K) := by
  refine F.ok scPlain (fun vs H Q E h => ?_) (fun cdv A outer s H vs Q E hr h => ?_)
  · obtain ⟨p, l, m, rfl, _⟩ := h
    rfl
  · obtain ⟨p, l, most, rfl, hH, m0, m1, k⟩ := h
    have hr1 : Room 1 _ := hr.mono (by decide)
    have hr2 : Room 2 _ := hr.mono (by decide)
    refine ⟨_, pss_cons (ps_set (i := 2) scPlain.nd rfl (Or.inr rfl) (pe_cal X hr2 (pa_cons (pv 0) pa_nil)))
      (pss_cons (ps_set (i := 3) scPlain.nd rfl (Or.inr rfl) (pe_op op_add pe_int (pe_cal N hr1 (pa_cons (pv 0) (pa_cons (pv 1) pa_nil)))))
      (pss_cons (ps_set (i := 4) scPlain.nd rfl (Or.inr rfl) (pe_ix ix_list (pe_lst (pa_cons pe_int (pa_cons pe_int (pa_cons pe_int pa_nil)))) (pe_cal N hr1 (pa_cons (pv 0) (pa_cons pe_int pa_nil))) (fun _ _ => rfl)))
      (pss_one (ps_ret (pe_callTy call_tuple_of (by rfl) B.tuple (by decide +kernel) (pa_cons
        (pe_lc (own := [("_law_at", 5)]) (g := gName 5) (by rfl) scPlain.nd (pi_range1 (by rfl) B.range (pa_cons (pv 3) pa_nil)) (blkOk_by (own := [("_law_at", 5)]) (N := nsPlain) (sc := defScope sPlain) (by decide +kernel))
          (fun _ _ _ _ _ => pg_name (i := 5) scPlain.nd rfl (Or.inl rfl)) (fun _ _ _ _ _ => pts_nil)
          (fun _ _ _ _ _ => pe_ifExp (pt_cmpR op_eq (pe_cal N hr1 (pa_cons (pv 0) (pa_cons (pv 4) pa_nil))) pe_int (nomark _)) (pe_cal J hr2 (pa_cons (pv 0) (pa_cons (pv 2) (pa_cons (pv 5) (pa_cons (pv 3) pa_nil))))) (pe_cal D hr (pa_cons (pv 0) (pa_cons (pv 2) pa_nil))))) pa_nil)))))), ?_⟩
    refine ⟨_, rfl, p, l, rfl, hH, fun e H1 hE h1 k1 => ?_⟩
    refine ⟨_, rfl, _, rfl, p, l, most, rfl, h1, m0, by omega, fun n H2 n0 n1 h2 k2 => ⟨_, _, rfl, rfl, ?_⟩⟩
    refine ⟨by show 3 ≤ sizeLine; decide, fun d hd => ⟨_, rfl, p, l, 3, rfl, h2.new hd, by decide, by decide, fun c H3 c0 c1 h3 k3 => ?_⟩⟩
    have hd3 : H3 d = some (.lst [.int 3, .int 5, .int 12]) := k3 _ _ upd_same (h2.nep hd) (h2.nel hd)
    obtain ⟨v, hv, hat⟩ := at3 (a0 := V.int 3) (a1 := V.int 5) (a2 := V.int 12) c0 c1
    obtain ⟨o, rfl, o0, o1⟩ : ∃ o : Int, v = .int o ∧ 0 < o ∧ o < 100 := by
      rcases hv with rfl | rfl | rfl
      · exact ⟨3, rfl, by decide, by decide⟩
      · exact ⟨5, rfl, by decide, by decide⟩
      · exact ⟨12, rfl, by decide, by decide⟩
    refine ⟨d, _, _, _, rfl, rfl, SqL.of hd3, hat, ?_⟩
    have kE : Keep p l H1 H3 := (k2.new hd).trans k3
    have kk : Keep p l H H3 := k1.trans kE
    refine ⟨_, rfl, 1 + n, rfl, by omega, by omega, fun C hC => ?_⟩
    have np := h3.nep hC
    have nl := h3.nel hC
    have hC0 : H C = none := kk.free h3 hC
    have hC1 : H1 C = none := kE.free h3 hC
    refine lc_range (lo := 0) (n := (1 + n).toNat) (fun i H' => Acc p l C H (fun v H' => ∃ r, RowAt K H' v r ∧ r.ok (1 + n)) i H' ∧ Keep p l H1 H') ⟨Acc.start h3 kk hC, kE.new hC⟩ ?_ ?_
    · rintro i H' hi ⟨A, kA⟩
      refine ⟨rfl, yes_if ?_⟩
      refine ⟨_, rfl, _, rfl, p, l, o, rfl, A.at_, by omega, by omega, fun z H4 z0 z1 h4 k4 => ⟨rfl, _, rfl, ?_⟩⟩
      have hE4 : BxAt K H4 e := by
        obtain ⟨c, n, q, h⟩ := hE
        exact ⟨c, n, keep_tup h1 (kA.trans k4) q, h⟩
      refine if_both (fun _ => ?_) (fun _ => ?_)
      · refine ⟨_, rfl, _, rfl, _, rfl, _, rfl, p, l, e, _, 1 + n, rfl, h4, hE4, by omega, by omega, by omega, fun v r H5 hv hr h5 k5 => ?_⟩
        obtain ⟨acc, a1, a2, a3⟩ := A.step fmono_row np nl hC0 (by omega) h5 (k4.trans k5) ⟨r, hv, hr⟩
        exact ⟨acc, a1, a2, a3, (kA.trans (k4.trans k5)).over hC1⟩
      · refine ⟨_, rfl, _, rfl, p, l, e, rfl, h4, hE4, fun v r H5 hv hr _ h5 k5 => ?_⟩
        obtain ⟨acc, a1, a2, a3⟩ := A.step fmono_row np nl hC0 (by omega) h5 (k4.trans k5) ⟨r, hv, hr _⟩
        exact ⟨acc, a1, a2, a3, (kA.trans (k4.trans k5)).over hC1⟩
    · rintro H' ⟨A, _⟩
      obtain ⟨acc, e1, e2, e3⟩ := A.ex
      obtain ⟨rs, f1, f2, f3⟩ := rows_of e3
      refine ⟨C, _, rfl, .inl ⟨SqL.of e1, fun T hT => ?_⟩⟩
      have el : (rs.length : Int) = 1 + n := by omega
      refine k T rs _ ⟨acc, tup_of upd_same, f1, fun i r hi => ?_⟩ (by omega) (by omega) (fun r hm => by rw [el]; exact f3 r hm) (A.at_.new hT) (A.keep.new hT)
      obtain ⟨v, g1, a, g2, g3⟩ := f2 i r hi
      exact ⟨v, g1, a, g2, same_tup (same_new hT _) g3⟩
end
end LB
/-! enumerate(a tuple), zip(a text, a tuple): what is walked, and that a loop may walk it. Own text, over the library's draws. -/
namespace LB
open PySem PySem.Spec PyProof.Rows L2
/-- the tuple at a, each item with its number in a new pair -/
def ItET (K : PySem.W.Frag) (a : Addr) : It where
  go i H := ∃ (xs : List V) (x : V), SqT K H a xs ∧ xs[i]? = some x
  yld i H v H' := ∃ (T : Addr) (x : V), v = .ref T ∧ H T = none ∧ H' = upd H T (.tup [.int (i : Nat), x]) ∧ ∀ xs, SqT K H a xs → xs[i]? = some x
  stop i H := ∃ xs : List V, SqT K H a xs ∧ i = xs.length
/-- a text's signs and the items of the tuple at b -/
def ItST (K : PySem.W.Frag) (z : Str) (b : Addr) : It where
  go i H := ∃ (ys : List V) (y : V), SqT K H b ys ∧ ys[i]? = some y ∧ i < z.cps.size
  yld i H v H' := ∃ (T : Addr) (c : Nat) (y : V), v = .ref T ∧ H T = none ∧ H' = upd H T (.tup [.str ⟨#[c]⟩, y]) ∧ z.cps[i]? = some c ∧ ∀ ys, SqT K H b ys → ys[i]? = some y
  stop i H := ∃ ys : List V, SqT K H b ys ∧ i = z.cps.size ∧ i = ys.length
section
variable {P : Program} {w : World} {K : PySem.W.Frag}
theorem turnET {elts : List Expr} {kk : Nat} {tpos : Pos} (a e it : Addr) : Turn P w K (.Tuple elts kk tpos) (ItET K a) [e, it] e (fun i h => (∃ old, IsEnum h e it ((i : Nat) : Int) old) ∧ h.IsTupleIter it a i ∧ e ≠ it) := by
  refine ⟨by simp, ?_, ?_, ?_, ?_, ?_⟩
  · rintro i h ⟨⟨old, he⟩, ⟨o, ho, hc, hd⟩, _⟩ b hb
    rcases (by simpa using hb : b = e ∨ b = it) with rfl | rfl
    · exact ⟨_, he, fun v q => by cases q⟩
    · exact ⟨o, ho, fun v q => by rw [hd] at q; cases q⟩
  · rintro i h h' ⟨⟨old, he⟩, hi, hne⟩ k
    exact ⟨⟨old, k e (by simp) _ he⟩, hi.at fun o q => k it (by simp) o q, hne⟩
  · intro X hP hw hK hc i pins s σ H E I hf st hg
    subst hP hw hK
    obtain ⟨⟨old, he⟩, hit, hne⟩ := st
    obtain ⟨xs, x, hq, hx⟩ := hg
    obtain ⟨its, rv, p, hz⟩ := I.tuple hq
    obtain ⟨u, hu, ru⟩ := rv.get hx
    have hel := Heap.lt_size he
    have hil : it < s.heap.objs.size := by obtain ⟨_, q, _⟩ := hit; exact Heap.lt_size q
    have hat : a ≠ it := fun q => by
      obtain ⟨o1, e1, c1, _⟩ := id p
      obtain ⟨o2, e2, c2, _⟩ := hit
      rw [q, e2] at e1
      cases e1
      rw [c2] at c1
      injection c1 with c1
      exact absurd c1 (by decide)
    have hae : a ≠ e := fun q => by
      obtain ⟨o1, e1, c1, _⟩ := id p
      rw [q, he] at e1
      cases e1
      injection c1 with c1
      exact absurd c1 (by decide)
    have ult : i < its.toArray.size := by
      have := (List.getElem?_eq_some_iff.mp hu).1
      simpa using this
    refine wpAny_pyNext_enum_itemD (Draws.tuple (A := X.A.in1) (show X.A.in1.handled = none from I.ok.hd hc) it a hat its.toArray) he ⟨hit, p⟩ ult hne (by simp [hne, hae.symm]) fun x1 h' tk hp1 ho st' hT hsz hk => ?_
    have ex : x1 = u := by
      have q : its.toArray[i]? = some u := by simpa using hu
      exact Option.some.inj (hp1.symm.trans q)
    subst ex
    refine ⟨_, rfl, wpAny_letOwnedTupleGo_enum ho fun h'' he' sb => ?_⟩
    have hT2 := (sb.2 _ (Nat.ne_of_gt hel)).trans hT
    have new : ObjOk X.prog X.w (upd H s.heap.objs.size (.tup [.int (i : Nat), x])) h'' s.heap.objs.size (.tup [.int (i : Nat), x]) := by
      refine ⟨by show 2 ≤ sizeLine; decide, [.int i tk, x1], .cons ⟨_, rfl⟩ (.cons ru .nil), ⟨_, hT2, rfl, _, rfl⟩⟩
    have I1 : Inv X pins σ (upd H s.heap.objs.size (.tup [.int (i : Nat), x])) { s with heap := h'', toks := tk + 1 } := by
      refine I.turnedNew (ch := [e, it]) (fun b ob hb q => ?_) hf (Nat.le_refl _) new
      have n1 : b ≠ e := fun z => hb (by simp [z])
      have n2 : b ≠ it := fun z => hb (by simp [z])
      exact (sb.2 b n1).trans (hk b ob n1 n2 q)
    refine ⟨.ref s.heap.objs.size, _, I1, rfl, ⟨_, x, rfl, I.hok.fresh (Nat.le_refl _), rfl, fun ys hy => ?_⟩, ⟨⟨x1, ?_⟩, ?_, hne⟩, fun b hb => ?_⟩
    · rw [I.tuple_inj hy hq]
      exact hx
    · have e1 : ((i + 1 : Nat) : Int) = (i : Int) + 1 := by omega
      rw [e1]
      exact he'
    · exact st'.1.at fun o q => (sb.2 it hne.symm).trans q
    · have hb' : b < s.heap.objs.size := by
        rcases (by simpa using hb : b = e ∨ b = it) with rfl | rfl
        · exact hel
        · exact hil
      rw [upd_ne (Nat.ne_of_lt hb')]
      exact (hf b hb).1
  · intro X hP hw hK hc i pins s σ H E I hf st hg
    subst hP hw hK
    obtain ⟨⟨old, he⟩, hit, hne⟩ := st
    obtain ⟨xs, hq, hx⟩ := hg
    obtain ⟨its, rv, p, hz⟩ := I.tuple hq
    have hat : a ≠ it := fun q => by
      obtain ⟨o1, e1, c1, _⟩ := id p
      obtain ⟨o2, e2, c2, _⟩ := hit
      rw [q, e2] at e1
      cases e1
      rw [c2] at c1
      injection c1 with c1
      exact absurd c1 (by decide)
    have es : its.toArray.size = i := by
      have := rv.length
      simp
      omega
    refine wpAny_pyNext_enum_endD (Draws.tuple (A := X.A.in1) (show X.A.in1.handled = none from I.ok.hd hc) it a hat its.toArray) he (by rw [es]; exact ⟨hit, p⟩) fun h' eb => ⟨rfl, ?_⟩
    refine I.turnedL (t' := s.toks) (ch := [e, it]) (fun b ob hb q => eb b ob (fun z => hb (by simp [z])) q) hf
  · rintro A i s Q E ⟨⟨old, he⟩, _⟩ h
    exact wpAny_pyIter_enum he h
/-- enumerate(v) of anything whose iterator begins as a new object -/
theorem meets_enum1 {v : Value} {o : Obj} {H : Heap → Prop} (B : Begins v o H) :
    Meets (Builtin.«enumerate.__new__» ⟨[.type "enumerate", v], []⟩) (fun _ R s => H s.heap ∧
      R (.ok (.ret (.ref (s.heap.push o).objs.size))) { s with heap := (s.heap.push o).push { cls := .type "enumerate", data := .fields #[.none, .bool false, .ref s.heap.objs.size, rawInt 0, .none, .none] } }) :=
  .of_wp fun prog w A R s hh => by
    obtain ⟨hp, g, dd, tk, os⟩ := s
    obtain ⟨hb, hfin⟩ := hh
    have isub := sub_enumerate
    have beg : ∀ {A1 : Around} {E1 : Value → Shared → Prop} {Q1 : Value → Shared → Prop}, Q1 (.ref hp.objs.size) ⟨hp.push o, g, dd, tk, os⟩ → wpAny (model prog w) A1 (pyIter v) Q1 E1 ⟨hp, g, dd, tk, os⟩ := by
      intro A1 E1 Q1 q
      exact B.iter prog w A1 E1 ⟨hp, g, dd, tk, os⟩ Q1 hb q
    wp_walk using beg
    refine wpAny_stack_any fun frames => wpAny_pure ?_
    split
    · rename_i c _ _ _ _ _
      cases (c == Value.type "enumerate")
      · wp_walk using beg
        exact ⟨_, rfl, hfin⟩
      · wp_walk using beg
        exact ⟨_, rfl, hfin⟩
    · wp_walk using beg
      exact ⟨_, rfl, hfin⟩
theorem call_enum1 {A : Around} {E : Value → Shared → Prop} {s : Shared} {v : Value} {o : Obj} {H : Heap → Prop} {Q : Value → Shared → Prop} (B : Begins v o H) (h1 : H s.heap)
    (h : ∀ h', IsEnum h' (s.heap.objs.size + 1) s.heap.objs.size 0 .none → h'.get? s.heap.objs.size = some o → (∀ b u, s.heap.get? b = some u → h'.get? b = some u) → Q (.ref (s.heap.objs.size + 1)) { s with heap := h' }) :
    wpAny (model P w) A (call (.type "enumerate") [v]) Q E s := by
  refine callType_new F.called_enumerate (by decide) (F.typeCall_enumerate_1 _) (F.newCall_enumerate_1 _) (fun obj => F.args_object_init_2 obj _) F.entry_enumerate_new (meets_enum1 B) ⟨h1, ?_⟩
  have z1 : (s.heap.push o).objs.size = s.heap.objs.size + 1 := Heap.size_push ..
  show _ ∧ _
  rw [z1]
  have ie : IsEnum ((s.heap.push o).push { cls := .type "enumerate", data := .fields #[.none, .bool false, .ref s.heap.objs.size, rawInt 0, .none, .none] }) (s.heap.objs.size + 1) s.heap.objs.size 0 .none := by
    have q := Heap.get?_push_size (s.heap.push o) (o := { cls := .type "enumerate", data := .fields #[.none, .bool false, .ref s.heap.objs.size, rawInt 0, .none, .none] }) rfl
    rw [z1] at q
    exact q
  exact ⟨⟨_, ie, rfl⟩, h _ ie (Heap.get?_push_of_some _ (Heap.get?_push_size _ B.free)) fun b u x => Heap.get?_push_of_some _ (Heap.get?_push_of_some _ x)⟩
def iEnumT (K : PySem.W.Frag) (ta : TA) : TI := fun σ H R => ta σ H fun vs H1 => ∃ a xs, vs = [.ref a] ∧ SqT K H1 a xs ∧ R (ItET K a) H1
theorem pi_enumT {X : Cx} {e : Expr} {ta : TA} {p pos tpos : Pos} {elts : List Expr} {kk : Nat} (hg : Gl X "enumerate") (hm : X.mg "enumerate" = none) (ha : PA X [e] ta) (hs : starEach [e] X.env = [(false, eval e X.env)] := by rfl) :
    PI X (.Tuple elts kk tpos) (.Call (.Name "enumerate" p) [e] [] pos) (iEnumT X.K ta) := by
  refine ⟨fun pins s σ H R I h => ?_⟩
  refine Call_ (ld_blt I hg hm boot_enumerate (PyProof.Rows.callWith_type1 (thn (ha.run pos pins s σ H _ I h) fun us s1 ⟨vs, H1, I1, r1, q1⟩ => ?_) hs rfl))
  obtain ⟨a, xs, ex, hq, q⟩ := q1
  subst ex
  cases r1 with
  | cons r rr =>
    cases rr
    cases r
    obtain ⟨its, rv, p', hz⟩ := I1.tuple hq
    refine call_enum1 (begins_tuple a its.toArray) p' fun h' he hit hk => wpAny_pyIter_enum he ?_
    have I2 : Inv X pins σ H1 { s1 with heap := h' } := I1.kept (t' := s1.toks) hk
    refine ⟨s1.heap.objs.size + 1, [s1.heap.objs.size + 1, s1.heap.objs.size], _, _, H1, rfl, I2, turnET a (s1.heap.objs.size + 1) s1.heap.objs.size, ⟨⟨.none, he⟩, ⟨_, hit, rfl, rfl⟩, Nat.succ_ne_self _⟩, fun b hb => ?_, q⟩
    have hle : s1.heap.objs.size ≤ b := by
      rcases (by simpa using hb : b = s1.heap.objs.size + 1 ∨ b = s1.heap.objs.size) with z | z
      · rw [z]; exact Nat.le_succ _
      · rw [z]; exact Nat.le_refl _
    exact I1.fpOk hle (I1.hok.fresh hle)
/-- a for over it -/
theorem walkET {K : PySem.W.Frag} {a : Addr} {xs : List V} : Walk (ItET K a) xs.length (fun H => SqT K H a xs) (YPair (fun i => some (.int (i : Nat))) (fun i => xs[i]?)) := by
  refine ⟨fun i _ hi q => ⟨xs, xs[i], q, by simp [hi]⟩, fun _ q => ⟨xs, q, rfl⟩, fun i H v H' _ q y => ?_⟩
  obtain ⟨T, x, h1, h2, h3, h4⟩ := y
  exact ⟨T, .int (i : Nat), x, h1, h2, h3, rfl, h4 xs q⟩
/-! ### zip(a text, a tuple) -/
abbrev tnST (x : Str) (b z TI TO i1 i2 : Addr) (i : Nat) (h : Heap) : Prop :=
  IsZip h z TI TO .none ∧ IsTupOf2 h TI (.ref i1) (.ref i2) ∧ (∃ a1 a2, IsTupOf2 h TO a1 a2) ∧ (∃ t, h.IsStrIter i1 (strIterType x) x t i) ∧ h.IsTupleIter i2 b i
theorem turnST {elts : List Expr} {kk : Nat} {tpos : Pos} {x : Str} {b z TI TO i1 i2 : Addr} (S : ZipSep2 z TI TO i1 i2 [i1] [i2, b]) (hb2 : b ≠ i2) : Turn P w K (.Tuple elts kk tpos) (ItST K x b) [z, TI, TO, i1, i2] z (tnST x b z TI TO i1 i2) := by
  have five : ∀ c, c ∈ [z, TI, TO, i1, i2] → c = z ∨ c = TI ∨ c = TO ∨ c = i1 ∨ c = i2 := fun c hc => by simpa using hc
  refine ⟨by simp, ?_, ?_, ?_, ?_, ?_⟩
  · rintro i h ⟨hz, hTI, ⟨a1, a2, hTO⟩, ⟨t, o1, e1, _, d1⟩, ⟨o2, e2, _, d2⟩⟩ c hc
    rcases five c hc with rfl | rfl | rfl | rfl | rfl
    · exact ⟨_, hz, fun v q => by cases q⟩
    · exact ⟨_, hTI, fun v q => by cases q⟩
    · exact ⟨_, hTO, fun v q => by cases q⟩
    · exact ⟨o1, e1, fun v q => by rw [d1] at q; cases q⟩
    · exact ⟨o2, e2, fun v q => by rw [d2] at q; cases q⟩
  · rintro i h h' ⟨hz, hTI, ⟨a1, a2, hTO⟩, ⟨t, o1, e1, r1⟩, h2⟩ k
    exact ⟨k z (by simp) _ hz, k TI (by simp) _ hTI, ⟨a1, a2, k TO (by simp) _ hTO⟩, ⟨t, o1, k i1 (by simp) _ e1, r1⟩, h2.at fun o q => k i2 (by simp) o q⟩
  · intro X hP hw hK hc i pins s σ H E I hf st hg
    subst hP hw hK
    obtain ⟨hz, hTI, ⟨a1, a2, hTO⟩, ⟨t, h1⟩, h2⟩ := st
    obtain ⟨ys, y, hq, hy, hi⟩ := hg
    obtain ⟨its, rv, p, hzz⟩ := I.tuple hq
    obtain ⟨u, hu, ru⟩ := rv.get hy
    have ult : i < its.toArray.size := by
      have := (List.getElem?_eq_some_iff.mp hu).1
      simpa using this
    have hzl := Heap.lt_size hz
    refine wpAny_pyNext_zipD2_item S (Draws.text (A := X.A.in1) (show X.A.in1.handled = none from I.ok.hd hc) i1 x t) (Draws.tuple (A := X.A.in1) (show X.A.in1.handled = none from I.ok.hd hc) i2 b hb2 its.toArray) hz hTI hTO h1 ⟨h2, p⟩ hi ult fun x1 x2 h' tk hp1 hp2 ho hTO' st1 st2 hT hsz hk => ?_
    obtain ⟨c, tc, hcx, rfl⟩ := hp1
    have ex : x2 = u := by
      have q : its.toArray[i]? = some u := by simpa using hu
      exact Option.some.inj (hp2.symm.trans q)
    subst ex
    refine ⟨_, rfl, wpAny_letOwnedTupleGo_zip (s := { s with heap := h', toks := tk }) ho fun h'' hz'' sb => ?_⟩
    have hT2 := (sb.2 _ (Nat.ne_of_gt hzl)).trans hT
    have new : ObjOk X.prog X.w (upd H s.heap.objs.size (.tup [.str ⟨#[c]⟩, y])) h'' s.heap.objs.size (.tup [.str ⟨#[c]⟩, y]) := by
      refine ⟨by show 2 ≤ sizeLine; decide, [.str ⟨#[c]⟩ tc, x2], .cons ⟨_, rfl⟩ (.cons ru .nil), ⟨_, hT2, rfl, _, rfl⟩⟩
    have I1 : Inv X pins σ (upd H s.heap.objs.size (.tup [.str ⟨#[c]⟩, y])) { s with heap := h'', toks := tk } := by
      refine I.turnedNew (ch := [z, TI, TO, i1, i2]) (fun d ob hd q => ?_) hf (Nat.le_refl _) new
      have n1 : d ≠ z := fun q => hd (by simp [q])
      have n2 : d ≠ TO := fun q => hd (by simp [q])
      have n3 : d ≠ i1 := fun q => hd (by simp [q])
      have n4 : d ≠ i2 := fun q => hd (by simp [q])
      exact (sb.2 d n1).trans (hk d ob n1 n2 n3 n4 q)
    refine ⟨.ref s.heap.objs.size, _, I1, rfl, ⟨_, c, y, rfl, I.hok.fresh (Nat.le_refl _), rfl, hcx, fun vs hv => ?_⟩, ⟨hz'', ?_, ⟨.str ⟨#[c]⟩ tc, x2, ?_⟩, ⟨t, ?_⟩, ?_⟩, fun d hd => ?_⟩
    · rw [I.tuple_inj hv hq]
      exact hy
    · exact (sb.2 _ S.TIz).trans (hk _ _ S.TIz S.TITO S.TIi1 S.TIi2 hTI)
    · exact (sb.2 _ S.TOz).trans hTO'
    · obtain ⟨o1, e1, r1⟩ := st1
      exact ⟨o1, (sb.2 _ S.zi1.symm).trans e1, r1⟩
    · exact st2.1.at fun o q => (sb.2 _ S.zi2.symm).trans q
    · have hlt : d < s.heap.objs.size := by
        rcases five d hd with rfl | rfl | rfl | rfl | rfl
        · exact hzl
        · exact Heap.lt_size hTI
        · exact Heap.lt_size hTO
        · obtain ⟨_, q, _⟩ := h1; exact Heap.lt_size q
        · obtain ⟨_, q, _⟩ := h2; exact Heap.lt_size q
      rw [upd_ne (Nat.ne_of_lt hlt)]
      exact (hf d hd).1
  · intro X hP hw hK hc i pins s σ H E I hf st hg
    subst hP hw hK
    obtain ⟨hz, hTI, ⟨a1, a2, hTO⟩, ⟨t, h1⟩, h2⟩ := st
    obtain ⟨ys, hq, ei, ey⟩ := hg
    obtain ⟨its, rv, p, hzz⟩ := I.tuple hq
    have es : i = its.toArray.size := by
      have := rv.length
      simp
      omega
    refine wpAny_pyNext_zipD2_end S (Draws.text (A := X.A.in1) (show X.A.in1.handled = none from I.ok.hd hc) i1 x t) (Draws.tuple (A := X.A.in1) (show X.A.in1.handled = none from I.ok.hd hc) i2 b hb2 its.toArray) hz hTI hTO h1 ⟨h2, p⟩ (Nat.le_of_eq ei) (Nat.le_of_eq es) (.inl ei) fun h' tk hk => ⟨rfl, ?_⟩
    refine I.turnedL (t' := tk) (ch := [z, TI, TO, i1, i2]) (fun d ob hd q => ?_) hf
    exact hk d ob (fun q => hd (by simp [q])) (fun q => hd (by simp [q])) (fun q => hd (by simp [q])) (fun q => hd (by simp [q])) q
  · rintro A i s Q E ⟨hz, _⟩ h
    exact wpAny_pyIter_zip hz h
def iZipST (K : PySem.W.Frag) (ta : TA) : TI := fun σ H R => ta σ H fun vs H1 => ∃ x b ys, vs = [.str x, .ref b] ∧ SqT K H1 b ys ∧ R (ItST K x b) H1
theorem pi_zipST {X : Cx} {e e2 : Expr} {ta : TA} {p pos tpos : Pos} {elts : List Expr} {kk : Nat} (hg : Gl X "zip") (hm : X.mg "zip" = none) (ha : PA X [e, e2] ta)
    (hs : starEach [e, e2] X.env = (false, eval e X.env) :: starEach [e2] X.env := by rfl) (hpl : (backTo pos (starEach [e2] X.env)).any (·.1) = false := by rfl) :
    PI X (.Tuple elts kk tpos) (.Call (.Name "zip" p) [e, e2] [] pos) (iZipST X.K ta) := by
  refine ⟨fun pins s σ H R I h => ?_⟩
  refine Call_ (ld_blt I hg hm PyProof.Rows.boot_zip (PyProof.Rows.callWith_type1 (thn (ha.run pos pins s σ H _ I h) fun us s1 ⟨vs, H1, I1, r1, q1⟩ => ?_) hs hpl))
  obtain ⟨x, b, ys, ex, hq, q⟩ := q1
  subst ex
  cases r1 with
  | cons r rr =>
    cases rr with
    | cons r' rr =>
      cases rr
      cases r'
      obtain ⟨t, rfl⟩ := r
      obtain ⟨its, rv, p', hz⟩ := I1.tuple hq
      refine zip_begins2 (begins_text x t) (begins_tuple b its.toArray) trivial p' fun h' hz hTI hTO h1 h2 hsz hk => wpAny_pyIter_zip hz ?_
      have I2 : Inv X pins σ H1 { s1 with heap := h' } := I1.kept (t' := s1.toks) hk
      have hbl : b < s1.heap.objs.size := by obtain ⟨_, q, _⟩ := p'; exact Heap.lt_size q
      refine ⟨s1.heap.objs.size + 4, [s1.heap.objs.size + 4, s1.heap.objs.size + 2, s1.heap.objs.size + 3, s1.heap.objs.size, s1.heap.objs.size + 1], _, _, H1, rfl, I2,
        turnST (zip_sep2 (fp1 := []) (fp2 := [b]) (by simp) (by simpa using hbl)) (Nat.ne_of_lt (Nat.lt_succ_of_lt hbl)), ⟨hz, hTI, ⟨_, _, hTO⟩, ⟨t, _, h1, rfl, rfl⟩, ⟨_, h2, rfl, rfl⟩⟩, fun c hc => ?_, q⟩
      have hle : s1.heap.objs.size ≤ c := by
        rcases (by simpa using hc : c = s1.heap.objs.size + 4 ∨ c = s1.heap.objs.size + 2 ∨ c = s1.heap.objs.size + 3 ∨ c = s1.heap.objs.size ∨ c = s1.heap.objs.size + 1) with z | z | z | z | z <;> rw [z]
        · exact Nat.le_add_right _ _
        · exact Nat.le_add_right _ _
        · exact Nat.le_add_right _ _
        · exact Nat.le_refl _
        · exact Nat.le_add_right _ _
      exact I1.fpOk hle (I1.hok.fresh hle)
theorem walkST {K : PySem.W.Frag} {x : Str} {b : Addr} {ys : List V} (hn : x.cps.size = ys.length) : Walk (ItST K x b) ys.length (fun H => SqT K H b ys) (YPair (fun i => x.cps[i]?.map fun c => .str ⟨#[c]⟩) (fun i => ys[i]?)) := by
  refine ⟨fun i _ hi q => ⟨ys, ys[i], q, by simp [hi], by omega⟩, fun _ q => ⟨ys, q, hn.symm, rfl⟩, fun i H v H' _ q y => ?_⟩
  obtain ⟨T, c, z, h1, h2, h3, h4, h5⟩ := y
  exact ⟨T, .str ⟨#[c]⟩, z, h1, h2, h3, by simp [h4], h5 ys q⟩
end
end LB
/-! Written tables (dicts with text keys), constants, kinds. Own text. -/
namespace LB
open PySem PySem.Spec PyProof.Rows L2
/-- the value found, or nothing -/
def Rl : Option V → Option Value → Prop
  | some v, some u => RelV v u
  | none, none => True
  | _, _ => False
def EntsAt : List DictEntry → List (Str × V) → Prop
  | [], [] => True
  | e :: r, kv :: t => (∃ tk, e.key = .str kv.1 tk) ∧ RelV kv.2 e.val ∧ EntsAt r t
  | _, _ => False
/-- a written dict whose keys are texts -/
structure WD (K : PySem.W.Frag) (w : World) (d : Addr) (kvs : List (Str × V)) : Prop where
  ex : ∃ es n, KDict K w d es n ∧ EntsAt es.toList kvs
def lk (kvs : List (Str × V)) (z : Str) : Option V := (kvs.find? fun kv => kv.1 == z).map (·.2)
theorem ents_find (z : Str) : ∀ (es : List DictEntry) (kvs : List (Str × V)), EntsAt es kvs →
    (∃ e, es.find? (·.key.isStr z) = some e ∧ Rl (lk kvs z) (some e.val)) ∨ (es.find? (·.key.isStr z) = none ∧ es.any (·.refKey) = false ∧ lk kvs z = none)
  | [], [], _ => .inr ⟨rfl, rfl, rfl⟩
  | e :: r, kv :: t, h => by
    obtain ⟨⟨tk, h1⟩, h2, h3⟩ := h
    have ek : e.key.isStr z = (kv.1 == z) := by rw [h1]; rfl
    cases q : (kv.1 == z) with
    | true =>
      refine .inl ⟨e, ?_, ?_⟩
      · rw [List.find?_cons, ek, q]
      · unfold lk
        rw [List.find?_cons, q]
        exact h2
    | false =>
      have e2 : lk (kv :: t) z = lk t z := by
        unfold lk
        rw [List.find?_cons, q]
      rw [e2, List.find?_cons, ek, q, List.any_cons]
      have e3 : e.refKey = false := by
        unfold DictEntry.refKey
        rw [h1]
      rw [e3, Bool.false_or]
      exact ents_find z r t h3
theorem WD.ns {K : PySem.W.Frag} {w : World} {d : Addr} {kvs : List (Str × V)} (D : WD K w d kvs) (z : Str) : ∃ es n r, KDict K w d es n ∧ PySem.W.nsIn K d z = some r ∧ Rl (lk kvs z) r := by
  obtain ⟨es, n, kd, h⟩ := D.ex
  have q : PySem.W.nsIn K d z = (match es.toList.find? (·.key.isStr z) with
      | some e => some (some e.val)
      | none => if es.toList.any (·.refKey) then none else some none) := by
    unfold PySem.W.nsIn
    rw [kd.at_]
    rfl
  rcases ents_find z _ _ h with ⟨e, h1, h2⟩ | ⟨h1, h2, h3⟩
  · refine ⟨es, n, some e.val, kd, ?_, h2⟩
    rw [q, h1]
  · refine ⟨es, n, none, kd, ?_, by rw [h3]; trivial⟩
    rw [q, h1, h2]
    rfl
section
variable {X : Cx} {d : Addr} {kvs : List (Str × V)}
/-- z in TABLE -/
theorem op_inW (D : WD X.K X.w d kvs) : OpR X (compareOp .In) (fun x y H Q => ∃ z : Str, x = .str z ∧ y = .ref d ∧ Q (.bl (lk kvs z).isSome) H) := by
  intro pins s σ H x y v u Q I rx ry h
  obtain ⟨z, e1, e2, q⟩ := h
  obtain ⟨es, n, r, kd, e, rl⟩ := D.ns z
  have er : (lk kvs z).isSome = r.isSome := by
    cases h1 : lk kvs z <;> cases h2 : r <;> rw [h1, h2] at rl <;> first | rfl | exact rl.elim
  exact op_in_kd kd pins s σ H x y v u Q I rx ry ⟨z, r, e1, e2, e, by rw [← er]; exact q⟩
theorem WD.item (D : WD X.K X.w d kvs) {z : Str} {v : V} (h : lk kvs z = some v) : KDct X.K X.w d z v := by
  obtain ⟨es, n, r, kd, e, rl⟩ := D.ns z
  rw [h] at rl
  cases r with
  | none => exact rl.elim
  | some u => exact ⟨es, n, u, kd.at_, kd.lit, e, rl⟩
/-- TABLE.get(z) -/
theorem pe_getW {o e : Expr} {apos cpos : Pos} {td ty : TE} (D : WD X.K X.w d kvs) (ho : PE X o td) (he : PE X e ty) (m : M1 X o "get" apos e cpos) :
    PE X (.Call (.Attribute o "get" apos) [e] [] cpos) (fun σ H Q => td σ H fun x H1 => x = .ref d ∧ ty σ H1 fun y H2 => ∃ z : Str, y = .str z ∧ Q ((lk kvs z).getD .non) H2) := by
  refine ⟨fun pins s σ H Q I h => ?_⟩
  refine wpAny_Call_method m.base m.few m.line PySem.F.plainAttrs_dict PySem.F.slot_dict_get PySem.F.type_dict_get (thn (ho.run pins s σ H _ I h) fun u s1 ⟨x, H1, I1, rx, ex, q1⟩ => ?_)
  subst ex
  obtain rfl : u = Value.ref d := rx
  obtain ⟨es, n, kd, h0⟩ := D.ex
  refine ⟨kd_type kd I1, fun b q => ?_, ?_⟩
  · cases q
    exact ⟨_, I1.kIn d _ kd.at_, rfl⟩
  rw [m.trees]
  refine Calls.callWith_builtin rfl (Calls.evalArgs_plain (Calls.spliced_cons (thn (he.run pins s1 σ H1 _ I1 q1) fun iv s2 ⟨y, H2, I2, ry, z, ez, q2⟩ => Calls.spliced_nil ?_)))
  subst ez
  obtain ⟨t, rfl⟩ := ry
  obtain ⟨es', n', r, kd', e', rl⟩ := D.ns z
  refine call_meetsIn PySem.F.slot_dict_get (kd_type kd' I2) PySem.F.entry_dict_get (PySem.F.args_dict_get_2 _ _) (meets_dict_get (PySem.strKind X.prog X.w) d (PySem.strKind_is X.prog X.w z t) kd'.low) ⟨_, PySem.W.mapOf_K (prog := X.prog) I2.kIn kd'.at_ kd'.lit, ?_⟩
  rw [PySem.W.find_K kd'.at_ e']
  refine ⟨(lk kvs z).getD .non, H2, I2.tok _, ?_, q2⟩
  cases h1 : lk kvs z <;> cases h2 : r <;> rw [h1, h2] at rl <;> first | exact rl.elim | exact rl | rfl
/-- a constant of the module -/
theorem pe_gint {x : Str} {i : Int} {pos : Pos} (hm : ∃ t, X.mg x = some (.int i t)) (hg : Gl X x := by rfl) (hd : (x == ("__debug__" : Str)) = false := by decide) : PE X (.Name x pos) (tC (.int i)) := by
  obtain ⟨t, hm⟩ := hm
  exact pe_glob hg hm ⟨t, rfl⟩ hd
theorem pe_gref {x : Str} {a : Addr} {pos : Pos} (hm : X.mg x = some (.ref a)) (hg : Gl X x := by rfl) (hd : (x == ("__debug__" : Str)) = false := by decide) : PE X (.Name x pos) (tC (.ref a)) := pe_glob hg hm rfl hd
end
/-- a written tuple -/
def KTup (K : PySem.W.Frag) (a : Addr) (xs : List V) : Prop := ∃ (o : Obj) (its : Array Value) (n : Nat), K.lookup a = some o ∧ o.cls = .type "tuple" ∧ o.data = .seq its n ∧ its.size ≤ sizeLine ∧ Vals xs its.toList
theorem KTup.at_ {K : PySem.W.Frag} {H : Hp} {a : Addr} {xs : List V} (h : KTup K a xs) : SqT K H a xs := .inr h
theorem ty_tup {K : PySem.W.Frag} {H : Hp} {a : Addr} {xs : List V} (h : SqT K H a xs) : TyX K H (.ref a) (.type "tuple") := by
  rcases h with (h | ⟨o, h⟩) | ⟨o, its, n, h, c, _⟩
  · exact .base (.tup h)
  · exact .fTuple h
  · exact .kTuple h c
theorem ty_lst {K : PySem.W.Frag} {H : Hp} {a : Addr} {xs : List V} (h : SqL K H a xs) : TyX K H (.ref a) (.type "list") := by
  rcases h with (h | ⟨o, h⟩) | ⟨o, its, n, h, c, _⟩
  · exact .base (.lst h)
  · exact .base (.frz h)
  · exact .kList h c
theorem kit (a b : String) {K : PySem.W.Frag} {r : Bool} (h : kitB a b = some r) : PySem.W.kitOne K (.type a) (.type b) = some r := h
end LB
namespace LB
open PySem L2
def signsTab : List (Str × V) := [("put", .str "wn"), ("move", .str "wb"), ("add", .str "wbb"), ("take", .str "wbb"), ("times", .str "wbb"), ("get", .str "wb"), ("set", .str "bb"), ("say", .str "b"), ("rest", .str ""), ("go", .str "r"), ("if", .str "br"), ("stop", .str "")]
def lateTab : List (Str × V) := [("put", .int 0), ("move", .int 0), ("add", .int 0), ("take", .int 0), ("get", .int 1), ("times", .int 2)]
/-- what the module's top has bound -/
structure Gb (K : PySem.W.Frag) (w : World) (mg : Str → Option Value) (dS : Addr) : Prop where
  boxes : ∃ t, mg "BOXES" = some (.int 8 t)
  held : ∃ t, mg "MOST_HELD" = some (.int 999 t)
  rows : ∃ t, mg "MOST_ROWS" = some (.int 200 t)
  signs : mg "SIGNS" = some (.ref dS)
  signsAt : WD K w dS signsTab
structure Gs (K : PySem.W.Frag) (w : World) (mg : Str → Option Value) (dS dL tM : Addr) : Prop extends Gb K w mg dS where
  late : mg "LATE_AT" = some (.ref dL)
  lateAt : WD K w dL lateTab
  mostLate : mg "MOST_LATE" = some (.ref tM)
  mostLateAt : KTup K tM [.int 2, .int 4, .int 4, .int 3]
abbrev GC (mg : Str → Option Value) : Prop := ∃ t, mg "CELLS" = some (.int 16 t)
abbrev GJ (mg : Str → Option Value) : Prop := ∃ t, mg "JUMP_AT" = some (.int 3 t)
abbrev GF (mg : Str → Option Value) : Prop := ∃ t, mg "MOST_FUEL" = some (.int 1000 t)
/-- built-ins still, further -/
structure Bl2 (mg : Str → Option Value) : Prop where
  b : Bl mg
  isi : mg "isinstance" = none
  int : mg "int" = none
  bool : mg "bool" = none
  str : mg "str" = none
  all : mg "all" = none
  zip : mg "zip" = none
  enum : mg "enumerate" = none
def Rw.word : Rw → Str
  | .put _ _ => "put" | .move _ _ => "move" | .add _ _ _ => "add" | .take _ _ _ => "take" | .times _ _ _ => "times" | .get _ _ => "get" | .set _ _ => "set" | .say _ => "say" | .rest => "rest" | .go _ => "go" | .iff _ _ => "if" | .stop => "stop"
def Rw.signs : Rw → Str
  | .put _ _ => "wn" | .move _ _ => "wb" | .add _ _ _ => "wbb" | .take _ _ _ => "wbb" | .times _ _ _ => "wbb" | .get _ _ => "wb" | .set _ _ => "bb" | .say _ => "b" | .rest => "" | .go _ => "r" | .iff _ _ => "br" | .stop => ""
def Rw.args : Rw → List Int
  | .put b n => [b, n] | .move b c => [b, c] | .add b c d => [b, c, d] | .take b c d => [b, c, d] | .times b c d => [b, c, d] | .get b c => [b, c] | .set c d => [c, d] | .say c => [c] | .rest => [] | .go r => [r] | .iff c r => [c, r] | .stop => []
theorem Rw.vals_eq (r : Rw) : r.vals = .str r.word :: r.args.map V.int := by cases r <;> rfl
theorem Rw.signs_lk (r : Rw) : lk signsTab r.word = some (.str r.signs) := by cases r <;> rfl
theorem Rw.signs_size (r : Rw) : r.signs.cps.size = r.args.length := by cases r <;> rfl
/-- the greatest number that a sign stands for -/
def mostFor (z : Str) (many : Int) : Int := if z = "n" then 999 else if z = "r" then many - 1 else 7
theorem mf_n (many : Int) : mostFor ⟨#[110]⟩ many = 999 := if_pos (by decide +kernel)
theorem mf_r (many : Int) : mostFor ⟨#[114]⟩ many = many - 1 := by
  unfold mostFor
  rw [if_neg (by decide +kernel), if_pos (by decide +kernel)]
theorem mf_b (many : Int) : mostFor ⟨#[98]⟩ many = 7 := by
  unfold mostFor
  rw [if_neg (by decide +kernel), if_neg (by decide +kernel)]
theorem mf_w (many : Int) : mostFor ⟨#[119]⟩ many = 7 := by
  unfold mostFor
  rw [if_neg (by decide +kernel), if_neg (by decide +kernel)]
theorem Bx.le {b many : Int} (h : Bx b) {c : Nat} (hc : c = 98 ∨ c = 119) : 0 ≤ b ∧ b ≤ mostFor ⟨#[c]⟩ many := by
  obtain ⟨h0, h1⟩ := h
  rcases hc with rfl | rfl
  · rw [mf_b]; omega
  · rw [mf_w]; omega
theorem at_1 {α : Type} {a x : α} {i : Nat} (h : [a][i]? = some x) : i = 0 ∧ x = a := by
  cases i with
  | zero => exact ⟨rfl, (Option.some.inj h).symm⟩
  | succ i => simp at h
theorem at_2 {α : Type} {a b x : α} {i : Nat} (h : [a, b][i]? = some x) : (i = 0 ∧ x = a) ∨ (i = 1 ∧ x = b) := by
  match i, h with
  | 0, h => exact .inl ⟨rfl, (Option.some.inj h).symm⟩
  | 1, h => exact .inr ⟨rfl, (Option.some.inj h).symm⟩
theorem at_3 {α : Type} {a b c x : α} {i : Nat} (h : [a, b, c][i]? = some x) : (i = 0 ∧ x = a) ∨ (i = 1 ∧ x = b) ∨ (i = 2 ∧ x = c) := by
  match i, h with
  | 0, h => exact .inl ⟨rfl, (Option.some.inj h).symm⟩
  | 1, h => exact .inr (.inl ⟨rfl, (Option.some.inj h).symm⟩)
  | 2, h => exact .inr (.inr ⟨rfl, (Option.some.inj h).symm⟩)
theorem sg {a : Str} {i c : Nat} (h : a.cps[i]? = some c) : a.cps.toList[i]? = some c := by
  rw [Array.getElem?_toList]
  exact h
theorem Rw.args_ok {r : Rw} {many : Int} (h : r.ok many) {i c : Nat} {z : Int} (hc : r.signs.cps[i]? = some c) (hz : r.args[i]? = some z) : 0 ≤ z ∧ z ≤ mostFor ⟨#[c]⟩ many := by
  have hc := sg hc
  cases r with
  | put b n =>
    rcases at_2 hz with ⟨rfl, rfl⟩ | ⟨rfl, rfl⟩
    · exact h.1.le (.inr (Option.some.inj hc).symm)
    · have e := Option.some.inj hc
      rw [← e]
      show 0 ≤ z ∧ z ≤ mostFor ⟨#[110]⟩ many
      rw [mf_n]
      have := h.2
      omega
  | move b c =>
    rcases at_2 hz with ⟨rfl, rfl⟩ | ⟨rfl, rfl⟩
    · exact h.1.le (.inr (Option.some.inj hc).symm)
    · exact h.2.le (.inl (Option.some.inj hc).symm)
  | add b c d =>
    rcases at_3 hz with ⟨rfl, rfl⟩ | ⟨rfl, rfl⟩ | ⟨rfl, rfl⟩
    · exact h.1.le (.inr (Option.some.inj hc).symm)
    · exact h.2.1.le (.inl (Option.some.inj hc).symm)
    · exact h.2.2.le (.inl (Option.some.inj hc).symm)
  | take b c d =>
    rcases at_3 hz with ⟨rfl, rfl⟩ | ⟨rfl, rfl⟩ | ⟨rfl, rfl⟩
    · exact h.1.le (.inr (Option.some.inj hc).symm)
    · exact h.2.1.le (.inl (Option.some.inj hc).symm)
    · exact h.2.2.le (.inl (Option.some.inj hc).symm)
  | times b c d =>
    rcases at_3 hz with ⟨rfl, rfl⟩ | ⟨rfl, rfl⟩ | ⟨rfl, rfl⟩
    · exact h.1.le (.inr (Option.some.inj hc).symm)
    · exact h.2.1.le (.inl (Option.some.inj hc).symm)
    · exact h.2.2.le (.inl (Option.some.inj hc).symm)
  | get b c =>
    rcases at_2 hz with ⟨rfl, rfl⟩ | ⟨rfl, rfl⟩
    · exact h.1.le (.inr (Option.some.inj hc).symm)
    · exact h.2.le (.inl (Option.some.inj hc).symm)
  | set c d =>
    rcases at_2 hz with ⟨rfl, rfl⟩ | ⟨rfl, rfl⟩
    · exact h.1.le (.inl (Option.some.inj hc).symm)
    · exact h.2.le (.inl (Option.some.inj hc).symm)
  | say c =>
    obtain ⟨rfl, rfl⟩ := at_1 hz
    exact Bx.le h (.inl (Option.some.inj hc).symm)
  | rest => cases hz
  | go q =>
    obtain ⟨rfl, rfl⟩ := at_1 hz
    have e := Option.some.inj hc
    rw [← e]
    show 0 ≤ z ∧ z ≤ mostFor ⟨#[114]⟩ many
    rw [mf_r]
    have h' : 0 ≤ z ∧ z < many := h
    omega
  | iff c q =>
    rcases at_2 hz with ⟨rfl, rfl⟩ | ⟨rfl, rfl⟩
    · exact h.1.le (.inl (Option.some.inj hc).symm)
    · have e := Option.some.inj hc
      rw [← e]
      show 0 ≤ z ∧ z ≤ mostFor ⟨#[114]⟩ many
      rw [mf_r]
      have := h.2
      omega
  | stop => cases hz
section
variable {P : Program} {w : World} {K : PySem.W.Frag} {mg : Str → Option Value} {base : Heap}
/-! ### is_whole, most_for -/
def spWhole : Sp := fun vs H Q _ => ∃ x m : Int, vs = [.int x, .int m] ∧ Q (.bl (decide (0 ≤ x ∧ x ≤ m))) H
theorem scWhole : FnScope ["x", "most"] ["x", "most"] (defScope sWhole) := ⟨rfl, rfl, rfl, by decide +kernel, rfl, by decide +kernel, by decide +kernel⟩
theorem ok_whole {f : Addr} {fd : FuncData} (F : Fun K "is_whole" "is_whole" sWhole f fd) (B : Bl2 mg) : FnOk P w K mg base CX0 1 f fd ["x", "most"] spWhole := by
  refine F.ok scWhole (fun vs H Q E h => ?_) (fun cdv A outer s H vs Q E hr h => ?_)
  · obtain ⟨x, m, rfl, _⟩ := h
    rfl
  · obtain ⟨x, m, rfl, k⟩ := h
    refine ⟨_, pss_one (ps_ret (pe_and (pe_callB call_isi (by rfl) B.isi (by decide +kernel) (pa_cons (pv 0) (pa_cons (pe_bltn (v := .ty "int") (by rfl) B.int (by decide +kernel) rfl) pa_nil)))
      (pe_and (pe_not (pe_callB call_isi (by rfl) B.isi (by decide +kernel) (pa_cons (pv 0) (pa_cons (pe_bltn (v := .ty "bool") (by rfl) B.bool (by decide +kernel) rfl) pa_nil))))
      (pe_one (pe_chain op_le op_le pe_int (pv 0) (pv 1)))))), ?_⟩
    refine ⟨_, rfl, _, _, _, _, true, rfl, .ty "int", .base (.int x), kit _ _ (by decide +kernel), true, rfl, iteT ?_⟩
    refine ⟨_, rfl, _, _, _, _, false, rfl, .ty "bool", .base (.int x), kit _ _ (by decide +kernel), false, rfl, true, rfl, iteT ?_⟩
    refine ⟨_, rfl, _, _, rfl, rfl, _, rfl, if_both (fun e => ?_) (fun e => ?_)⟩
    · have e' : 0 ≤ x := of_decide_eq_true e
      refine ⟨_, rfl, _, _, rfl, rfl, ?_⟩
      have q : decide (x ≤ m) = decide (0 ≤ x ∧ x ≤ m) := by simp [e']
      show Q (.bl (decide (x ≤ m))) H
      rw [q]
      exact k
    · have e' : ¬ 0 ≤ x := of_decide_eq_false e
      have q : decide (0 ≤ x ∧ x ≤ m) = false := by simp [e']
      show Q (.bl false) H
      rw [← q]
      exact k
def spMost : Sp := fun vs H Q _ => ∃ (z : Str) (many : Int), vs = [.str z, .int many] ∧ Q (.int (mostFor z many)) H
theorem scMost : FnScope ["sign", "many"] ["sign", "many"] (defScope sMost) := ⟨rfl, rfl, rfl, by decide +kernel, rfl, by decide +kernel, by decide +kernel⟩
theorem ok_most {f dS : Addr} {fd : FuncData} (F : Fun K "most_for" "most_for" sMost f fd) (G : Gb K w mg dS) : FnOk P w K mg base CX0 1 f fd ["sign", "many"] spMost := by
  refine F.ok scMost (fun vs H Q E h => ?_) (fun cdv A outer s H vs Q E hr h => ?_)
  · obtain ⟨z, m, rfl, _⟩ := h
    rfl
  · obtain ⟨z, many, rfl, k⟩ := h
    refine ⟨_, pss_cons (ps_if (pt_cmpR op_eq (pv 0) pe_str (nomark _)) (pss_one (ps_ret (pe_gint G.held))) pss_nil)
      (pss_cons (ps_if (pt_cmpR op_eq (pv 0) pe_str (nomark _)) (pss_one (ps_ret (pe_op op_sub (pv 1) pe_int))) pss_nil)
      (pss_one (ps_ret (pe_op op_sub (pe_gint G.boxes) pe_int)))), ?_⟩
    unfold mostFor at k
    refine ⟨_, rfl, rfl, _, rfl, if_both (fun e => ?_) (fun e => ?_)⟩
    · have e' : z = "n" := by have := of_decide_eq_true e; injection this
      rw [if_pos e'] at k
      exact k
    · have e' : ¬ z = "n" := fun q => of_decide_eq_false e (congrArg V.str q)
      rw [if_neg e'] at k
      refine ⟨_, rfl, rfl, _, rfl, if_both (fun e => ?_) (fun e => ?_)⟩
      · have e' : z = "r" := by have := of_decide_eq_true e; injection this
        rw [if_pos e'] at k
        exact ⟨_, rfl, _, _, rfl, rfl, k⟩
      · have e' : ¬ z = "r" := fun q => of_decide_eq_false e (congrArg V.str q)
        rw [if_neg e'] at k
        exact ⟨_, _, rfl, rfl, k⟩
/-! ### is_row: true of a row that can be -/
def spRow (K : PySem.W.Frag) : Sp := fun vs H Q _ => ∃ (v : V) (r : Rw) (many : Int), vs = [v, .int many] ∧ RowAt K H v r ∧ r.ok many ∧ ∀ H', Same H H' → Q (.bl true) H'
abbrev nsRow : List Str := ["row", "many", "signs", "sign", "x"]
theorem scRow : FnScope nsRow ["row", "many"] (defScope sRow) := ⟨rfl, rfl, rfl, by decide +kernel, rfl, by decide +kernel, by decide +kernel⟩
theorem all_true : ∀ n : Nat, (List.replicate n true).all id = true
  | 0 => rfl
  | n + 1 => by
    rw [List.replicate_succ, List.all_cons, all_true n]
    rfl
/-- a list of so many True stands at D, and all that was -/
def Trues (H0 : Hp) (D : Addr) (i : Nat) (H : Hp) : Prop := H D = some (.lst ((List.replicate i true).map V.bl)) ∧ Same H0 H
theorem Trues.step {H0 H : Hp} {D : Addr} {i : Nat} (h : Trues H0 D i H) (h0 : H0 D = none) : Trues H0 D (i + 1) (upd H D (.lst ((List.replicate i true).map V.bl ++ [.bl true]))) := by
  refine ⟨?_, fun b o e => ?_⟩
  · rw [upd_same, List.replicate_succ', List.map_append]
    rfl
  · rw [upd_ne (ne_of_none e h0)]
    exact h.2 b o e
theorem Trues.same {H0 H H' : Hp} {D : Addr} {i : Nat} (h : Trues H0 D i H) (s : Same H H') : Trues H0 D i H' := ⟨s _ _ h.1, h.2.trans s⟩
theorem ok_row {f dS : Addr} {fd : FuncData} (F : Fun K "is_row" "is_row" sRow f fd) (W : Cal P w K mg base 1 "is_whole" ["x", "most"] spWhole) (M : Cal P w K mg base 1 "most_for" ["sign", "many"] spMost) (B : Bl2 mg) (G : Gb K w mg dS) : FnOk P w K mg base CX0 2 f fd ["row", "many"] (spRow K) := by
  refine F.ok scRow (fun vs H Q E h => ?_) (fun cdv A outer s H vs Q E hr h => ?_)
  · obtain ⟨v, r, m, rfl, _⟩ := h
    rfl
  · obtain ⟨v, r, many, rfl, ⟨a, rfl, hT⟩, hok, k⟩ := h
    refine ⟨_, pss_cons (ps_if (PW.pt (pw_or (pt_not (pt_val (pe_callB call_isi (by rfl) B.isi (by decide +kernel) (pa_cons (pv 0) (pa_cons (pe_bltn (v := .ty "tuple") (by rfl) B.b.tuple (by decide +kernel) rfl) pa_nil)))))
        (pw_or (pt_not (pt_truth (pv 0) (by intro _; rfl)))
          (pw_or1 (pt_not (pt_val (pe_callB call_isi (by rfl) B.isi (by decide +kernel) (pa_cons (pe_ix ix_tup (pv 0) pe_int (fun _ _ => rfl)) (pa_cons (pe_bltn (v := .ty "str") (by rfl) B.str (by decide +kernel) rfl) pa_nil)))))))))
        (pss_one (ps_ret pe_bl)) pss_nil)
      (pss_cons (ps_set (i := 2) scRow.nd rfl (Or.inl rfl) (pe_getW G.signsAt (pe_gref G.signs) (pe_ix ix_tup (pv 0) pe_int (fun _ _ => rfl)) ⟨by rfl, by rfl, by rfl, by rfl⟩))
      (pss_cons (ps_if (PW.pt (pw_or (pt_cmpR op_isN (pv 2) pe_non (nomark _)) (pw_or1 (pt_cmpR op_ne (pe_callB call_len_seq (by rfl) B.b.len PySem.boot_len (pa_cons (pv 0) pa_nil)) (pe_op op_add (pe_callB call_len_str (by rfl) B.b.len PySem.boot_len (pa_cons (pv 2) pa_nil)) pe_int) (nomark _))))) (pss_one (ps_ret pe_bl)) pss_nil)
      (pss_one (ps_ret (pe_callB (cr_all rfl) (by rfl) B.all (by decide +kernel) (pa_cons
        (pe_lc (own := [("sign", 3), ("x", 4)]) (g := gTup K 2 (gCons (gName 3) (gCons (gName 4) gNil))) (by rfl) scRow.nd (pi_zipST (by rfl) B.zip (pa_cons (pv 2) (pa_cons (pe_slice sl_tupA (pv 0) (po_some pe_int) po_none) pa_nil)))
          (blkOk_by (own := [("sign", 3), ("x", 4)]) (N := nsRow) (sc := defScope sRow) (by decide +kernel))
          (fun _ _ _ _ _ => pg_tup rfl (pgs_cons (pg_name (i := 3) scRow.nd rfl (Or.inl rfl)) (pgs_cons (pg_name (i := 4) scRow.nd rfl (Or.inl rfl)) pgs_nil))) (fun _ _ _ _ _ => pts_nil)
          (fun _ _ _ _ _ => pe_cal W hr (pa_cons (pv 4) (pa_cons (pe_cal M hr (pa_cons (pv 3) (pa_cons (pv 1) pa_nil))) pa_nil)))) pa_nil)))))), ?_⟩
    have hv := r.vals_eq
    have hlen : r.vals.length = r.args.length + 1 := by rw [hv, List.length_cons, List.length_map]
    have h0 : atI r.vals 0 = some (.str r.word) := by rw [hv]; exact atI_nat (j := 0) rfl
    have hle : r.args.length ≤ 3 := by cases r <;> simp [Rw.args]
    refine ⟨_, rfl, _, _, _, _, true, rfl, .ty "tuple", ty_tup hT, kit _ _ (by decide +kernel), true, rfl, iteF ?_⟩
    refine ⟨_, rfl, true, .inr (.inl ⟨r.vals, hT, by rw [hv]; rfl⟩), iteF ?_⟩
    refine ⟨_, rfl, a, _, _, _, rfl, rfl, hT, h0, _, _, _, _, true, rfl, .ty "str", .base (.str _), kit _ _ (by decide +kernel), true, rfl, iteF ?_⟩
    refine ⟨rfl, _, rfl, a, _, _, _, rfl, rfl, hT, h0, _, rfl, ?_⟩
    rw [r.signs_lk]
    refine ⟨_, rfl, rfl, ?_⟩
    refine ⟨_, rfl, if_f (by rfl) ?_⟩
    have hsz : r.signs.length ≤ sizeLine := by
      show r.signs.cps.size ≤ sizeLine
      rw [r.signs_size]
      exact small (by omega)
    refine ⟨_, rfl, a, _, rfl, .inr hT, _, rfl, _, rfl, hsz, _, _, rfl, rfl, rfl, _, rfl, ?_⟩
    have ne1 : (!decide (V.int (r.vals.length : Int) = V.int ((r.signs.length : Int) + 1))) = false := by
      have e : V.int (r.vals.length : Int) = V.int ((r.signs.length : Int) + 1) := by
        show V.int (r.vals.length : Int) = V.int ((r.signs.cps.size : Int) + 1)
        rw [hlen, r.signs_size]
        exact congrArg V.int (by omega)
      rw [decide_eq_true e]
      rfl
    refine if_f ne1 ?_
    refine ⟨_, rfl, _, rfl, 1, rfl, a, r.vals, rfl, hT, fun hw => ?_, fun _ p hp => ?_⟩
    · have h1 := hw.1
      have h2 : HT.sIx r.vals.length 0 (some (1 : Int)) = min 1 r.vals.length := HT.sIx_nat _ _ 1
      rw [h2, hlen] at h1
      omega
    have hcut : cutV r.vals (some 1) none = r.args.map V.int := by
      unfold cutV
      rw [show HT.sIx r.vals.length 0 (some (1 : Int)) = min 1 r.vals.length from HT.sIx_nat _ _ 1, HT.sIx_none, hlen, show min 1 (r.args.length + 1) = 1 by omega, hv]
      show List.take (r.args.length + 1 - 1) (r.args.map V.int) = r.args.map V.int
      exact List.take_of_length_le (by rw [List.length_map]; omega)
    have s1 := same_new hp (.tup (cutV r.vals (some 1) none))
    refine ⟨r.signs, p, r.args.map V.int, rfl, tup_of (by rw [upd_same, hcut]), fun D hD => ?_⟩
    have hD1 : H D = none := s1.free hD
    have npD : p ≠ D := ne_of_none upd_same hD
    refine lc_it (walkST (K := K) (x := r.signs) (b := p) (ys := r.args.map V.int) (by rw [r.signs_size, List.length_map])) (fun i H' => Trues H D i H' ∧ H' p = some (.tup (r.args.map V.int)))
      ⟨⟨upd_same, s1.trans (same_new hD _)⟩, by rw [upd_ne npD, upd_same, hcut]⟩ (fun i H' _ h => tup_of h.2) ?_ ?_
    · rintro i x H1 H2 hi ⟨hT1, hp1⟩ ⟨T, c, y, rfl, nT, rfl, hc, hy⟩
      obtain ⟨c0, hc0, rfl⟩ := Option.map_eq_some_iff.mp hc
      obtain ⟨z, hz, rfl⟩ := map_get hy
      obtain ⟨z0, z1⟩ := Rw.args_ok hok hc0 hz
      refine ⟨T, [.str ⟨#[c0]⟩, .int z], rfl, tup_of upd_same, rfl, .str ⟨#[c0]⟩, [.int z], rfl, .int z, [], rfl, rfl, rfl, yes_if ?_⟩
      refine ⟨_, rfl, _, rfl, _, rfl, ⟨#[c0]⟩, many, rfl, z, mostFor ⟨#[c0]⟩ many, rfl, ?_⟩
      have sT := same_new nT (.tup [.str ⟨#[c0]⟩, .int z])
      have e1 : decide (0 ≤ z ∧ z ≤ mostFor ⟨#[c0]⟩ many) = true := decide_eq_true ⟨z0, z1⟩
      refine ⟨_, sT _ _ hT1.1, ?_, ?_, ?_⟩
      · rw [List.length_map, List.length_replicate]
        rw [List.length_map] at hi
        exact small1000 (by omega)
      · rw [e1]
        exact (hT1.same sT).step hD1
      · rw [upd_ne npD]
        exact sT _ _ hp1
    · rintro H' ⟨⟨h1, h2⟩, _⟩
      refine ⟨D, _, rfl, SqL.of h1, ?_⟩
      rw [all_true]
      exact k H' h2
end
end LB
namespace LB
open PySem L2
theorem walk_zipT {K : PySem.W.Frag} {a b : Addr} {xs ys : List V} (hl : xs.length = ys.length) : Walk (RZ.ItzT K a b) xs.length (fun H => SqT K H a xs ∧ SqT K H b ys) (YPair (fun i => xs[i]?) (fun i => ys[i]?)) := by
  refine ⟨fun i _ hi q => ?_, fun _ q => ⟨xs, ys, q.1, q.2, by omega⟩, fun i H v H' _ q y => ?_⟩
  · have h2 : i < ys.length := by omega
    exact ⟨xs, ys, xs[i], ys[i], q.1, q.2, by simp [hi], by simp [h2]⟩
  · obtain ⟨T, x, z, h1, h2, h3, h4, h5⟩ := y
    exact ⟨T, x, z, h1, h2, h3, h4 xs q.1, h5 ys q.2⟩
theorem same_prog {K : PySem.W.Frag} {a : Addr} {H H' : Hp} {rs : List Rw} (s : Same H H') (h : ProgAt K H a rs) : ProgAt K H' a rs := by
  obtain ⟨vs, q, hl, g⟩ := h
  refine ⟨vs, same_tup s q, hl, fun i r e => ?_⟩
  obtain ⟨v, e1, b, e2, e3⟩ := g i r e
  exact ⟨v, e1, b, e2, same_tup s e3⟩
/-- a drawn program -/
def RsOk (rs : List Rw) : Prop := 1 ≤ rs.length ∧ rs.length ≤ 200 ∧ ∀ r, r ∈ rs → r.ok rs.length
end LB
namespace LB
open PySem L2
theorem keys_tup {K : PySem.W.Frag} {H : Hp} {t : Addr} {xs : List V} (h : SqT K H t xs) (n : xs.length ≤ 9) : True := trivial
/-- which number of a mill tells how late a row's worth comes -/
def Rw.lix : Rw → Option Int
  | .put _ _ => some 0 | .move _ _ => some 0 | .add _ _ _ => some 0 | .take _ _ _ => some 0 | .times _ _ _ => some 2 | .get _ _ => some 1 | _ => none
/-- the box that a row's worth comes into -/
def Rw.box : Rw → Option Int
  | .put b _ => some b | .move b _ => some b | .add b _ _ => some b | .take b _ _ => some b | .times b _ _ => some b | .get b _ => some b | _ => none
theorem Rw.late_lk (r : Rw) : lk lateTab r.word = r.lix.map V.int := by cases r <;> rfl
theorem Rw.box_at {r : Rw} {b : Int} (h : r.box = some b) : r.args[0]? = some b := by cases r <;> first | exact h | cases h
theorem Rw.box_lix (r : Rw) : r.box.isSome = r.lix.isSome := by cases r <;> rfl
/-- how late a row's worth comes on a mill -/
def lateOf (ms : List Int) (r : Rw) : Nat := match r.lix with
  | some i => (ms.getD i.toNat 0).toNat
  | none => 0
def jumpOf (ms : List Int) : Int := ms.getD 3 0
def Rw.stops : Rw → Bool
  | .stop => true
  | _ => false
section
variable {P : Program} {w : World} {K : PySem.W.Frag} {mg : Str → Option Value} {base : Heap}
def spMade (K : PySem.W.Frag) : Sp := fun vs H Q _ => ∃ (v : V) (r : Rw), vs = [v] ∧ RowAt K H v r ∧ Q ((r.box.map V.int).getD .non) H
theorem scMade : FnScope ["row"] ["row"] (defScope sMade) := ⟨rfl, rfl, rfl, by decide +kernel, rfl, by decide +kernel, by decide +kernel⟩
theorem ok_made {f dS dL tM : Addr} {fd : FuncData} (F : Fun K "made_in" "made_in" sMade f fd) (G : Gs K w mg dS dL tM) : FnOk P w K mg base CX0 1 f fd ["row"] (spMade K) := by
  refine F.ok scMade (fun vs H Q E h => ?_) (fun cdv A outer s H vs Q E hr h => ?_)
  · obtain ⟨v, r, rfl, _⟩ := h
    rfl
  · obtain ⟨v, r, rfl, ⟨a, rfl, hT⟩, k⟩ := h
    refine ⟨_, pss_one (ps_ret (pe_ifExp (pt_cmpR (op_inW G.lateAt) (pe_ix ix_tup (pv 0) pe_int (fun _ _ => rfl)) (pe_gref G.late) (by rfl)) (pe_ix ix_tup (pv 0) pe_int (fun _ _ => rfl)) pe_non)), ?_⟩
    have h0 : atI r.vals 0 = some (.str r.word) := by rw [r.vals_eq]; exact atI_nat (j := 0) rfl
    refine ⟨_, rfl, a, _, _, _, rfl, rfl, hT, h0, _, rfl, rfl, _, rfl, ?_⟩
    have hl : (lk lateTab r.word).isSome = r.box.isSome := by rw [r.late_lk, r.box_lix, Option.isSome_map]
    rw [hl]
    cases e : r.box with
    | none =>
      rw [e] at k
      exact iteF k
    | some b =>
      rw [e] at k
      refine iteT ⟨_, rfl, a, _, _, .int b, rfl, rfl, hT, ?_, k⟩
      rw [r.vals_eq]
      refine atI_nat (j := 1) ?_
      show (r.args.map V.int)[0]? = some (.int b)
      rw [List.getElem?_map, Rw.box_at e]
      rfl
def spLate (K : PySem.W.Frag) : Sp := fun vs H Q _ => ∃ (v : V) (r : Rw) (m : Addr) (ms : List Int), vs = [v, .ref m] ∧ RowAt K H v r ∧ MillAt K H m ms ∧ MillOk ms ∧ Q (.int (lateOf ms r)) H
theorem scLate : FnScope ["row", "mill"] ["row", "mill"] (defScope sLate) := ⟨rfl, rfl, rfl, by decide +kernel, rfl, by decide +kernel, by decide +kernel⟩
theorem late_at {ms : List Int} {r : Rw} {i : Int} (hM : MillOk ms) (h : r.lix = some i) : atI (ms.map V.int) i = some (.int (lateOf ms r)) := by
  obtain ⟨p, g, t, j, rfl, h1, h2, h3, h4⟩ := hM
  unfold lateOf
  rw [h]
  have hi : i = 0 ∨ i = 1 ∨ i = 2 := by
    cases r <;> first | (cases h; decide) | cases h
  rcases hi with rfl | rfl | rfl
  · show some (V.int p) = some (V.int (p.toNat : Int))
    rw [Int.toNat_of_nonneg h1.1]
  · show some (V.int g) = some (V.int (g.toNat : Int))
    rw [Int.toNat_of_nonneg h2.1]
  · show some (V.int t) = some (V.int (t.toNat : Int))
    rw [Int.toNat_of_nonneg h3.1]
theorem ok_late {f dS dL tM : Addr} {fd : FuncData} (F : Fun K "lateness" "lateness" sLate f fd) (G : Gs K w mg dS dL tM) : FnOk P w K mg base CX0 1 f fd ["row", "mill"] (spLate K) := by
  refine F.ok scLate (fun vs H Q E h => ?_) (fun cdv A outer s H vs Q E hr h => ?_)
  · obtain ⟨v, r, m, ms, rfl, _⟩ := h
    rfl
  · obtain ⟨v, r, m, ms, rfl, ⟨a, rfl, hT⟩, hM, hMo, k⟩ := h
    refine ⟨_, pss_one (ps_ret (pe_ifExp (pt_cmpR (op_inW G.lateAt) (pe_ix ix_tup (pv 0) pe_int (fun _ _ => rfl)) (pe_gref G.late) (by rfl)) (pe_ix ix_tup (pv 1) (pe_ix ix_kdict (pe_gref G.late) (pe_ix ix_tup (pv 0) pe_int (fun _ _ => rfl)) (fun _ _ => rfl)) (fun _ _ => rfl)) pe_int)), ?_⟩
    have h0 : atI r.vals 0 = some (.str r.word) := by rw [r.vals_eq]; exact atI_nat (j := 0) rfl
    refine ⟨_, rfl, a, _, _, _, rfl, rfl, hT, h0, _, rfl, rfl, _, rfl, ?_⟩
    have hl : (lk lateTab r.word).isSome = r.lix.isSome := by rw [r.late_lk, Option.isSome_map]
    rw [hl]
    cases e : r.lix with
    | none =>
      have z : lateOf ms r = 0 := by unfold lateOf; rw [e]
      rw [z] at k
      exact iteF k
    | some i =>
      refine iteT ⟨_, rfl, _, rfl, a, _, _, _, rfl, rfl, hT, h0, _, _, .int i, rfl, rfl, G.lateAt.item (X := _) (by rw [r.late_lk, e]; rfl), m, _, _, _, rfl, rfl, hM, late_at hMo e, k⟩
/-! ### the other checks -/
def spChkM (K : PySem.W.Frag) : Sp := fun vs H Q _ => ∃ (m : Addr) (ms : List Int), vs = [.ref m] ∧ MillAt K H m ms ∧ MillOk ms ∧ ∀ H', Same H H' → Q .non H'
abbrev nsChkM : List Str := ["mill", "x", "most"]
theorem scChkM : FnScope nsChkM ["mill"] (defScope sChkM) := ⟨rfl, rfl, rfl, by decide +kernel, rfl, by decide +kernel, by decide +kernel⟩
theorem mill_le {ms : List Int} (h : MillOk ms) {i : Nat} {x y : V} (hx : (ms.map V.int)[i]? = some x) (hy : [V.int 2, V.int 4, V.int 4, V.int 3][i]? = some y) : ∃ a b : Int, x = .int a ∧ y = .int b ∧ 0 ≤ a ∧ a ≤ b := by
  obtain ⟨p, g, t, j, rfl, h1, h2, h3, h4⟩ := h
  match i, hx, hy with
  | 0, hx, hy => exact ⟨p, 2, (Option.some.inj hx).symm, (Option.some.inj hy).symm, h1.1, h1.2⟩
  | 1, hx, hy => exact ⟨g, 4, (Option.some.inj hx).symm, (Option.some.inj hy).symm, h2.1, h2.2⟩
  | 2, hx, hy => exact ⟨t, 4, (Option.some.inj hx).symm, (Option.some.inj hy).symm, h3.1, h3.2⟩
  | 3, hx, hy => exact ⟨j, 3, (Option.some.inj hx).symm, (Option.some.inj hy).symm, h4.1, h4.2⟩
theorem ok_chkM {f dS dL tM : Addr} {fd : FuncData} (F : Fun K "check_mill" "check_mill" sChkM f fd) (W : Cal P w K mg base 1 "is_whole" ["x", "most"] spWhole) (B : Bl2 mg) (G : Gs K w mg dS dL tM) : FnOk P w K mg base CX0 2 f fd ["mill"] (spChkM K) := by
  refine F.ok scChkM (fun vs H Q E h => ?_) (fun cdv A outer s H vs Q E hr h => ?_)
  · obtain ⟨m, ms, rfl, _⟩ := h
    rfl
  · obtain ⟨m, ms, rfl, hM, hMo, k⟩ := h
    have hml : ms.length = 4 := by obtain ⟨_, _, _, _, rfl, _⟩ := hMo; rfl
    refine ⟨_, pss_cons (ps_if (pt_cmpR op_ne (pe_callB call_len_seq (by rfl) B.b.len PySem.boot_len (pa_cons (pv 0) pa_nil)) (pe_callB call_len_seq (by rfl) B.b.len PySem.boot_len (pa_cons (pe_gref G.mostLate) pa_nil)) (nomark _)) (pss_one ps_never) pss_nil)
      (pss_one (ps_if (pt_not (pt_val (pe_callB (cr_all rfl) (by rfl) B.all (by decide +kernel) (pa_cons
        (pe_lc (own := [("x", 1), ("most", 2)]) (g := gTup K 2 (gCons (gName 1) (gCons (gName 2) gNil))) (by rfl) scChkM.nd (RZ.pi_zipA (by rfl) B.zip (pa_cons (pv 0) (pa_cons (pe_gref G.mostLate) pa_nil)))
          (blkOk_by (own := [("x", 1), ("most", 2)]) (N := nsChkM) (sc := defScope sChkM) (by decide +kernel))
          (fun _ _ _ _ _ => pg_tup rfl (pgs_cons (pg_name (i := 1) scChkM.nd rfl (Or.inl rfl)) (pgs_cons (pg_name (i := 2) scChkM.nd rfl (Or.inl rfl)) pgs_nil))) (fun _ _ _ _ _ => pts_nil)
          (fun _ _ _ _ _ => pe_cal W hr (pa_cons (pv 1) (pa_cons (pv 2) pa_nil)))) pa_nil)))) (pss_one ps_never) pss_nil)), ?_⟩
    have ne1 : (!decide (V.int ((ms.map V.int).length : Int) = V.int (([V.int 2, V.int 4, V.int 4, V.int 3] : List V).length : Int))) = false := by
      rw [List.length_map, hml]
      rfl
    refine ⟨_, rfl, m, _, rfl, .inr hM, tM, _, rfl, .inr G.mostLateAt.at_, rfl, _, rfl, if_f ne1 ?_⟩
    refine ⟨_, rfl, m, tM, _, _, rfl, .inr ⟨hM, G.mostLateAt.at_, fun D hD => ?_⟩⟩
    refine lc_it (walk_zipT (K := K) (a := m) (b := tM) (xs := ms.map V.int) (ys := [.int 2, .int 4, .int 4, .int 3]) (by rw [List.length_map, hml]; rfl)) (fun i H' => Trues H D i H')
      ⟨upd_same, same_new hD _⟩ (fun i H' _ h => ⟨same_tup h.2 hM, G.mostLateAt.at_⟩) ?_ ?_
    · rintro i x H1 H2 hi hT1 ⟨T, x1, y1, rfl, nT, rfl, hx, hy⟩
      obtain ⟨a, b, rfl, rfl, a0, a1⟩ := mill_le hMo hx hy
      refine ⟨T, [.int a, .int b], rfl, tup_of upd_same, rfl, .int a, [.int b], rfl, .int b, [], rfl, rfl, rfl, yes_if ?_⟩
      refine ⟨_, rfl, _, rfl, a, b, rfl, ?_⟩
      have sT := same_new nT (.tup [.int a, .int b])
      refine ⟨_, sT _ _ hT1.1, ?_, ?_⟩
      · rw [List.length_map, List.length_replicate]
        rw [List.length_map, hml] at hi
        exact small1000 (by omega)
      · rw [decide_eq_true (⟨a0, a1⟩ : 0 ≤ a ∧ a ≤ b)]
        exact (hT1.same sT).step hD
    · rintro H' ⟨h1, h2⟩
      refine ⟨D, _, rfl, SqL.of h1, _, rfl, ?_⟩
      rw [all_true]
      exact iteF (k H' h2)
end
end LB
namespace LB
open PySem L2
section
variable {P : Program} {w : World} {K : PySem.W.Frag} {mg : Str → Option Value} {base : Heap}
def CsOk (cs : List Int) : Prop := cs.length = 16 ∧ ∀ z, z ∈ cs → 0 ≤ z ∧ z < 1000
def spChkC (K : PySem.W.Frag) : Sp := fun vs H Q _ => ∃ (a : Addr) (cs : List Int), vs = [.ref a] ∧ SqL K H a (cs.map V.int) ∧ CsOk cs ∧ ∀ H', Same H H' → Q .non H'
abbrev nsChkC : List Str := ["cells", "x"]
theorem scChkC : FnScope nsChkC ["cells"] (defScope sChkC) := ⟨rfl, rfl, rfl, by decide +kernel, rfl, by decide +kernel, by decide +kernel⟩
theorem ok_chkC {f dS dL tM : Addr} {fd : FuncData} (F : Fun K "check_cells" "check_cells" sChkC f fd) (W : Cal P w K mg base 1 "is_whole" ["x", "most"] spWhole) (B : Bl2 mg) (G : Gs K w mg dS dL tM) (gC : GC mg) : FnOk P w K mg base CX0 2 f fd ["cells"] (spChkC K) := by
  refine F.ok scChkC (fun vs H Q E h => ?_) (fun cdv A outer s H vs Q E hr h => ?_)
  · obtain ⟨m, ms, rfl, _⟩ := h
    rfl
  · obtain ⟨a, cs, rfl, hL, ⟨hl, hc⟩, k⟩ := h
    refine ⟨_, pss_cons (ps_if (pt_cmpR op_ne (pe_callB call_len_seq (by rfl) B.b.len PySem.boot_len (pa_cons (pv 0) pa_nil)) (pe_gint gC) (nomark _)) (pss_one ps_never) pss_nil)
      (pss_one (ps_if (pt_not (pt_val (pe_callB (cr_all rfl) (by rfl) B.all (by decide +kernel) (pa_cons
        (pe_lc (own := [("x", 1)]) (g := gName 1) (by rfl) scChkC.nd (pi_list (pv 0)) (blkOk_by (own := [("x", 1)]) (N := nsChkC) (sc := defScope sChkC) (by decide +kernel))
          (fun _ _ _ _ _ => pg_name (i := 1) scChkC.nd rfl (Or.inl rfl)) (fun _ _ _ _ _ => pts_nil)
          (fun _ _ _ _ _ => pe_cal W hr (pa_cons (pv 1) (pa_cons (pe_gint G.held) pa_nil)))) pa_nil)))) (pss_one ps_never) pss_nil)), ?_⟩
    have ne1 : (!decide (V.int ((cs.map V.int).length : Int) = V.int 16)) = false := by
      rw [List.length_map, hl]
      rfl
    refine ⟨_, rfl, a, _, rfl, .inl hL, rfl, _, rfl, if_f ne1 ?_⟩
    refine ⟨_, rfl, a, rfl, ⟨_, hL⟩, fun D hD => ?_⟩
    refine lc_list (K := K) (xs := cs.map V.int) (fun i H' => Trues H D i H') ⟨upd_same, same_new hD _⟩ (fun i H' _ h => h.2.seq hL) ?_ ?_
    · intro i x H1 hx hT1
      obtain ⟨z, hz, rfl⟩ := map_get hx
      obtain ⟨z0, z1⟩ := hc z (List.mem_of_getElem? hz)
      refine ⟨rfl, yes_if ⟨_, rfl, z, 999, rfl, _, hT1.1, ?_, ?_⟩⟩
      · rw [List.length_map, List.length_replicate]
        have := (List.getElem?_eq_some_iff.mp hz).1
        exact small1000 (by omega)
      · rw [decide_eq_true (⟨z0, by omega⟩ : 0 ≤ z ∧ z ≤ 999)]
        exact hT1.step hD
    · rintro H' ⟨h1, h2⟩
      refine ⟨D, _, rfl, SqL.of h1, _, rfl, ?_⟩
      rw [all_true]
      exact iteF (k H' h2)
def spChkF : Sp := fun vs H Q _ => ∃ n : Int, vs = [.int n] ∧ 0 ≤ n ∧ n ≤ 1000 ∧ Q .non H
theorem scChkF : FnScope ["fuel"] ["fuel"] (defScope sChkF) := ⟨rfl, rfl, rfl, by decide +kernel, rfl, by decide +kernel, by decide +kernel⟩
theorem ok_chkF {f : Addr} {fd : FuncData} (F : Fun K "check_fuel" "check_fuel" sChkF f fd) (W : Cal P w K mg base 1 "is_whole" ["x", "most"] spWhole) (gF : GF mg) : FnOk P w K mg base CX0 2 f fd ["fuel"] spChkF := by
  refine F.ok scChkF (fun vs H Q E h => ?_) (fun cdv A outer s H vs Q E hr h => ?_)
  · obtain ⟨m, rfl, _⟩ := h
    rfl
  · obtain ⟨n, rfl, n0, n1, k⟩ := h
    refine ⟨_, pss_one (ps_if (pt_not (pt_val (pe_cal W hr (pa_cons (pv 0) (pa_cons (pe_gint gF) pa_nil))))) (pss_one ps_never) pss_nil), ?_⟩
    refine ⟨_, rfl, n, 1000, rfl, _, rfl, ?_⟩
    rw [decide_eq_true (⟨n0, n1⟩ : 0 ≤ n ∧ n ≤ 1000)]
    exact iteF k
end
end LB
namespace LB
open PySem L2
/-- data of so many lists within one another, not too long -/
inductive Sm : Nat → PyData → Prop
  | non (n : Nat) : Sm n .none
  | bl (n : Nat) (b : Bool) : Sm n (.bool b)
  | int (n : Nat) (i : Int) : Sm n (.int i)
  | str (n : Nat) (x : Str) : Sm n (.str x)
  | lst {n : Nat} {ds : List PyData} (h : ds.length ≤ 5000) (a : ∀ e, e ∈ ds → Sm n e) : Sm (n + 1) (.list ds)
  | tup {n : Nat} {ds : List PyData} (h : ds.length ≤ 5000) (a : ∀ e, e ∈ ds → Sm n e) : Sm (n + 1) (.tuple ds)
section
variable {P : Program} {w : World} {K : PySem.W.Frag} {mg : Str → Option Value} {base : Heap}
def spA (K : PySem.W.Frag) : Nat → Sp
  | 0 => fun _ _ _ _ => False
  | n + 1 => fun vs H Q _ => ∃ (x y : V) (d : PyData), vs = [x, y] ∧ Dp K H x d ∧ Dp K H y d ∧ Sm n d ∧ ∀ H', Same H H' → Q (.bl true) H'
abbrev nsAlike : List Str := ["_law_found", "_law_due", "_law_k"]
abbrev psAlike : List Str := ["_law_found", "_law_due"]
theorem scAlike : FnScope nsAlike psAlike (defScope sAlike) := ⟨rfl, rfl, rfl, by decide +kernel, rfl, by decide +kernel, by decide +kernel⟩
theorem same_lst {K : PySem.W.Frag} {H H' : Hp} {a : Addr} {xs : List V} (s : Same H H') (h : SqL K H a xs) : SqL K H' a xs := s.seq h
mutual
theorem dp_same {K : PySem.W.Frag} {H H' : Hp} (s : Same H H') : ∀ {d : PyData} {x : V}, Dp K H x d → Dp K H' x d
  | .none, _, h => by cases h; exact .non
  | .bool b, _, h => by cases h; exact .bl b
  | .int i, _, h => by cases h; exact .int i
  | .str z, _, h => by cases h; exact .str z
  | .list ds, _, h => by
    cases h with
    | lst h a => exact .lst (s.seq h) (dpAll_same s a)
  | .tuple ds, _, h => by
    cases h with
    | tup h a => exact .tup (same_tup s h) (dpAll_same s a)
  | .dict _, _, h => by cases h
theorem dpAll_same {K : PySem.W.Frag} {H H' : Hp} (s : Same H H') : ∀ {ds : List PyData} {xs : List V}, DpAll K H xs ds → DpAll K H' xs ds
  | [], _, h => by cases h; exact .nil
  | d :: ds, _, h => by
    cases h with
    | cons h a => exact .cons (dp_same s h) (dpAll_same s a)
end
theorem dpAll_get {K : PySem.W.Frag} {H : Hp} : ∀ {ds : List PyData} {xs : List V} {i : Nat} {d : PyData}, DpAll K H xs ds → ds[i]? = some d → ∃ x, xs[i]? = some x ∧ Dp K H x d
  | [], _, _, _, _, e => by simp at e
  | d0 :: ds, _, i, d, h, e => by
    cases h with
    | cons h a =>
      cases i with
      | zero => exact ⟨_, rfl, by rw [← Option.some.inj e]; exact h⟩
      | succ i =>
        obtain ⟨x, e1, e2⟩ := dpAll_get (i := i) a e
        exact ⟨x, e1, e2⟩
theorem dpAll_len {K : PySem.W.Frag} {H : Hp} : ∀ {ds : List PyData} {xs : List V}, DpAll K H xs ds → xs.length = ds.length
  | [], _, h => by cases h; rfl
  | d :: ds, _, h => by
    cases h with
    | cons h a => simp [dpAll_len a]
theorem ok_alike {n : Nat} {f : Addr} {fd : FuncData} (F : Fun K "_law_alike" "_law_alike" sAlike f fd) (G : Cal P w K mg base n "_law_alike" psAlike (spA K n)) (B : Bl2 mg) : FnOk P w K mg base CX0 (n + 1) f fd psAlike (spA K (n + 1)) := by
  refine F.ok scAlike (fun vs H Q E h => ?_) (fun cdv A outer s H vs Q E hr h => ?_)
  · obtain ⟨x, y, d, rfl, _⟩ := h
    rfl
  · obtain ⟨x, y, d, rfl, hx, hy, hd, k⟩ := h
    refine ⟨_, (pss_cons (ps_if (pt_val (pe_callB call_isiT (by rfl) B.isi (by decide +kernel) (pa_cons (pv 1) (pa_cons (pe_tup (pa_cons (pe_bltn (v := .ty "tuple") (by rfl) B.b.tuple (by decide +kernel) rfl) (pa_cons (pe_bltn (v := .ty "list") (by rfl) B.b.list (by decide +kernel) rfl) pa_nil))) pa_nil)))) (pss_cons (ps_if (PW.pt (pw_or (pt_not (pt_val (pe_callB call_isiT (by rfl) B.isi (by decide +kernel) (pa_cons (pv 0) (pa_cons (pe_tup (pa_cons (pe_bltn (v := .ty "tuple") (by rfl) B.b.tuple (by decide +kernel) rfl) (pa_cons (pe_bltn (v := .ty "list") (by rfl) B.b.list (by decide +kernel) rfl) pa_nil))) pa_nil))))) (pw_or1 (pt_cmpR op_ne (pe_callB call_isi (by rfl) B.isi (by decide +kernel) (pa_cons (pv 0) (pa_cons (pe_bltn (v := .ty "list") (by rfl) B.b.list (by decide +kernel) rfl) pa_nil))) (pe_callB call_isi (by rfl) B.isi (by decide +kernel) (pa_cons (pv 1) (pa_cons (pe_bltn (v := .ty "list") (by rfl) B.b.list (by decide +kernel) rfl) pa_nil))) (nomark _))))) (pss_one (ps_ret pe_bl)) pss_nil) (pss_cons (ps_if (pt_cmpR op_ne (pe_callB call_len_seq (by rfl) B.b.len PySem.boot_len (pa_cons (pv 0) pa_nil)) (pe_callB call_len_seq (by rfl) B.b.len PySem.boot_len (pa_cons (pv 1) pa_nil)) (nomark _)) (pss_one (ps_ret pe_bl)) pss_nil) (pss_one (ps_ret (pe_cmpR (op_eqD hr.units) (pe_lc (own := [("_law_k", 2)]) (g := gName 2) (by rfl) scAlike.nd (pi_range1 (by rfl) B.b.range (pa_cons (pe_callB call_len_seq (by rfl) B.b.len PySem.boot_len (pa_cons (pv 1) pa_nil)) pa_nil)) (blkOk_by (own := [("_law_k", 2)]) (N := nsAlike) (sc := defScope sAlike) (by decide +kernel)) (fun _ _ _ _ _ => (pg_name (i := 2) scAlike.nd rfl (Or.inl rfl))) (fun _ _ _ _ _ => pts_one (pt_not (pt_val (pe_cal G hr (pa_cons (pe_ix (show IxR _ (rIx K) from ix_seq) (pv 0) (pv 2) (fun _ _ => rfl)) (pa_cons (pe_ix (show IxR _ (rIx K) from ix_seq) (pv 1) (pv 2) (fun _ _ => rfl)) pa_nil)))))) (fun _ _ _ _ _ => (pv 2))) (pe_lst pa_nil) (nomark _)))))) pss_nil) (pss_cons (ps_if (pt_cmpR op_isN (pv 1) pe_non (nomark _)) (pss_one (ps_ret (pe_cmpR op_isN (pv 0) pe_non (nomark _)))) pss_nil) (pss_cons (ps_if (pt_val (pe_callB call_isi (by rfl) B.isi (by decide +kernel) (pa_cons (pv 1) (pa_cons (pe_bltn (v := .ty "str") (by rfl) B.str (by decide +kernel) rfl) pa_nil)))) (pss_one (ps_ret (pe_and (pe_callB call_isi (by rfl) B.isi (by decide +kernel) (pa_cons (pv 0) (pa_cons (pe_bltn (v := .ty "str") (by rfl) B.str (by decide +kernel) rfl) pa_nil))) (pe_one (pe_cmpR op_eq (pv 0) (pv 1) (nomark _)))))) pss_nil) (pss_cons (ps_if (PW.pt (pw_or (pt_val (pe_callB call_isi (by rfl) B.isi (by decide +kernel) (pa_cons (pv 1) (pa_cons (pe_bltn (v := .ty "bool") (by rfl) B.bool (by decide +kernel) rfl) pa_nil)))) (pw_or1 (pt_val (pe_callB call_isi (by rfl) B.isi (by decide +kernel) (pa_cons (pv 0) (pa_cons (pe_bltn (v := .ty "bool") (by rfl) B.bool (by decide +kernel) rfl) pa_nil))))))) (pss_one (ps_ret (pe_and (pe_callB call_isi (by rfl) B.isi (by decide +kernel) (pa_cons (pv 1) (pa_cons (pe_bltn (v := .ty "bool") (by rfl) B.bool (by decide +kernel) rfl) pa_nil))) (pe_and (pe_callB call_isi (by rfl) B.isi (by decide +kernel) (pa_cons (pv 0) (pa_cons (pe_bltn (v := .ty "bool") (by rfl) B.bool (by decide +kernel) rfl) pa_nil))) (pe_one (pe_cmpR op_eq (pv 0) (pv 1) (nomark _))))))) pss_nil) (pss_one (ps_ret (pe_and (pe_callB call_isi (by rfl) B.isi (by decide +kernel) (pa_cons (pv 0) (pa_cons (pe_bltn (v := .ty "int") (by rfl) B.int (by decide +kernel) rfl) pa_nil))) (pe_one (pe_cmpR op_eq (pv 0) (pv 1) (nomark _)))))))))), ?_⟩
    -- what both are
    have tyT : ∀ (T : String), PySem.W.kitAny K (.type T) [.type "tuple", .type "list"] = (kitB T "tuple").bind fun b => if b then some true else (kitB T "list").bind fun c => some c := by
      intro T
      unfold PySem.W.kitAny
      rw [show PySem.W.kitOne K (.type T) (.type "tuple") = kitB T "tuple" from rfl]
      cases kitB T "tuple" with
      | none => rfl
      | some b =>
        cases b with
        | true => rfl
        | false =>
          unfold PySem.W.kitAny
          rw [show PySem.W.kitOne K (.type T) (.type "list") = kitB T "list" from rfl]
          cases kitB T "list" with
          | none => rfl
          | some b => cases b <;> rfl
    cases d with
    | dict _ => cases hx
    | none =>
      cases hx
      cases hy
      refine ⟨_, rfl, by show 2 ≤ sizeLine; decide, fun T hT => ⟨_, T, _, .type "NoneType", _, false, rfl, upd_same, .cons (.ty "tuple") (.cons (.ty "list") .nil), .base .non, (tyT "NoneType").trans (by decide +kernel), false, rfl, iteF ?_⟩⟩
      refine ⟨_, rfl, rfl, _, rfl, if_t (by rfl) ?_⟩
      exact ⟨_, rfl, rfl, k _ (same_new hT _)⟩
    | bool b =>
      cases hx
      cases hy
      refine ⟨_, rfl, by show 2 ≤ sizeLine; decide, fun T hT => ⟨_, T, _, .type "bool", _, false, rfl, upd_same, .cons (.ty "tuple") (.cons (.ty "list") .nil), .base (.bl b), (tyT "bool").trans (by decide +kernel), false, rfl, iteF ?_⟩⟩
      refine ⟨_, rfl, rfl, _, rfl, if_f (by rfl) ?_⟩
      refine ⟨_, rfl, _, _, _, _, false, rfl, .ty "str", .base (.bl b), kit _ _ (by decide +kernel), false, rfl, iteF ?_⟩
      refine ⟨_, rfl, _, _, _, _, true, rfl, .ty "bool", .base (.bl b), kit _ _ (by decide +kernel), true, rfl, iteT (iteT ?_)⟩
      refine ⟨_, rfl, _, _, _, _, true, rfl, .ty "bool", .base (.bl b), kit _ _ (by decide +kernel), true, rfl, iteT ⟨_, rfl, _, _, _, _, true, rfl, .ty "bool", .base (.bl b), kit _ _ (by decide +kernel), true, rfl, iteT ⟨_, rfl, _, rfl, rfl, ?_⟩⟩⟩
      show Q (.bl (decide (V.bl b = V.bl b))) _
      rw [decide_eq_true rfl]
      exact k _ (same_new hT _)
    | int z =>
      cases hx
      cases hy
      refine ⟨_, rfl, by show 2 ≤ sizeLine; decide, fun T hT => ⟨_, T, _, .type "int", _, false, rfl, upd_same, .cons (.ty "tuple") (.cons (.ty "list") .nil), .base (.int z), (tyT "int").trans (by decide +kernel), false, rfl, iteF ?_⟩⟩
      refine ⟨_, rfl, rfl, _, rfl, if_f (by rfl) ?_⟩
      refine ⟨_, rfl, _, _, _, _, false, rfl, .ty "str", .base (.int z), kit _ _ (by decide +kernel), false, rfl, iteF ?_⟩
      refine ⟨_, rfl, _, _, _, _, false, rfl, .ty "bool", .base (.int z), kit _ _ (by decide +kernel), false, rfl, iteF ⟨_, rfl, _, _, _, _, false, rfl, .ty "bool", .base (.int z), kit _ _ (by decide +kernel), false, rfl, iteF ?_⟩⟩
      refine ⟨_, rfl, _, _, _, _, true, rfl, .ty "int", .base (.int z), kit _ _ (by decide +kernel), true, rfl, iteT ⟨_, rfl, _, rfl, rfl, ?_⟩⟩
      show Q (.bl (decide (V.int z = V.int z))) _
      rw [decide_eq_true rfl]
      exact k _ (same_new hT _)
    | str z =>
      cases hx
      cases hy
      refine ⟨_, rfl, by show 2 ≤ sizeLine; decide, fun T hT => ⟨_, T, _, .type "str", _, false, rfl, upd_same, .cons (.ty "tuple") (.cons (.ty "list") .nil), .base (.str z), (tyT "str").trans (by decide +kernel), false, rfl, iteF ?_⟩⟩
      refine ⟨_, rfl, rfl, _, rfl, if_f (by rfl) ?_⟩
      refine ⟨_, rfl, _, _, _, _, true, rfl, .ty "str", .base (.str z), kit _ _ (by decide +kernel), true, rfl, iteT ?_⟩
      refine ⟨_, rfl, _, _, _, _, true, rfl, .ty "str", .base (.str z), kit _ _ (by decide +kernel), true, rfl, iteT ⟨_, rfl, _, rfl, rfl, ?_⟩⟩
      show Q (.bl (decide (V.str z = V.str z))) _
      rw [decide_eq_true rfl]
      exact k _ (same_new hT _)
    | list ds =>
      cases hx with
      | lst hp ap =>
      cases hy with
      | lst hq aq =>
      rename_i p xs q ys
      cases hd with
      | lst hlen hall =>
      rename_i m
      have lx := dpAll_len ap
      have ly := dpAll_len aq
      refine ⟨_, rfl, by show 2 ≤ sizeLine; decide, fun T hT => ⟨_, T, _, .type "list", _, true, rfl, upd_same, .cons (.ty "tuple") (.cons (.ty "list") .nil), ty_lst (same_lst (same_new hT _) hq), (tyT "list").trans (by decide +kernel), true, rfl, iteT ?_⟩⟩
      have s1 := same_new hT (.tup [.ty "tuple", .ty "list"])
      refine ⟨_, rfl, by show 2 ≤ sizeLine; decide, fun T2 hT2 => ⟨_, T2, _, .type "list", _, true, rfl, upd_same, .cons (.ty "tuple") (.cons (.ty "list") .nil), ty_lst (same_lst (s1.trans (same_new hT2 _)) hp), (tyT "list").trans (by decide +kernel), true, rfl, iteF ?_⟩⟩
      have s2 := s1.trans (same_new hT2 (.tup [.ty "tuple", .ty "list"]))
      refine ⟨_, rfl, _, _, _, _, true, rfl, .ty "list", ty_lst (same_lst s2 hp), kit _ _ (by decide +kernel), _, rfl, _, _, _, _, true, rfl, .ty "list", ty_lst (same_lst s2 hq), kit _ _ (by decide +kernel), rfl, _, rfl, if_f (by rfl) ?_⟩
      have e1 : (!decide (V.int (xs.length : Int) = V.int (ys.length : Int))) = false := by
        rw [lx, ly, decide_eq_true rfl]
        rfl
      refine ⟨_, rfl, p, _, rfl, .inl (same_lst s2 hp), _, rfl, q, _, rfl, .inl (same_lst s2 hq), rfl, _, rfl, if_f e1 ?_⟩
      refine ⟨_, rfl, q, _, rfl, .inl (same_lst s2 hq), (ys.length : Int), rfl, by omega, by omega, fun D hD => ?_⟩
      have hD0 : H D = none := s2.free hD
      refine lc_range (lo := 0) (n := (ys.length : Int).toNat) (fun i H' => H' D = some (.lst []) ∧ Same H H') ⟨upd_same, s2.trans (same_new hD _)⟩ ?_ ?_
      · rintro i H1 hi ⟨hD1, sm⟩
        have hi' : i < ds.length := by rw [Int.toNat_natCast, ly] at hi; exact hi
        obtain ⟨x1, hx1, dx1⟩ := dpAll_get ap (List.getElem?_eq_getElem hi')
        obtain ⟨y1, hy1, dy1⟩ := dpAll_get aq (List.getElem?_eq_getElem hi')
        refine ⟨rfl, _, rfl, _, rfl, .inl ⟨p, _, _, x1, rfl, rfl, same_lst sm hp, at_of (j := i) (by omega) hx1, _, rfl, _, rfl, .inl ⟨q, _, _, y1, rfl, rfl, same_lst sm hq, at_of (j := i) (by omega) hy1, ?_⟩⟩⟩
        refine ⟨x1, y1, ds[i], rfl, dp_same sm dx1, dp_same sm dy1, hall _ (List.getElem_mem hi'), fun H2 sm2 => ⟨true, rfl, iteF ⟨sm2 _ _ hD1, sm.trans sm2⟩⟩⟩
      · rintro H1 ⟨hD1, sm⟩
        refine ⟨by show 0 ≤ sizeLine; decide, fun E0 hE0 => ?_⟩
        have s3 := same_new hE0 (.lst [])
        refine ⟨_, _, Dp.ints (ns := []) (SqL.of (s3 _ _ hD1)), Dp.ints (ns := []) (SqL.of upd_same), shaped_ints [], shaped_ints [], ?_⟩
        exact k _ (sm.trans s3)
    | tuple ds =>
      cases hx with
      | tup hp ap =>
      cases hy with
      | tup hq aq =>
      rename_i p xs q ys
      cases hd with
      | tup hlen hall =>
      rename_i m
      have lx := dpAll_len ap
      have ly := dpAll_len aq
      refine ⟨_, rfl, by show 2 ≤ sizeLine; decide, fun T hT => ⟨_, T, _, .type "tuple", _, true, rfl, upd_same, .cons (.ty "tuple") (.cons (.ty "list") .nil), ty_tup (same_tup (same_new hT _) hq), (tyT "tuple").trans (by decide +kernel), true, rfl, iteT ?_⟩⟩
      have s1 := same_new hT (.tup [.ty "tuple", .ty "list"])
      refine ⟨_, rfl, by show 2 ≤ sizeLine; decide, fun T2 hT2 => ⟨_, T2, _, .type "tuple", _, true, rfl, upd_same, .cons (.ty "tuple") (.cons (.ty "list") .nil), ty_tup (same_tup (s1.trans (same_new hT2 _)) hp), (tyT "tuple").trans (by decide +kernel), true, rfl, iteF ?_⟩⟩
      have s2 := s1.trans (same_new hT2 (.tup [.ty "tuple", .ty "list"]))
      refine ⟨_, rfl, _, _, _, _, false, rfl, .ty "list", ty_tup (same_tup s2 hp), kit _ _ (by decide +kernel), _, rfl, _, _, _, _, false, rfl, .ty "list", ty_tup (same_tup s2 hq), kit _ _ (by decide +kernel), rfl, _, rfl, if_f (by rfl) ?_⟩
      have e1 : (!decide (V.int (xs.length : Int) = V.int (ys.length : Int))) = false := by
        rw [lx, ly, decide_eq_true rfl]
        rfl
      refine ⟨_, rfl, p, _, rfl, .inr (same_tup s2 hp), _, rfl, q, _, rfl, .inr (same_tup s2 hq), rfl, _, rfl, if_f e1 ?_⟩
      refine ⟨_, rfl, q, _, rfl, .inr (same_tup s2 hq), (ys.length : Int), rfl, by omega, by omega, fun D hD => ?_⟩
      have hD0 : H D = none := s2.free hD
      refine lc_range (lo := 0) (n := (ys.length : Int).toNat) (fun i H' => H' D = some (.lst []) ∧ Same H H') ⟨upd_same, s2.trans (same_new hD _)⟩ ?_ ?_
      · rintro i H1 hi ⟨hD1, sm⟩
        have hi' : i < ds.length := by rw [Int.toNat_natCast, ly] at hi; exact hi
        obtain ⟨x1, hx1, dx1⟩ := dpAll_get ap (List.getElem?_eq_getElem hi')
        obtain ⟨y1, hy1, dy1⟩ := dpAll_get aq (List.getElem?_eq_getElem hi')
        refine ⟨rfl, _, rfl, _, rfl, .inr (.inl ⟨p, _, _, x1, rfl, rfl, same_tup sm hp, at_of (j := i) (by omega) hx1, _, rfl, _, rfl, .inr (.inl ⟨q, _, _, y1, rfl, rfl, same_tup sm hq, at_of (j := i) (by omega) hy1, ?_⟩)⟩)⟩
        refine ⟨x1, y1, ds[i], rfl, dp_same sm dx1, dp_same sm dy1, hall _ (List.getElem_mem hi'), fun H2 sm2 => ⟨true, rfl, iteF ⟨sm2 _ _ hD1, sm.trans sm2⟩⟩⟩
      · rintro H1 ⟨hD1, sm⟩
        refine ⟨by show 0 ≤ sizeLine; decide, fun E0 hE0 => ?_⟩
        have s3 := same_new hE0 (.lst [])
        refine ⟨_, _, Dp.ints (ns := []) (SqL.of (s3 _ _ hD1)), Dp.ints (ns := []) (SqL.of upd_same), shaped_ints [], shaped_ints [], ?_⟩
        exact k _ (sm.trans s3)
theorem alike_all {f : Addr} {fd : FuncData} (F : Fun K "_law_alike" "_law_alike" sAlike f fd) (m : mg "_law_alike" = some (.ref f)) (b : Binds K fd psAlike []) (B : Bl2 mg) : ∀ n : Nat, FnOk P w K mg base CX0 n f fd psAlike (spA K n)
  | 0 => ⟨fun _ _ _ _ h => h.elim, fun _ _ _ _ _ _ _ _ _ _ _ _ _ h => h.elim⟩
  | n + 1 => ok_alike F (Cal.mk' (alike_all F m b B n) m F.kp b) B
end
end LB
/-! What readings come to, told as data (Dp): expressions, arguments, statements, loops, comprehensions. Own text. -/
namespace LB
open PySem L2
/-! ### data that no change of a list can touch -/
mutual
def noL : PyData → Bool
  | .list _ => false
  | .dict _ => false
  | .tuple ds => noLs ds
  | _ => true
def noLs : List PyData → Bool
  | [] => true
  | d :: ds => noL d && noLs ds
end
theorem noLs_all {ds : List PyData} (h : ∀ d, d ∈ ds → noL d = true) : noLs ds = true := by
  induction ds with
  | nil => rfl
  | cons d ds ih =>
    show (noL d && noLs ds) = true
    rw [h d (List.mem_cons_self ..), ih fun e he => h e (List.mem_cons_of_mem _ he)]
    rfl
theorem noLs_mem : ∀ {ds : List PyData}, noLs ds = true → ∀ d, d ∈ ds → noL d = true
  | [], _, d, hd => by cases hd
  | e :: ds, h, d, hd => by
    have h' : (noL e && noLs ds) = true := h
    rw [Bool.and_eq_true] at h'
    rcases List.mem_cons.mp hd with q | q
    · rw [q]; exact h'.1
    · exact noLs_mem h'.2 d q
theorem noLs_map {α : Type} {f : α → PyData} {xs : List α} (h : ∀ x, noL (f x) = true) : noLs (xs.map f) = true := noLs_all fun d hd => by
  obtain ⟨x, _, rfl⟩ := List.mem_map.mp hd
  exact h x
/-- tuples stand -/
def Grow (K : PySem.W.Frag) (H H' : Hp) : Prop := ∀ a xs, SqT K H a xs → SqT K H' a xs
theorem Grow.refl {K : PySem.W.Frag} (H : Hp) : Grow K H H := fun _ _ h => h
theorem Grow.trans {K : PySem.W.Frag} {H H1 H2 : Hp} (a : Grow K H H1) (b : Grow K H1 H2) : Grow K H H2 := fun p xs h => b p xs (a p xs h)
theorem Grow.same {K : PySem.W.Frag} {H H' : Hp} (s : Same H H') : Grow K H H' := fun _ _ h => same_tup s h
theorem Grow.set {K : PySem.W.Frag} {H : Hp} {p : Addr} {xs ys : List V} (h : H p = some (.lst xs)) : Grow K H (upd H p (.lst ys)) := fun a zs q => by
  have ne : ∀ o, H a = some o → o ≠ .lst xs → a ≠ p := fun o e n z => by rw [z, h] at e; exact n (Option.some.inj e).symm
  rcases q with (q | ⟨o, q⟩) | q
  · exact .inl (.inl (by rw [upd_ne (ne _ q (by intro z; cases z))]; exact q))
  · exact .inl (.inr ⟨o, by rw [upd_ne (ne _ q (by intro z; cases z))]; exact q⟩)
  · exact .inr q
/-- a list made behind H0 may change -/
theorem Same.over {H0 H : Hp} {p : Addr} {o : HO} (s : Same H0 H) (h : H0 p = none) : Same H0 (upd H p o) := fun b u e => by
  rw [upd_ne (ne_of_none e h)]
  exact s b u e
mutual
theorem dp_grow {K : PySem.W.Frag} {H H' : Hp} (s : Grow K H H') : ∀ {d : PyData} {x : V}, noL d = true → Dp K H x d → Dp K H' x d
  | .none, _, _, h => by cases h; exact .non
  | .bool b, _, _, h => by cases h; exact .bl b
  | .int i, _, _, h => by cases h; exact .int i
  | .str z, _, _, h => by cases h; exact .str z
  | .list ds, _, n, h => by cases n
  | .tuple ds, _, n, h => by
    cases h with
    | tup h a => exact .tup (s _ _ h) (dpAll_grow s n a)
  | .dict _, _, n, h => by cases h
theorem dpAll_grow {K : PySem.W.Frag} {H H' : Hp} (s : Grow K H H') : ∀ {ds : List PyData} {xs : List V}, noLs ds = true → DpAll K H xs ds → DpAll K H' xs ds
  | [], _, _, h => by cases h; exact .nil
  | d :: ds, _, n, h => by
    have n' : (noL d && noLs ds) = true := n
    rw [Bool.and_eq_true] at n'
    cases h with
    | cons h a => exact .cons (dp_grow s n'.1 h) (dpAll_grow s n'.2 a)
end
theorem dpAll_snoc {K : PySem.W.Frag} {H : Hp} {v : V} {d : PyData} (hv : Dp K H v d) : ∀ {ds : List PyData} {vs : List V}, DpAll K H vs ds → DpAll K H (vs ++ [v]) (ds ++ [d])
  | [], _, h => by cases h; exact .cons hv .nil
  | _ :: _, _, h => by
    cases h with
    | cons h a => exact .cons h (dpAll_snoc hv a)
theorem dpAll_append {K : PySem.W.Frag} {H : Hp} {ws : List V} {es : List PyData} (hw : DpAll K H ws es) : ∀ {ds : List PyData} {vs : List V}, DpAll K H vs ds → DpAll K H (vs ++ ws) (ds ++ es)
  | [], _, h => by cases h; exact hw
  | _ :: _, _, h => by
    cases h with
    | cons h a => exact .cons h (dpAll_append hw a)
theorem dpAll_set {K : PySem.W.Frag} {H : Hp} {v : V} {d : PyData} (hv : Dp K H v d) : ∀ {ds : List PyData} {vs : List V} (i : Nat), DpAll K H vs ds → DpAll K H (vs.set i v) (ds.set i d)
  | [], _, i, h => by cases h; exact .nil
  | _ :: _, _, i, h => by
    cases h with
    | cons h a =>
      cases i with
      | zero => exact .cons hv a
      | succ i => exact .cons h (dpAll_set hv i a)
theorem dpAll_at {K : PySem.W.Frag} {H : Hp} {ds : List PyData} {vs : List V} {i : Nat} {v : V} (h : DpAll K H vs ds) (e : vs[i]? = some v) : ∃ d, ds[i]? = some d ∧ Dp K H v d := by
  have hl := dpAll_len h
  have hi : i < ds.length := by rw [← hl]; exact (List.getElem?_eq_some_iff.mp e).1
  obtain ⟨x, e1, e2⟩ := dpAll_get h (List.getElem?_eq_getElem hi)
  rw [e] at e1
  exact ⟨_, List.getElem?_eq_getElem hi, by rw [Option.some.inj e1]; exact e2⟩
theorem dpAll_ints (K : PySem.W.Frag) (H : Hp) (ns : List Int) : DpAll K H (ns.map V.int) (ns.map PyData.int) := all_ints K H ns
theorem dpAll_int_eq {K : PySem.W.Frag} {H : Hp} : ∀ {ns : List Int} {vs : List V}, DpAll K H vs (ns.map PyData.int) → vs = ns.map V.int
  | [], _, h => by cases h; rfl
  | n :: ns, _, h => by
    cases h with
    | cons h a =>
      cases h
      rw [dpAll_int_eq a]
      rfl
theorem dpAll_bl_eq {K : PySem.W.Frag} {H : Hp} : ∀ {ns : List Bool} {vs : List V}, DpAll K H vs (ns.map PyData.bool) → vs = ns.map V.bl
  | [], _, h => by cases h; rfl
  | n :: ns, _, h => by
    cases h with
    | cons h a =>
      cases h
      rw [dpAll_bl_eq a]
      rfl
theorem dpAll_str_eq {K : PySem.W.Frag} {H : Hp} : ∀ {ns : List Str} {vs : List V}, DpAll K H vs (ns.map PyData.str) → vs = ns.map V.str
  | [], _, h => by cases h; rfl
  | n :: ns, _, h => by
    cases h with
    | cons h a =>
      cases h
      rw [dpAll_str_eq a]
      rfl
/-! ### what comes of an expression -/
def EvD (K : PySem.W.Frag) (te : TE) (σ : L2.St) (H : Hp) (d : PyData) : Prop := ∀ H1, Same H H1 → ∀ Q : VK, (∀ v H2, Same H1 H2 → Dp K H2 v d → Q v H2) → te σ H1 Q
/-- a new list -/
def EvN (K : PySem.W.Frag) (te : TE) (σ : L2.St) (H : Hp) (ds : List PyData) : Prop := ∀ H1, Same H H1 → ∀ Q : VK, (∀ p vs H2, H1 p = none → Same H1 H2 → H2 p = some (.lst vs) → DpAll K H2 vs ds → Q (.ref p) H2) → te σ H1 Q
def EvB (tt : TT) (σ : L2.St) (H : Hp) (b : Bool) : Prop := ∀ H1, Same H H1 → ∀ Q : Bool → Hp → Prop, (∀ H2, Same H1 H2 → Q b H2) → tt σ H1 Q
def EvA (K : PySem.W.Frag) (ta : TA) (σ : L2.St) (H : Hp) (ds : List PyData) : Prop := ∀ H1, Same H H1 → ∀ Q : List V → Hp → Prop, (∀ vs H2, Same H1 H2 → DpAll K H2 vs ds → Q vs H2) → ta σ H1 Q
def EvO (to : TO) (σ : L2.St) (H : Hp) (o : Option Int) : Prop := ∀ H1, Same H H1 → ∀ Q : Option Int → Hp → Prop, (∀ H2, Same H1 H2 → Q o H2) → to σ H1 Q
/-- the promise of a def that tells data -/
def spD (K : PySem.W.Frag) {ι : Type} (args : ι → List PyData) (pre : ι → Prop) (res : ι → PyData) : Sp := fun vs H Q _ => ∃ i, pre i ∧ DpAll K H vs (args i) ∧ ∀ v H', Same H H' → Dp K H' v (res i) → Q v H'
/-- .. a new list -/
def spN (K : PySem.W.Frag) {ι : Type} (args : ι → List PyData) (pre : ι → Prop) (res : ι → List PyData) : Sp := fun vs H Q _ => ∃ i, pre i ∧ DpAll K H vs (args i) ∧ ∀ p us H', H p = none → Same H H' → H' p = some (.lst us) → DpAll K H' us (res i) → Q (.ref p) H'
theorem spN_D {K : PySem.W.Frag} {ι : Type} {args : ι → List PyData} {pre : ι → Prop} {res : ι → List PyData} (vs : List V) (H : Hp) (Q : VK) (E : XK) (h : spD K args pre (fun i => .list (res i)) vs H Q E) : spN K args pre res vs H Q E := by
  obtain ⟨i, h1, h2, k⟩ := h
  exact ⟨i, h1, h2, fun p us H' _ s e a => k _ _ s (.lst (SqL.of e) a)⟩
section
variable {K : PySem.W.Frag} {σ : L2.St} {H H' : Hp} {ta tb tc te : TE} {tt tu tw : TT} {d e f : PyData} {ds es : List PyData}
theorem EvD.mono (s : Same H H') (h : EvD K te σ H d) : EvD K te σ H' d := fun H1 a Q q => h H1 (s.trans a) Q q
theorem EvN.mono (s : Same H H') (h : EvN K te σ H ds) : EvN K te σ H' ds := fun H1 a Q q => h H1 (s.trans a) Q q
theorem EvB.mono {b : Bool} (s : Same H H') (h : EvB tt σ H b) : EvB tt σ H' b := fun H1 a Q q => h H1 (s.trans a) Q q
theorem EvA.mono {ta : TA} (s : Same H H') (h : EvA K ta σ H ds) : EvA K ta σ H' ds := fun H1 a Q q => h H1 (s.trans a) Q q
theorem EvD.eq (h : EvD K te σ H d) (q : d = e) : EvD K te σ H e := by rw [← q]; exact h
theorem EvN.eq (h : EvN K te σ H ds) (q : ds = es) : EvN K te σ H es := by rw [← q]; exact h
theorem EvB.eq {a b : Bool} (h : EvB tt σ H a) (q : a = b) : EvB tt σ H b := by rw [← q]; exact h
theorem EvN.toD (h : EvN K te σ H ds) : EvD K te σ H (.list ds) := fun H1 s Q q => h H1 s Q fun p vs H2 _ s2 e a => q _ H2 s2 (.lst (SqL.of e) a)
theorem ed_var {i : Nat} {v : V} (h : σ[i]? = some (some v)) (hd : Dp K H v d) : EvD K (tVar i) σ H d := fun H1 s Q q => ⟨v, h, q v H1 (Same.refl _) (dp_same s hd)⟩
theorem ed_c {v : V} (hd : ∀ H, Dp K H v d) : EvD K (tC v) σ H d := fun H1 _ Q q => q v H1 (Same.refl _) (hd _)
theorem ed_int {i : Int} : EvD K (tC (.int i)) σ H (.int i) := ed_c fun _ => .int i
theorem ed_str {x : Str} : EvD K (tC (.str x)) σ H (.str x) := ed_c fun _ => .str x
theorem ed_bl {b : Bool} : EvD K (tC (.bl b)) σ H (.bool b) := ed_c fun _ => .bl b
theorem ed_non : EvD K (tC .non) σ H .none := ed_c fun _ => .non
/-- a binary operator told by data -/
theorem ed_op {r : R2} (ha : EvD K ta σ H d) (hb : EvD K tb σ H e) (hr : ∀ x y H1, Same H H1 → Dp K H1 x d → Dp K H1 y e → ∀ Q : VK, (∀ v H2, Same H1 H2 → Dp K H2 v f → Q v H2) → r x y H1 Q) : EvD K (tOp r ta tb) σ H f := fun H1 s Q q =>
  ha H1 s _ fun x H2 s2 dx => hb H2 (s.trans s2) _ fun y H3 s3 dy => hr x y H3 ((s.trans s2).trans s3) (dp_same s3 dx) dy Q fun v H4 s4 dv => q v H4 ((s2.trans s3).trans s4) dv
theorem en_op {r : R2} (ha : EvD K ta σ H d) (hb : EvD K tb σ H e) (hr : ∀ x y H1, Same H H1 → Dp K H1 x d → Dp K H1 y e → ∀ Q : VK, (∀ p vs H2, H1 p = none → Same H1 H2 → H2 p = some (.lst vs) → DpAll K H2 vs ds → Q (.ref p) H2) → r x y H1 Q) : EvN K (tOp r ta tb) σ H ds := fun H1 s Q q =>
  ha H1 s _ fun x H2 s2 dx => hb H2 (s.trans s2) _ fun y H3 s3 dy => hr x y H3 ((s.trans s2).trans s3) (dp_same s3 dx) dy Q fun p vs H4 n s4 h4 a4 => q p vs H4 ((s2.trans s3).free n) ((s2.trans s3).trans s4) h4 a4
theorem ed_I {g : Int → Int → Int} {i j : Int} (ha : EvD K ta σ H (.int i)) (hb : EvD K tb σ H (.int j)) : EvD K (tOp (rI0 fun i j => .int (g i j)) ta tb) σ H (.int (g i j)) :=
  ed_op ha hb fun x y H1 _ dx dy Q q => by
    cases dx; cases dy
    exact ⟨i, j, rfl, rfl, q _ H1 (Same.refl _) (.int _)⟩
theorem ed_IC {C : Int → Int → Prop} {g : Int → Int → Int} {i j : Int} (ha : EvD K ta σ H (.int i)) (hb : EvD K tb σ H (.int j)) (hc : C i j) : EvD K (tOp (rI C fun i j => .int (g i j)) ta tb) σ H (.int (g i j)) :=
  ed_op ha hb fun x y H1 _ dx dy Q q => by
    cases dx; cases dy
    exact ⟨i, j, rfl, rfl, hc, q _ H1 (Same.refl _) (.int _)⟩
theorem ed_cI {g : Int → Int → Bool} {i j : Int} (ha : EvD K ta σ H (.int i)) (hb : EvD K tb σ H (.int j)) : EvD K (tOp (rI0 fun i j => .bl (g i j)) ta tb) σ H (.bool (g i j)) :=
  ed_op ha hb fun x y H1 _ dx dy Q q => by
    cases dx; cases dy
    exact ⟨i, j, rfl, rfl, q _ H1 (Same.refl _) (.bl _)⟩
theorem ed_neg {i : Int} (ha : EvD K ta σ H (.int i)) : EvD K (tUn (rU fun i => .int (-i)) ta) σ H (.int (-i)) := fun H1 s Q q =>
  ha H1 s _ fun x H2 s2 dx => by
    cases dx
    exact ⟨i, rfl, q _ H2 s2 (.int _)⟩
/-- == and != of flat data -/
def flatD : PyData → Option V
  | .none => some .non
  | .bool b => some (.bl b)
  | .int i => some (.int i)
  | .str x => some (.str x)
  | _ => none
theorem flat_dp {v w : V} (h : flatD d = some w) (hd : Dp K H v d) : v = w := by
  cases hd <;> first | (cases h; rfl) | cases h
theorem ed_eq {x y : V} {b : Bool} (ha : EvD K ta σ H d) (hb : EvD K tb σ H e) (h1 : flatD d = some x) (h2 : flatD e = some y) (hs : scal x y = true) (hb2 : decide (x = y) = b) : EvD K (tOp rEq ta tb) σ H (.bool b) :=
  ed_op ha hb fun u v H1 _ dx dy Q q => by
    rw [flat_dp h1 dx, flat_dp h2 dy]
    exact ⟨hs, by rw [hb2]; exact q _ H1 (Same.refl _) (.bl _)⟩
theorem ed_ne {x y : V} {b : Bool} (ha : EvD K ta σ H d) (hb : EvD K tb σ H e) (h1 : flatD d = some x) (h2 : flatD e = some y) (hs : scal x y = true) (hb2 : (!decide (x = y)) = b) : EvD K (tOp rNe ta tb) σ H (.bool b) :=
  ed_op ha hb fun u v H1 _ dx dy Q q => by
    rw [flat_dp h1 dx, flat_dp h2 dy]
    exact ⟨hs, by rw [hb2]; exact q _ H1 (Same.refl _) (.bl _)⟩
theorem decV_int {i j : Int} : decide (V.int i = V.int j) = decide (i = j) := by simp
theorem decV_str {i j : Str} : decide (V.str i = V.str j) = decide (i = j) := by simp
theorem decV_bl {i j : Bool} : decide (V.bl i = V.bl j) = decide (i = j) := by simp
theorem ed_eqI {i j : Int} (ha : EvD K ta σ H (.int i)) (hb : EvD K tb σ H (.int j)) : EvD K (tOp rEq ta tb) σ H (.bool (decide (i = j))) := ed_eq ha hb rfl rfl rfl decV_int
theorem ed_eqS {i j : Str} (ha : EvD K ta σ H (.str i)) (hb : EvD K tb σ H (.str j)) : EvD K (tOp rEq ta tb) σ H (.bool (decide (i = j))) := ed_eq ha hb rfl rfl rfl decV_str
theorem ed_eqB {i j : Bool} (ha : EvD K ta σ H (.bool i)) (hb : EvD K tb σ H (.bool j)) : EvD K (tOp rEq ta tb) σ H (.bool (decide (i = j))) := ed_eq ha hb rfl rfl rfl decV_bl
theorem ed_neI {i j : Int} (ha : EvD K ta σ H (.int i)) (hb : EvD K tb σ H (.int j)) : EvD K (tOp rNe ta tb) σ H (.bool (!decide (i = j))) := ed_ne ha hb rfl rfl rfl (by rw [decV_int])
theorem ed_neS {i j : Str} (ha : EvD K ta σ H (.str i)) (hb : EvD K tb σ H (.str j)) : EvD K (tOp rNe ta tb) σ H (.bool (!decide (i = j))) := ed_ne ha hb rfl rfl rfl (by rw [decV_str])
theorem ed_neB {i j : Bool} (ha : EvD K ta σ H (.bool i)) (hb : EvD K tb σ H (.bool j)) : EvD K (tOp rNe ta tb) σ H (.bool (!decide (i = j))) := ed_ne ha hb rfl rfl rfl (by rw [decV_bl])
/-- == of data -/
theorem ed_eqD (ha : EvD K ta σ H d) (hb : EvD K tb σ H e) (h1 : SeqAt.shaped d = true) (h2 : SeqAt.shaped e = true) : EvD K (tOp (rEqD K) ta tb) σ H (.bool (PyData.eqv d e)) :=
  ed_op ha hb fun u v H1 _ dx dy Q q => ⟨d, e, dx, dy, h1, h2, q _ H1 (Same.refl _) (.bl _)⟩
theorem ed_neD (ha : EvD K ta σ H d) (hb : EvD K tb σ H e) (h1 : SeqAt.shaped d = true) (h2 : SeqAt.shaped e = true) : EvD K (tOp (rNeD K) ta tb) σ H (.bool (!PyData.eqv d e)) :=
  ed_op ha hb fun u v H1 _ dx dy Q q => ⟨d, e, dx, dy, h1, h2, q _ H1 (Same.refl _) (.bl _)⟩
/-- x is None, x is not None -/
def isNo : PyData → Bool
  | .none => true
  | _ => false
theorem dp_isNo {v : V} (h : Dp K H v d) : decide (v = .non) = isNo d := by
  cases h <;> simp [isNo]
theorem ed_isN (ha : EvD K ta σ H d) : EvD K (tOp (fun x y H Q => y = .non ∧ Q (.bl (decide (x = .non))) H) ta (tC .non)) σ H (.bool (isNo d)) := fun H1 s Q q =>
  ha H1 s _ fun x H2 s2 dx => ⟨rfl, by rw [dp_isNo dx]; exact q _ H2 s2 (.bl _)⟩
theorem ed_notN (ha : EvD K ta σ H d) : EvD K (tOp (fun x y H Q => y = .non ∧ Q (.bl (!decide (x = .non))) H) ta (tC .non)) σ H (.bool (!isNo d)) := fun H1 s Q q =>
  ha H1 s _ fun x H2 s2 dx => ⟨rfl, by rw [dp_isNo dx]; exact q _ H2 s2 (.bl _)⟩
/-- x in xs, of flat data -/
def eqF : PyData → PyData → Bool
  | .none, .none => true
  | .bool a, .bool b => a == b
  | .bool a, .int b => (if a then 1 else 0) == b
  | .int a, .bool b => a == (if b then 1 else 0)
  | .int a, .int b => a == b
  | .str a, .str b => a == b
  | _, _ => false
def inD (d : PyData) (ds : List PyData) : Bool := ds.any fun e => eqF e d
def flats : List PyData → Bool
  | [] => true
  | d :: ds => (flatD d).isSome && flats ds
theorem flat_eqF {v w : V} {d e : PyData} (h1 : (flatD d).isSome = true) (h2 : (flatD e).isSome = true) (a : Dp K H v d) (b : Dp K H w e) : eqV v w = eqF d e := by
  cases a <;> cases b <;> first | rfl | (cases h1; done) | (cases h2; done)
theorem flat_flatV {v : V} {d : PyData} (h : (flatD d).isSome = true) (a : Dp K H v d) : flatV v = true := by
  cases a <;> first | rfl | cases h
theorem flats_all : ∀ {ds : List PyData} {vs : List V}, flats ds = true → DpAll K H vs ds → vs.all flatV = true
  | [], _, _, h => by cases h; rfl
  | d :: ds, _, n, h => by
    have n' : ((flatD d).isSome && flats ds) = true := n
    rw [Bool.and_eq_true] at n'
    cases h with
    | cons h a => rw [List.all_cons, flat_flatV n'.1 h, flats_all n'.2 a]; rfl
theorem inV_inD {v : V} {d : PyData} (hd : (flatD d).isSome = true) (a : Dp K H v d) : ∀ {ds : List PyData} {vs : List V}, flats ds = true → DpAll K H vs ds → inV v vs = inD d ds
  | [], _, _, h => by cases h; rfl
  | e :: ds, _, n, h => by
    have n' : ((flatD e).isSome && flats ds) = true := n
    rw [Bool.and_eq_true] at n'
    cases h with
    | cons h b =>
      have ih := inV_inD hd a n'.2 b
      unfold inV inD at ih ⊢
      rw [List.any_cons, List.any_cons, ih, flat_eqF n'.1 hd h a]
theorem flats_ints (ns : List Int) : flats (ns.map PyData.int) = true := by
  induction ns with
  | nil => rfl
  | cons n ns ih => exact ih
theorem flats_strs (ns : List Str) : flats (ns.map PyData.str) = true := by
  induction ns with
  | nil => rfl
  | cons n ns ih => exact ih
theorem inD_int (i : Int) (ns : List Int) : inD (.int i) (ns.map PyData.int) = decide (i ∈ ns) := by
  induction ns with
  | nil => rfl
  | cons n ns ih =>
    unfold inD at ih ⊢
    rw [List.map_cons, List.any_cons, ih]
    show (n == i || _) = _
    by_cases h : i = n
    · simp [h]
    · have h2 : ¬ n = i := fun e => h e.symm
      simp [h, h2]
theorem inD_none (ns : List Int) : inD .none (ns.map PyData.int) = false := by
  induction ns with
  | nil => rfl
  | cons n ns ih => exact ih
theorem ed_inT {b : Bool} (ha : EvD K ta σ H d) (hb : EvD K tb σ H (.tuple ds)) (h1 : (flatD d).isSome = true) (h2 : flats ds = true) (hi : inD d ds = b) : EvD K (tOp (rIn K false) ta tb) σ H (.bool b) :=
  ed_op ha hb fun x y H1 _ dx dy Q q => by
    cases dy with
    | tup h a => exact ⟨_, _, rfl, .inr h, flat_flatV h1 dx, flats_all h2 a, by rw [inV_inD h1 dx h2 a, hi]; exact q _ H1 (Same.refl _) (.bl _)⟩
theorem ed_inL {b : Bool} (ha : EvD K ta σ H d) (hb : EvD K tb σ H (.list ds)) (h1 : (flatD d).isSome = true) (h2 : flats ds = true) (hi : inD d ds = b) : EvD K (tOp (rIn K false) ta tb) σ H (.bool b) :=
  ed_op ha hb fun x y H1 _ dx dy Q q => by
    cases dy with
    | lst h a => exact ⟨_, _, rfl, .inl h, flat_flatV h1 dx, flats_all h2 a, by rw [inV_inD h1 dx h2 a, hi]; exact q _ H1 (Same.refl _) (.bl _)⟩
/-- subscripts -/
theorem atI_dp {vs : List V} {i : Int} (a : DpAll K H vs ds) (h : atI ds i = some d) : ∃ v, atI vs i = some v ∧ Dp K H v d := by
  unfold atI at h ⊢
  rw [dpAll_len a]
  cases e : ixN ds.length i with
  | none => rw [e] at h; cases h
  | some j =>
    rw [e] at h
    exact dpAll_get a h
theorem ed_ixT {i : Int} (ha : EvD K ta σ H (.tuple ds)) (hb : EvD K tb σ H (.int i)) (h : atI ds i = some d) : EvD K (tOp (rIxT K) ta tb) σ H d :=
  ed_op ha hb fun x y H1 _ dx dy Q q => by
    cases dy
    cases dx with
    | tup hs a =>
      obtain ⟨v, e1, e2⟩ := atI_dp a h
      exact ⟨_, _, i, v, rfl, rfl, hs, e1, q _ H1 (Same.refl _) e2⟩
theorem ed_ixL {i : Int} (ha : EvD K ta σ H (.list ds)) (hb : EvD K tb σ H (.int i)) (h : atI ds i = some d) : EvD K (tOp (rIxL K) ta tb) σ H d :=
  ed_op ha hb fun x y H1 _ dx dy Q q => by
    cases dy
    cases dx with
    | lst hs a =>
      obtain ⟨v, e1, e2⟩ := atI_dp a h
      exact ⟨_, _, i, v, rfl, rfl, hs, e1, q _ H1 (Same.refl _) e2⟩
theorem atD_nat {α : Type} {xs : List α} {j : Nat} {v : α} {i : Int} (e : i = (j : Int)) (h : xs[j]? = some v) : atI xs i = some v := by
  rw [e]
  exact atI_nat h
theorem atD_last {α : Type} {xs : List α} {v : α} {j : Nat} (hj : xs.length = j + 1) (h : xs[j]? = some v) : atI xs (-1) = some v := by
  unfold atI ixN
  rw [if_neg (by decide), if_pos (by omega)]
  show xs[(-1 + (xs.length : Int)).toNat]? = some v
  rw [show (-1 + (xs.length : Int)).toNat = j by omega]
  exact h
/-! ### tests, and, or, not -/
theorem eb_of {b : Bool} (h : EvD K te σ H (.bool b)) : EvB (tTest te) σ H b := fun H1 s Q q => h H1 s _ fun v H2 s2 dv => by
  cases dv
  exact ⟨b, rfl, q H2 s2⟩
theorem eb_val {b : Bool} (h : EvD K te σ H (.bool b)) : EvB (tB te) σ H b := fun H1 s Q q => h H1 s _ fun v H2 s2 dv => by
  cases dv
  exact ⟨b, rfl, q H2 s2⟩
theorem eb_and {a b : Bool} (h1 : EvB tt σ H a) (h2 : a = true → EvB tu σ H b) : EvB (tAnd tt tu) σ H (a && b) := fun H1 s Q q => h1 H1 s _ fun H2 s2 => by
  cases a with
  | true => exact iteT (h2 rfl H2 (s.trans s2) Q fun H3 s3 => q H3 (s2.trans s3))
  | false => exact iteF (q H2 s2)
theorem eb_or {a b : Bool} (h1 : EvB tt σ H a) (h2 : a = false → EvB tu σ H b) : EvB (tOr tt tu) σ H (a || b) := fun H1 s Q q => h1 H1 s _ fun H2 s2 => by
  cases a with
  | true => exact iteT (q H2 s2)
  | false => exact iteF (h2 rfl H2 (s.trans s2) Q fun H3 s3 => q H3 (s2.trans s3))
theorem eb_not {a : Bool} (h1 : EvB tt σ H a) : EvB (tNot tt) σ H (!a) := fun H1 s Q q => h1 H1 s _ fun H2 s2 => q H2 s2
theorem ed_and {a b : Bool} (h1 : EvD K ta σ H (.bool a)) (h2 : a = true → EvD K tb σ H (.bool b)) : EvD K (tAndV ta tb) σ H (.bool (a && b)) := fun H1 s Q q => h1 H1 s _ fun v H2 s2 dv => by
  cases dv
  cases a with
  | true => exact ⟨true, rfl, iteT (h2 rfl H2 (s.trans s2) Q fun w H3 s3 dw => q w H3 (s2.trans s3) dw)⟩
  | false => exact ⟨false, rfl, iteF (q _ H2 s2 (.bl _))⟩
theorem ed_or {a b : Bool} (h1 : EvD K ta σ H (.bool a)) (h2 : a = false → EvD K tb σ H (.bool b)) : EvD K (tOrV ta tb) σ H (.bool (a || b)) := fun H1 s Q q => h1 H1 s _ fun v H2 s2 dv => by
  cases dv
  cases a with
  | true => exact ⟨true, rfl, iteT (q _ H2 s2 (.bl _))⟩
  | false => exact ⟨false, rfl, iteF (h2 rfl H2 (s.trans s2) Q fun w H3 s3 dw => q w H3 (s2.trans s3) dw)⟩
theorem ed_not {a : Bool} (h1 : EvD K ta σ H (.bool a)) : EvD K (tNotV ta) σ H (.bool (!a)) := fun H1 s Q q => h1 H1 s _ fun v H2 s2 dv => by
  cases dv
  exact ⟨a, rfl, q _ H2 s2 (.bl _)⟩
theorem ed_if {b : Bool} (h : EvB tt σ H b) (h1 : b = true → EvD K ta σ H d) (h2 : b = false → EvD K tb σ H e) : EvD K (tIf tt ta tb) σ H (if b = true then d else e) := fun H1 s Q q => h H1 s _ fun H2 s2 => by
  cases b with
  | true => exact iteT (h1 rfl H2 (s.trans s2) Q fun v H3 s3 dv => q v H3 (s2.trans s3) dv)
  | false => exact iteF (h2 rfl H2 (s.trans s2) Q fun v H3 s3 dv => q v H3 (s2.trans s3) dv)
theorem en_if {b : Bool} (h : EvB tt σ H b) (h1 : b = true → EvN K ta σ H ds) (h2 : b = false → EvN K tb σ H es) : EvN K (tIf tt ta tb) σ H (if b = true then ds else es) := fun H1 s Q q => h H1 s _ fun H2 s2 => by
  cases b with
  | true => exact iteT (h1 rfl H2 (s.trans s2) Q fun p vs H3 n s3 dv a => q p vs H3 (s2.free n) (s2.trans s3) dv a)
  | false => exact iteF (h2 rfl H2 (s.trans s2) Q fun p vs H3 n s3 dv a => q p vs H3 (s2.free n) (s2.trans s3) dv a)
/-- the truth of a list, of a tuple -/
theorem eb_truthL (h : EvD K ta σ H (.list ds)) : EvB (fun σ H Q => ta σ H fun x H' => ∃ k, TruV K x H' k ∧ Q k H') σ H (!ds.isEmpty) := fun H1 s Q q => h H1 s _ fun v H2 s2 dv => by
  cases dv with
  | lst hs a =>
    refine ⟨_, .inl ⟨_, hs, rfl⟩, ?_⟩
    have e := dpAll_len a
    rename_i p xs
    have e2 : xs.isEmpty = ds.isEmpty := by cases xs <;> cases ds <;> first | rfl | (simp at e)
    rw [e2]
    exact q H2 s2
theorem eb_truthT (h : EvD K ta σ H (.tuple ds)) : EvB (fun σ H Q => ta σ H fun x H' => ∃ k, TruV K x H' k ∧ Q k H') σ H (!ds.isEmpty) := fun H1 s Q q => h H1 s _ fun v H2 s2 dv => by
  cases dv with
  | tup hs a =>
    refine ⟨_, .inr (.inl ⟨_, hs, rfl⟩), ?_⟩
    have e := dpAll_len a
    rename_i p xs
    have e2 : xs.isEmpty = ds.isEmpty := by cases xs <;> cases ds <;> first | rfl | (simp at e)
    rw [e2]
    exact q H2 s2
/-! ### displays, calls -/
theorem ea_nil : EvA K tNil σ H [] := fun H1 _ Q q => q [] H1 (Same.refl _) .nil
theorem ea_cons {tr : TA} (h : EvD K ta σ H d) (hr : EvA K tr σ H ds) : EvA K (tCons ta tr) σ H (d :: ds) := fun H1 s Q q =>
  h H1 s _ fun v H2 s2 dv => hr H2 (s.trans s2) _ fun vs H3 s3 a => q _ H3 (s2.trans s3) (.cons (dp_same s3 dv) a)
theorem ed_tup {t : TA} (h : EvA K t σ H ds) (hl : ds.length ≤ 1000) : EvD K (tTup t) σ H (.tuple ds) := fun H1 s Q q =>
  h H1 s _ fun vs H2 s2 a => ⟨by rw [dpAll_len a]; exact small hl, fun p hp => q _ _ (s2.trans (same_new hp _)) (.tup (tup_of upd_same) (dpAll_same (same_new hp _) a))⟩
theorem en_lst {t : TA} (h : EvA K t σ H ds) (hl : ds.length ≤ 1000) : EvN K (tLst t) σ H ds := fun H1 s Q q =>
  h H1 s _ fun vs H2 s2 a => ⟨by rw [dpAll_len a]; exact small hl, fun p hp => q p vs _ (s2.free hp) (s2.trans (same_new hp _)) upd_same (dpAll_same (same_new hp _) a)⟩
theorem ed_cal {ι : Type} {args : ι → List PyData} {pre : ι → Prop} {res : ι → PyData} {t : TA} (i : ι) (h : EvA K t σ H (args i)) (hp : pre i) : EvD K (tCal (spD K args pre res) t) σ H (res i) := fun H1 s Q q =>
  h H1 s _ fun vs H2 s2 a => ⟨i, hp, a, fun v H3 s3 dv => q v H3 (s2.trans s3) dv⟩
theorem en_cal {ι : Type} {args : ι → List PyData} {pre : ι → Prop} {res : ι → List PyData} {t : TA} (i : ι) (h : EvA K t σ H (args i)) (hp : pre i) : EvN K (tCal (spN K args pre res) t) σ H (res i) := fun H1 s Q q =>
  h H1 s _ fun vs H2 s2 a => ⟨i, hp, a, fun p us H3 n s3 e b => q p us H3 (s2.free n) (s2.trans s3) e b⟩
theorem ed_len (h : EvD K ta σ H d) (hd : d = .list ds ∨ d = .tuple ds) : EvD K (tCB (fun xs H Q => ∃ p ys, xs = [.ref p] ∧ (SqL K H p ys ∨ SqT K H p ys) ∧ Q (.int ys.length) H) (tCons ta tNil)) σ H (.int (ds.length : Nat)) := fun H1 s Q q =>
  h H1 s _ fun v H2 s2 dv => by
    rcases hd with rfl | rfl
    · cases dv with
      | lst hs a => exact ⟨_, _, rfl, .inl hs, by rw [dpAll_len a]; exact q _ H2 s2 (.int _)⟩
    · cases dv with
      | tup hs a => exact ⟨_, _, rfl, .inr hs, by rw [dpAll_len a]; exact q _ H2 s2 (.int _)⟩
theorem ed_lenL (h : EvD K ta σ H (.list ds)) : EvD K (tCB (fun xs H Q => ∃ p ys, xs = [.ref p] ∧ (SqL K H p ys ∨ SqT K H p ys) ∧ Q (.int ys.length) H) (tCons ta tNil)) σ H (.int (ds.length : Nat)) := ed_len h (.inl rfl)
theorem ed_lenT (h : EvD K ta σ H (.tuple ds)) : EvD K (tCB (fun xs H Q => ∃ p ys, xs = [.ref p] ∧ (SqL K H p ys ∨ SqT K H p ys) ∧ Q (.int ys.length) H) (tCons ta tNil)) σ H (.int (ds.length : Nat)) := ed_len h (.inr rfl)
theorem ed_max2 {i j : Int} (ha : EvD K ta σ H (.int i)) (hb : EvD K tb σ H (.int j)) : EvD K (tCB (fun xs H Q => ∃ i j, xs = [.int i, .int j] ∧ Q (.int (if j > i then j else i)) H) (tCons ta (tCons tb tNil))) σ H (.int (max i j)) := fun H1 s Q q =>
  ha H1 s _ fun v H2 s2 dv => hb H2 (s.trans s2) _ fun u H3 s3 du => by
    cases dv; cases du
    refine ⟨i, j, rfl, ?_⟩
    have e : (if j > i then j else i) = max i j := by split <;> omega
    rw [e]
    exact q _ H3 (s2.trans s3) (.int _)
theorem ed_min2 {i j : Int} (ha : EvD K ta σ H (.int i)) (hb : EvD K tb σ H (.int j)) : EvD K (tCB (fun xs H Q => ∃ i j, xs = [.int i, .int j] ∧ Q (.int (if j < i then j else i)) H) (tCons ta (tCons tb tNil))) σ H (.int (min i j)) := fun H1 s Q q =>
  ha H1 s _ fun v H2 s2 dv => hb H2 (s.trans s2) _ fun u H3 s3 du => by
    cases dv; cases du
    refine ⟨i, j, rfl, ?_⟩
    have e : (if j < i then j else i) = min i j := by split <;> omega
    rw [e]
    exact q _ H3 (s2.trans s3) (.int _)
theorem en_list (h : EvD K ta σ H d) (hd : d = .list ds ∨ d = .tuple ds) : EvN K (tCB (fun xs H Q => ∃ p ys, xs = [.ref p] ∧ (SqL K H p ys ∨ SqT K H p ys) ∧ ∀ l, H l = none → Q (.ref l) (upd H l (.lst ys))) (tCons ta tNil)) σ H ds := fun H1 s Q q =>
  h H1 s _ fun v H2 s2 dv => by
    rcases hd with rfl | rfl
    · cases dv with
      | lst hs a => exact ⟨_, _, rfl, .inl hs, fun l hl => q l _ _ (s2.free hl) (s2.trans (same_new hl _)) upd_same (dpAll_same (same_new hl _) a)⟩
    · cases dv with
      | tup hs a => exact ⟨_, _, rfl, .inr hs, fun l hl => q l _ _ (s2.free hl) (s2.trans (same_new hl _)) upd_same (dpAll_same (same_new hl _) a)⟩
theorem ed_tuple (h : EvD K ta σ H (.list ds)) : EvD K (tCB (fun xs H Q => ∃ p ys, xs = [.ref p] ∧ ((SqL K H p ys ∧ ∀ l, H l = none → Q (.ref l) (upd H l (.tup ys))) ∨ (SqT K H p ys ∧ Q (.ref p) H))) (tCons ta tNil)) σ H (.tuple ds) := fun H1 s Q q =>
  h H1 s _ fun v H2 s2 dv => by
    cases dv with
    | lst hs a => exact ⟨_, _, rfl, .inl ⟨hs, fun l hl => q _ _ (s2.trans (same_new hl _)) (.tup (tup_of upd_same) (dpAll_same (same_new hl _) a))⟩⟩
theorem ed_sum {ns : List Int} (h : EvD K ta σ H (.list (ns.map .int))) : EvD K (tCB (rSum K) (tCons ta tNil)) σ H (.int ns.sum) := fun H1 s Q q =>
  h H1 s _ fun v H2 s2 dv => by
    cases dv with
    | lst hs a =>
      rw [dpAll_int_eq a] at hs
      exact ⟨_, ns, rfl, hs, q _ H2 s2 (.int _)⟩
theorem ed_all {bs : List Bool} (h : EvD K ta σ H (.list (bs.map .bool))) : EvD K (tCB (rAll K) (tCons ta tNil)) σ H (.bool (bs.all id)) := fun H1 s Q q =>
  h H1 s _ fun v H2 s2 dv => by
    cases dv with
    | lst hs a =>
      rw [dpAll_bl_eq a] at hs
      exact ⟨_, bs, rfl, hs, q _ H2 s2 (.bl _)⟩
theorem ed_any {bs : List Bool} (h : EvD K ta σ H (.list (bs.map .bool))) : EvD K (tCB (rAny K) (tCons ta tNil)) σ H (.bool (bs.any id)) := fun H1 s Q q =>
  h H1 s _ fun v H2 s2 dv => by
    cases dv with
    | lst hs a =>
      rw [dpAll_bl_eq a] at hs
      exact ⟨_, bs, rfl, hs, q _ H2 s2 (.bl _)⟩
/-- the greatest, the least of some -/
def maxL : List Int → Int
  | [] => 0
  | x :: xs => xs.foldl max x
def minL : List Int → Int
  | [] => 0
  | x :: xs => xs.foldl min x
theorem foldl_max_le : ∀ (xs : List Int) (a : Int), a ≤ xs.foldl max a ∧ (∀ y, y ∈ xs → y ≤ xs.foldl max a) ∧ (xs.foldl max a = a ∨ xs.foldl max a ∈ xs)
  | [], a => ⟨Int.le_refl _, fun y h => (by cases h), .inl rfl⟩
  | x :: xs, a => by
    obtain ⟨h1, h2, h3⟩ := foldl_max_le xs (max a x)
    refine ⟨?_, fun y hy => ?_, ?_⟩
    · show a ≤ xs.foldl max (max a x)
      omega
    · show y ≤ xs.foldl max (max a x)
      rcases List.mem_cons.mp hy with q | q
      · omega
      · exact h2 y q
    · show xs.foldl max (max a x) = a ∨ xs.foldl max (max a x) ∈ x :: xs
      rcases h3 with q | q
      · rw [q]
        by_cases e : x ≤ a
        · exact .inl (by omega)
        · exact .inr (by rw [show max a x = x by omega]; exact List.mem_cons_self ..)
      · exact .inr (List.mem_cons_of_mem _ q)
theorem foldl_min_le : ∀ (xs : List Int) (a : Int), xs.foldl min a ≤ a ∧ (∀ y, y ∈ xs → xs.foldl min a ≤ y) ∧ (xs.foldl min a = a ∨ xs.foldl min a ∈ xs)
  | [], a => ⟨Int.le_refl _, fun y h => (by cases h), .inl rfl⟩
  | x :: xs, a => by
    obtain ⟨h1, h2, h3⟩ := foldl_min_le xs (min a x)
    refine ⟨?_, fun y hy => ?_, ?_⟩
    · show xs.foldl min (min a x) ≤ a
      omega
    · show xs.foldl min (min a x) ≤ y
      rcases List.mem_cons.mp hy with q | q
      · omega
      · exact h2 y q
    · show xs.foldl min (min a x) = a ∨ xs.foldl min (min a x) ∈ x :: xs
      rcases h3 with q | q
      · rw [q]
        by_cases e : a ≤ x
        · exact .inl (by omega)
        · exact .inr (by rw [show min a x = x by omega]; exact List.mem_cons_self ..)
      · exact .inr (List.mem_cons_of_mem _ q)
theorem maxL_eq {ns : List Int} {m : Int} (h1 : m ∈ ns) (h2 : ∀ y, y ∈ ns → y ≤ m) : m = maxL ns := by
  cases ns with
  | nil => cases h1
  | cons x xs =>
    obtain ⟨a, b, c⟩ := foldl_max_le xs x
    show m = xs.foldl max x
    have l1 : m ≤ xs.foldl max x := by
      rcases List.mem_cons.mp h1 with q | q
      · omega
      · exact b m q
    have l2 : xs.foldl max x ≤ m := by
      rcases c with q | q
      · rw [q]; exact h2 x (List.mem_cons_self ..)
      · exact h2 _ (List.mem_cons_of_mem _ q)
    omega
theorem minL_eq {ns : List Int} {m : Int} (h1 : m ∈ ns) (h2 : ∀ y, y ∈ ns → m ≤ y) : m = minL ns := by
  cases ns with
  | nil => cases h1
  | cons x xs =>
    obtain ⟨a, b, c⟩ := foldl_min_le xs x
    show m = xs.foldl min x
    have l1 : xs.foldl min x ≤ m := by
      rcases List.mem_cons.mp h1 with q | q
      · omega
      · exact b m q
    have l2 : m ≤ xs.foldl min x := by
      rcases c with q | q
      · rw [q]; exact h2 x (List.mem_cons_self ..)
      · exact h2 _ (List.mem_cons_of_mem _ q)
    omega
theorem ed_maxL {ns : List Int} (h : EvD K ta σ H (.list (ns.map .int))) (hn : 0 < ns.length) : EvD K (tCB (rMax K) (tCons ta tNil)) σ H (.int (maxL ns)) := fun H1 s Q q =>
  h H1 s _ fun v H2 s2 dv => by
    cases dv with
    | lst hs a =>
      rw [dpAll_int_eq a] at hs
      exact ⟨_, ns, rfl, hs, hn, fun m h1 h2 => by rw [maxL_eq h1 h2]; exact q _ H2 s2 (.int _)⟩
theorem ed_minL {ns : List Int} (h : EvD K ta σ H (.list (ns.map .int))) (hn : 0 < ns.length) : EvD K (tCB (rMin K) (tCons ta tNil)) σ H (.int (minL ns)) := fun H1 s Q q =>
  h H1 s _ fun v H2 s2 dv => by
    cases dv with
    | lst hs a =>
      rw [dpAll_int_eq a] at hs
      exact ⟨_, ns, rfl, hs, hn, fun m h1 h2 => by rw [minL_eq h1 h2]; exact q _ H2 s2 (.int _)⟩
/-! ### slices, sums of lists and tuples -/
def cutD (ds : List PyData) (lo hi : Option Int) : List PyData := (ds.drop (HT.sIx ds.length 0 lo)).take (HT.sIx ds.length ds.length hi - HT.sIx ds.length 0 lo)
theorem dpAll_drop : ∀ (n : Nat) {ds : List PyData} {vs : List V}, DpAll K H vs ds → DpAll K H (vs.drop n) (ds.drop n)
  | 0, _, _, h => h
  | n + 1, [], _, h => by cases h; exact .nil
  | n + 1, _ :: _, _, h => by
    cases h with
    | cons h a => exact dpAll_drop n a
theorem dpAll_take : ∀ (n : Nat) {ds : List PyData} {vs : List V}, DpAll K H vs ds → DpAll K H (vs.take n) (ds.take n)
  | 0, _, _, h => .nil
  | n + 1, [], _, h => by cases h; exact .nil
  | n + 1, _ :: _, _, h => by
    cases h with
    | cons h a => exact .cons h (dpAll_take n a)
theorem dpAll_cut {vs : List V} {lo hi : Option Int} (a : DpAll K H vs ds) : DpAll K H (cutV vs lo hi) (cutD ds lo hi) := by
  unfold cutV cutD
  rw [dpAll_len a]
  exact dpAll_take _ (dpAll_drop _ a)
theorem eo_none : EvO tNoPart σ H none := fun H1 _ _ q => q H1 (Same.refl _)
theorem eo_some {i : Int} (h : EvD K te σ H (.int i)) : EvO (tPart te) σ H (some i) := fun H1 s _ q => h H1 s _ fun v H2 s2 dv => by
  cases dv
  exact ⟨i, rfl, q H2 s2⟩
theorem en_slL {tl th : TO} {lo hi : Option Int} (h : EvD K te σ H (.list ds)) (h1 : EvO tl σ H lo) (h2 : EvO th σ H hi) : EvN K (tSl (rSlL K) te tl th) σ H (cutD ds lo hi) := fun H1 s Q q =>
  h H1 s _ fun v H2 s2 dv => h1 H2 (s.trans s2) _ fun H3 s3 => h2 H3 ((s.trans s2).trans s3) _ fun H4 s4 => by
    cases dp_same (s3.trans s4) dv with
    | lst hs a => exact ⟨_, _, rfl, hs, fun p hp => q p _ _ (((s2.trans s3).trans s4).free hp) (((s2.trans s3).trans s4).trans (same_new hp _)) upd_same (dpAll_same (same_new hp _) (dpAll_cut a))⟩
theorem en_cat (ha : EvN K ta σ H ds) (hb : EvN K tb σ H es) (hl : ds.length + es.length ≤ 5000) : EvN K (tOp rCat ta tb) σ H (ds ++ es) := fun H1 s Q q =>
  ha H1 s _ fun p vs H2 n s2 h2 a => hb H2 (s.trans s2) _ fun p' ws H3 n' s3 h3 b => ⟨p, p', vs, ws, rfl, rfl, s3 _ _ h2, h3, by rw [dpAll_len a, dpAll_len b]; exact Nat.le_trans hl (by decide), fun l hl =>
    q l _ _ ((s2.trans s3).free hl) ((s2.trans s3).trans (same_new hl _)) upd_same (dpAll_same (same_new hl _) (dpAll_append b (dpAll_same s3 a)))⟩
end
end LB
/-! Statements, loops and comprehensions told by data. Own text. -/
namespace LB
open PySem L2
/-- all but the bad ones stand -/
structure Chg (K : PySem.W.Frag) (bad : Addr → Prop) (H H' : Hp) : Prop where
  but : ∀ a o, ¬ bad a → H a = some o → H' a = some o
  grow : Grow K H H'
def LstAt (K : PySem.W.Frag) (H : Hp) (l : Addr) (ds : List PyData) : Prop := ∃ vs, H l = some (.lst vs) ∧ DpAll K H vs ds
section
variable {K : PySem.W.Frag} {bad : Addr → Prop} {H H0 H1 H2 H' : Hp} {l m : Addr} {ds es : List PyData}
theorem Chg.refl (H : Hp) : Chg K bad H H := ⟨fun _ _ _ h => h, Grow.refl H⟩
theorem Chg.trans (a : Chg K bad H H1) (b : Chg K bad H1 H2) : Chg K bad H H2 := ⟨fun p o n e => b.but p o n (a.but p o n e), a.grow.trans b.grow⟩
theorem Chg.of (s : Same H H') : Chg K bad H H' := ⟨fun p o _ e => s p o e, Grow.same s⟩
theorem Chg.mono {bad' : Addr → Prop} (h : ∀ a, bad a → bad' a) (c : Chg K bad H H') : Chg K bad' H H' := ⟨fun p o n e => c.but p o (fun z => n (h p z)) e, c.grow⟩
theorem Chg.set {xs ys : List V} (h : H l = some (.lst xs)) (hb : bad l) : Chg K bad H (upd H l (.lst ys)) := ⟨fun p o n e => by
  rw [upd_ne (fun z => n (by rw [z]; exact hb))]
  exact e, Grow.set h⟩
theorem Same.chg (s : Same H0 H) (c : Chg K bad H H') (hb : ∀ a, bad a → H0 a = none) : Same H0 H' := fun b u e => c.but b u (fun z => by rw [hb b z] at e; cases e) (s b u e)
theorem LstAt.same (h : LstAt K H l ds) (s : Same H H') : LstAt K H' l ds := by
  obtain ⟨vs, e, a⟩ := h
  exact ⟨vs, s _ _ e, dpAll_same s a⟩
theorem LstAt.chg (h : LstAt K H l ds) (c : Chg K bad H H') (n : ¬ bad l) (hn : noLs ds = true) : LstAt K H' l ds := by
  obtain ⟨vs, e, a⟩ := h
  exact ⟨vs, c.but _ _ n e, dpAll_grow c.grow hn a⟩
theorem LstAt.dp (h : LstAt K H l ds) : Dp K H (.ref l) (.list ds) := by
  obtain ⟨vs, e, a⟩ := h
  exact .lst (SqL.of e) a
theorem LstAt.there (h : LstAt K H l ds) : ∃ o, H l = some o := by
  obtain ⟨vs, e, a⟩ := h
  exact ⟨_, e⟩
theorem LstAt.ne (h : LstAt K H l ds) (e : H m = none) : m ≠ l := fun z => by
  obtain ⟨o, q⟩ := h.there
  rw [z, q] at e
  cases e
end
/-! ### statements -/
section
variable {K : PySem.W.Frag} {σ : L2.St} {H H' : Hp} {ta tb te : TE} {tt : TT} {d e f : PyData} {ds es : List PyData} {D : Ends} {tu tw tz : TS}
theorem s_asg {i : Nat} (h : EvD K te σ H d) (k : ∀ v H1, Same H H1 → Dp K H1 v d → D.nx (σ.set i (some v)) H1) : tAsg te (gName i) D σ H := h H (Same.refl _) _ k
theorem s_asgI {i : Nat} {z : Int} (h : EvD K te σ H (.int z)) (k : ∀ H1, Same H H1 → D.nx (σ.set i (some (.int z))) H1) : tAsg te (gName i) D σ H := h H (Same.refl _) _ fun v H1 s dv => by
  cases dv
  exact k H1 s
theorem s_asgN {i : Nat} (h : EvN K te σ H ds) (k : ∀ p H1, H p = none → Same H H1 → LstAt K H1 p ds → D.nx (σ.set i (some (.ref p))) H1) : tAsg te (gName i) D σ H := h H (Same.refl _) _ fun p vs H1 n s e a => k p H1 n s ⟨vs, e, a⟩
theorem s_ret (h : EvD K te σ H d) (k : ∀ v H1, Same H H1 → Dp K H1 v d → D.rt v H1) : tRet te D σ H := h H (Same.refl _) _ k
theorem s_retN (h : EvN K te σ H ds) (k : ∀ p vs H1, H p = none → Same H H1 → H1 p = some (.lst vs) → DpAll K H1 vs ds → D.rt (.ref p) H1) : tRet te D σ H := h H (Same.refl _) _ k
theorem s_if {b : Bool} (h : EvB tt σ H b) (h1 : b = true → ∀ H1, Same H H1 → tu D σ H1) (h2 : b = false → ∀ H1, Same H H1 → tw D σ H1) : tIfS tt tu tw D σ H := h H (Same.refl _) _ fun H1 s => by
  cases b with
  | true => exact iteT (h1 rfl H1 s)
  | false => exact iteF (h2 rfl H1 s)
theorem s_drop (h : EvD K te σ H d) (k : ∀ H1, Same H H1 → D.nx σ H1) : tDrop te D σ H := h H (Same.refl _) _ fun _ H1 s _ => k H1 s
theorem s_unp2 {i j : Nat} (h : EvD K te σ H (.tuple [d, e])) (k : ∀ v w H1, Same H H1 → Dp K H1 v d → Dp K H1 w e → D.nx ((σ.set i (some v)).set j (some w)) H1) : tAsg te (gTup K 2 (gCons (gName i) (gCons (gName j) gNil))) D σ H :=
  h H (Same.refl _) _ fun v H1 s dv => by
    cases dv with
    | tup hs a =>
      cases a with
      | cons h1 a =>
        cases a with
        | cons h2 a =>
          cases a
          exact ⟨_, _, rfl, hs, rfl, _, _, rfl, _, _, rfl, rfl, k _ _ H1 s h1 h2⟩
theorem s_unp3 {i j m : Nat} (h : EvD K te σ H (.tuple [d, e, f])) (k : ∀ v w u H1, Same H H1 → Dp K H1 v d → Dp K H1 w e → Dp K H1 u f → D.nx (((σ.set i (some v)).set j (some w)).set m (some u)) H1) : tAsg te (gTup K 3 (gCons (gName i) (gCons (gName j) (gCons (gName m) gNil)))) D σ H :=
  h H (Same.refl _) _ fun v H1 s dv => by
    cases dv with
    | tup hs a =>
      cases a with
      | cons h1 a =>
        cases a with
        | cons h2 a =>
          cases a with
          | cons h3 a =>
            cases a
            exact ⟨_, _, rfl, hs, rfl, _, _, rfl, _, _, rfl, _, _, rfl, rfl, k _ _ _ H1 s h1 h2 h3⟩
/-- xs.append(e) -/
theorem s_app {i : Nat} {l : Addr} {bad : Addr → Prop} (hv : σ[i]? = some (some (.ref l))) (hl : LstAt K H l ds) (h : EvD K te σ H d) (hn : noLs ds = true) (hd : noL d = true) (hz : ds.length ≤ 5000) (hb : bad l) (k : ∀ H1, Chg K bad H H1 → LstAt K H1 l (ds ++ [d]) → D.nx σ H1) :
    tDrop (tBM K "list" rAppend (tVar i) (tCons te tNil)) D σ H := by
  obtain ⟨vs, e, a⟩ := hl
  refine ⟨_, hv, .inl ⟨rfl, vs, SqL.of e⟩, h H (Same.refl _) _ fun v H2 s2 dv => ?_⟩
  have hl' := dpAll_len a
  have c : Chg K bad H (upd H2 l (.lst (vs ++ [v]))) := (Chg.of s2).trans (Chg.set (s2 _ _ e) hb)
  refine ⟨l, vs, v, rfl, rfl, s2 _ _ e, ?_, k _ c ⟨_, upd_same, dpAll_snoc (dp_grow (Grow.set (s2 _ _ e)) hd dv) (dpAll_grow c.grow hn a)⟩⟩
  rw [hl']
  exact Nat.lt_of_le_of_lt hz (by decide)
/-- if c: xs.append(e) -/
theorem s_ifApp {b : Bool} {i : Nat} {l : Addr} {bad : Addr → Prop} (hc : EvB tt σ H b) (hv : σ[i]? = some (some (.ref l))) (hl : LstAt K H l ds) (h : b = true → EvD K te σ H d) (hn : noLs ds = true) (hd : noL d = true) (hz : ds.length ≤ 5000) (hb : bad l)
    (k : ∀ H1, Chg K bad H H1 → LstAt K H1 l (ds ++ if b = true then [d] else []) → D.nx σ H1) :
    tIfS tt (tDrop (tBM K "list" rAppend (tVar i) (tCons te tNil))) tNext D σ H := by
  refine s_if hc (fun q H1 s => ?_) (fun q H1 s => ?_)
  · rw [q] at k
    exact s_app hv (hl.same s) ((h q).mono s) hn hd hz hb fun H2 c hl2 => k H2 ((Chg.of s).trans c) hl2
  · rw [q] at k
    show D.nx σ H1
    exact k H1 (Chg.of s) (by rw [if_neg (by decide), List.append_nil]; exact hl.same s)
theorem dpAll_ixN {vs : List V} {i : Int} {j : Nat} (a : DpAll K H vs ds) (h : ixN ds.length i = some j) : ixN vs.length i = some j := by rw [dpAll_len a]; exact h
/-- xs[i] = e -/
theorem s_setL {i : Nat} {l : Addr} {bad : Addr → Prop} {z : Int} {j : Nat} (hv : σ[i]? = some (some (.ref l))) (hl : LstAt K H l ds) (h : EvD K te σ H d) (hi : EvD K tb σ H (.int z)) (hj : ixN ds.length z = some j) (hn : noLs ds = true) (hd : noL d = true) (hb : bad l)
    (k : ∀ H1, Chg K bad H H1 → LstAt K H1 l (ds.set j d) → D.nx σ H1) : tAsg te (gSub (tVar i) tb rSetL) D σ H := by
  obtain ⟨vs, e, a⟩ := hl
  refine h H (Same.refl _) _ fun v H1 s1 dv => ⟨_, hv, hi H1 s1 _ fun u H2 s2 du => ?_⟩
  cases du
  have c : Chg K bad H (upd H2 l (.lst (vs.set j v))) := (Chg.of (s1.trans s2)).trans (Chg.set (s2 _ _ (s1 _ _ e)) hb)
  exact ⟨l, vs, z, j, rfl, rfl, s2 _ _ (s1 _ _ e), dpAll_ixN a hj, k _ c ⟨_, upd_same, dpAll_set (dp_grow (Grow.set (s2 _ _ (s1 _ _ e))) hd (dp_same s2 dv)) j (dpAll_grow c.grow hn a)⟩⟩
/-- xs.extend(ys) -/
theorem s_ext {i : Nat} {l : Addr} {bad : Addr → Prop} (hv : σ[i]? = some (some (.ref l))) (hl : LstAt K H l ds) (h : EvN K te σ H es) (hn : noLs ds = true) (hd : noLs es = true) (hz : ds.length + es.length ≤ 5000) (hb : bad l) (k : ∀ H1, Chg K bad H H1 → LstAt K H1 l (ds ++ es) → D.nx σ H1) :
    tDrop (tBM K "list" rExtend (tVar i) (tCons te tNil)) D σ H := by
  obtain ⟨vs, e, a⟩ := hl
  refine ⟨_, hv, .inl ⟨rfl, vs, SqL.of e⟩, h H (Same.refl _) _ fun p ws H2 n s2 e2 a2 => ?_⟩
  have c : Chg K bad H (upd H2 l (.lst (vs ++ ws))) := (Chg.of s2).trans (Chg.set (s2 _ _ e) hb)
  refine ⟨l, p, vs, ws, rfl, rfl, s2 _ _ e, e2, ?_, k _ c ⟨_, upd_same, dpAll_append (dpAll_grow (Grow.set (s2 _ _ e)) hd a2) (dpAll_grow c.grow hn a)⟩⟩
  rw [dpAll_len a, dpAll_len a2]
  exact Nat.le_trans hz (by decide)
/-! the same, something behind -/
theorem q_asg {i : Nat} (h : EvD K te σ H d) (k : ∀ v H1, Same H H1 → Dp K H1 v d → tz D (σ.set i (some v)) H1) : tSeq (tAsg te (gName i)) tz D σ H := s_asg (D := { D with nx := tz D }) h k
theorem q_asgI {i : Nat} {z : Int} (h : EvD K te σ H (.int z)) (k : ∀ H1, Same H H1 → tz D (σ.set i (some (.int z))) H1) : tSeq (tAsg te (gName i)) tz D σ H := s_asgI (D := { D with nx := tz D }) h k
theorem q_asgN {i : Nat} (h : EvN K te σ H ds) (k : ∀ p H1, H p = none → Same H H1 → LstAt K H1 p ds → tz D (σ.set i (some (.ref p))) H1) : tSeq (tAsg te (gName i)) tz D σ H := s_asgN (D := { D with nx := tz D }) h k
theorem q_if {b : Bool} (h : EvB tt σ H b) (h1 : b = true → ∀ H1, Same H H1 → tu { D with nx := tz D } σ H1) (h2 : b = false → ∀ H1, Same H H1 → tw { D with nx := tz D } σ H1) : tSeq (tIfS tt tu tw) tz D σ H := s_if (D := { D with nx := tz D }) h h1 h2
theorem q_when {b : Bool} (h : EvB tt σ H b) (h1 : b = true → ∀ H1, Same H H1 → tu { D with nx := tz D } σ H1) (h2 : b = false → ∀ H1, Same H H1 → tz D σ H1) : tSeq (tIfS tt tu tNext) tz D σ H := s_if (D := { D with nx := tz D }) h h1 h2
theorem q_drop (h : EvD K te σ H d) (k : ∀ H1, Same H H1 → tz D σ H1) : tSeq (tDrop te) tz D σ H := s_drop (D := { D with nx := tz D }) h k
theorem q_unp2 {i j : Nat} (h : EvD K te σ H (.tuple [d, e])) (k : ∀ v w H1, Same H H1 → Dp K H1 v d → Dp K H1 w e → tz D ((σ.set i (some v)).set j (some w)) H1) : tSeq (tAsg te (gTup K 2 (gCons (gName i) (gCons (gName j) gNil)))) tz D σ H := s_unp2 (D := { D with nx := tz D }) h k
theorem q_unp3 {i j m : Nat} (h : EvD K te σ H (.tuple [d, e, f])) (k : ∀ v w u H1, Same H H1 → Dp K H1 v d → Dp K H1 w e → Dp K H1 u f → tz D (((σ.set i (some v)).set j (some w)).set m (some u)) H1) : tSeq (tAsg te (gTup K 3 (gCons (gName i) (gCons (gName j) (gCons (gName m) gNil))))) tz D σ H := s_unp3 (D := { D with nx := tz D }) h k
theorem q_app {i : Nat} {l : Addr} {bad : Addr → Prop} (hv : σ[i]? = some (some (.ref l))) (hl : LstAt K H l ds) (h : EvD K te σ H d) (hn : noLs ds = true) (hd : noL d = true) (hz : ds.length ≤ 5000) (hb : bad l) (k : ∀ H1, Chg K bad H H1 → LstAt K H1 l (ds ++ [d]) → tz D σ H1) :
    tSeq (tDrop (tBM K "list" rAppend (tVar i) (tCons te tNil))) tz D σ H := s_app (D := { D with nx := tz D }) hv hl h hn hd hz hb k
theorem q_ifApp {b : Bool} {i : Nat} {l : Addr} {bad : Addr → Prop} (hc : EvB tt σ H b) (hv : σ[i]? = some (some (.ref l))) (hl : LstAt K H l ds) (h : b = true → EvD K te σ H d) (hn : noLs ds = true) (hd : noL d = true) (hz : ds.length ≤ 5000) (hb : bad l)
    (k : ∀ H1, Chg K bad H H1 → LstAt K H1 l (ds ++ if b = true then [d] else []) → tz D σ H1) :
    tSeq (tIfS tt (tDrop (tBM K "list" rAppend (tVar i) (tCons te tNil))) tNext) tz D σ H := s_ifApp (D := { D with nx := tz D }) hc hv hl h hn hd hz hb k
theorem q_setL {i : Nat} {l : Addr} {bad : Addr → Prop} {z : Int} {j : Nat} (hv : σ[i]? = some (some (.ref l))) (hl : LstAt K H l ds) (h : EvD K te σ H d) (hi : EvD K tb σ H (.int z)) (hj : ixN ds.length z = some j) (hn : noLs ds = true) (hd : noL d = true) (hb : bad l)
    (k : ∀ H1, Chg K bad H H1 → LstAt K H1 l (ds.set j d) → tz D σ H1) : tSeq (tAsg te (gSub (tVar i) tb rSetL)) tz D σ H := s_setL (D := { D with nx := tz D }) hv hl h hi hj hn hd hb k
theorem q_ext {i : Nat} {l : Addr} {bad : Addr → Prop} (hv : σ[i]? = some (some (.ref l))) (hl : LstAt K H l ds) (h : EvN K te σ H es) (hn : noLs ds = true) (hd : noLs es = true) (hz : ds.length + es.length ≤ 5000) (hb : bad l) (k : ∀ H1, Chg K bad H H1 → LstAt K H1 l (ds ++ es) → tz D σ H1) :
    tSeq (tDrop (tBM K "list" rExtend (tVar i) (tCons te tNil))) tz D σ H := s_ext (D := { D with nx := tz D }) hv hl h hn hd hz hb k
end
/-! ### what is walked -/
def EvI (K : PySem.W.Frag) (Rl : Hp → Hp → Prop) (ti : TI) (σ : L2.St) (H : Hp) (n : Nat) (item : Nat → Option PyData) : Prop := ∀ H1, Same H H1 → ∀ R : It → Hp → Prop,
  (∀ (J : It) (H2 : Hp) (G : Hp → Prop) (Y : Nat → Hp → V → Hp → Prop), Same H1 H2 → Walk J n G Y → (∀ H3, Rl H2 H3 → G H3) → (∀ i H3 x H4, i < n → Rl H2 H3 → Y i H3 x H4 → ∃ d, item i = some d ∧ Same H3 H4 ∧ Dp K H4 x d) → R J H2) → ti σ H1 R
/-- a target -/
structure Tg (K : PySem.W.Frag) (g : TG) (ok : PyData → Prop) (T : PyData → L2.St → L2.St → Hp → Prop) : Prop where
  run : ∀ (x : V) (σ' : L2.St) (H : Hp) (d : PyData) (Qk : L2.St → Hp → Prop), Dp K H x d → ok d → (∀ σ2, T d σ' σ2 H → Qk σ2 H) → g x σ' H Qk
section
variable {K : PySem.W.Frag} {Rl : Hp → Hp → Prop} {σ : L2.St} {H H' : Hp} {ta tb te : TE} {tt : TT} {d e f : PyData} {ds es : List PyData}
abbrev T1 (K : PySem.W.Frag) (j : Nat) : PyData → L2.St → L2.St → Hp → Prop := fun d σ' σ2 H => ∃ v, Dp K H v d ∧ σ2 = σ'.set j (some v)
abbrev T2 (K : PySem.W.Frag) (i j : Nat) : PyData → L2.St → L2.St → Hp → Prop := fun d σ' σ2 H => ∃ v w a b, d = .tuple [a, b] ∧ Dp K H v a ∧ Dp K H w b ∧ σ2 = (σ'.set i (some v)).set j (some w)
abbrev T3 (K : PySem.W.Frag) (i j m : Nat) : PyData → L2.St → L2.St → Hp → Prop := fun d σ' σ2 H => ∃ v w u a b c, d = .tuple [a, b, c] ∧ Dp K H v a ∧ Dp K H w b ∧ Dp K H u c ∧ σ2 = ((σ'.set i (some v)).set j (some w)).set m (some u)
theorem tg1 {j : Nat} : Tg K (gName j) (fun _ => True) (T1 K j) := ⟨fun x σ' H d Qk hd _ k => k _ ⟨x, hd, rfl⟩⟩
theorem tg2 {i j : Nat} : Tg K (gTup K 2 (gCons (gName i) (gCons (gName j) gNil))) (fun d => ∃ a b, d = .tuple [a, b]) (T2 K i j) := ⟨fun x σ' H d Qk hd ⟨a, b, e⟩ k => by
  subst e
  cases hd with
  | tup hs q =>
    cases q with
    | cons h1 q =>
      cases q with
      | cons h2 q =>
        cases q
        exact ⟨_, _, rfl, hs, rfl, _, _, rfl, _, _, rfl, rfl, k _ ⟨_, _, a, b, rfl, h1, h2, rfl⟩⟩⟩
theorem tg3 {i j m : Nat} : Tg K (gTup K 3 (gCons (gName i) (gCons (gName j) (gCons (gName m) gNil)))) (fun d => ∃ a b c, d = .tuple [a, b, c]) (T3 K i j m) := ⟨fun x σ' H d Qk hd ⟨a, b, c, e⟩ k => by
  subst e
  cases hd with
  | tup hs q =>
    cases q with
    | cons h1 q =>
      cases q with
      | cons h2 q =>
        cases q with
        | cons h3 q =>
          cases q
          exact ⟨_, _, rfl, hs, rfl, _, _, rfl, _, _, rfl, _, _, rfl, rfl, k _ ⟨_, _, _, a, b, c, rfl, h1, h2, h3, rfl⟩⟩⟩
theorem EvI.weaken {Rl' : Hp → Hp → Prop} {ti : TI} {n : Nat} {item : Nat → Option PyData} (h : EvI K Rl ti σ H n item) (w : ∀ H H', Rl' H H' → Rl H H') : EvI K Rl' ti σ H n item := fun H1 s R k =>
  h H1 s R fun J H2 G Y s2 wk g y => k J H2 G Y s2 wk (fun H3 r => g H3 (w _ _ r)) (fun i H3 x H4 hi r => y i H3 x H4 hi (w _ _ r))
theorem EvI.len {ti : TI} {n m : Nat} {item : Nat → Option PyData} (q : n = m) (h : EvI K Rl ti σ H n item) : EvI K Rl ti σ H m item := by rw [← q]; exact h
theorem ei_range1 {n : Int} (h : EvD K ta σ H (.int n)) (hn : n ≤ 100000) (hm : -100000 ≤ n) : EvI K (fun _ _ => True) (iRng1 (tCons ta tNil)) σ H n.toNat (fun i => some (.int (i : Nat))) := fun H1 s R k =>
  h H1 s _ fun v H2 s2 dv => by
    cases dv
    exact ⟨n, rfl, by omega, by omega, k _ H2 _ _ s2 (walk_range (lo := 0) (n := n.toNat)) (fun _ _ => trivial) fun i H3 x H4 hi _ y => ⟨_, rfl, by rw [y.1]; exact Same.refl _, by
      rw [y.2]
      show Dp K H4 (.int (0 + (i : Int))) (.int (i : Int))
      rw [Int.zero_add]
      exact .int _⟩⟩
theorem ei_range2 {lo n : Int} (ha : EvD K ta σ H (.int lo)) (hb : EvD K tb σ H (.int n)) (h1 : -100000 ≤ lo ∧ lo ≤ 100000) (h2 : -100000 ≤ n ∧ n ≤ 100000) : EvI K (fun _ _ => True) (iRng2 (tCons ta (tCons tb tNil))) σ H (n - lo).toNat (fun i => some (.int (lo + (i : Nat)))) := fun H1 s R k =>
  ha H1 s _ fun v H2 s2 dv => hb H2 (s.trans s2) _ fun u H3 s3 du => by
    cases dv; cases du
    exact ⟨lo, n, rfl, ⟨by omega, by omega, by omega, by omega⟩, k _ H3 _ _ (s2.trans s3) (walk_range (lo := lo) (n := (n - lo).toNat)) (fun _ _ => trivial) fun i H4 x H5 hi _ y => ⟨_, rfl, by rw [y.1]; exact Same.refl _, by
      rw [y.2]
      exact .int _⟩⟩
theorem dpAll_item {vs : List V} {i : Nat} {x : V} (a : DpAll K H vs ds) (e : vs[i]? = some x) : ∃ d, ds[i]? = some d ∧ Dp K H x d := dpAll_at a e
/-- over a tuple -/
theorem ei_tup (h : EvD K ta σ H (.tuple ds)) (hn : noLs ds = true) : EvI K (Grow K) (iTup K ta) σ H ds.length (fun i => ds[i]?) := fun H1 s R k =>
  h H1 s _ fun v H2 s2 dv => by
    cases dv with
    | tup hs a =>
      refine ⟨_, rfl, ⟨_, hs⟩, ?_⟩
      rw [← dpAll_len a] at k
      exact k _ H2 _ _ s2 (walk_tup (K := K)) (fun H3 r => r _ _ hs) fun i H3 x H4 hi r y => by
        obtain ⟨d, e1, e2⟩ := dpAll_item a y.2
        rw [y.1]
        exact ⟨d, e1, Same.refl _, dp_grow r (noLs_mem hn d (List.mem_of_getElem? e1)) e2⟩
/-- over a list that stands -/
theorem ei_list (h : EvD K ta σ H (.list ds)) : EvI K Same (iList K ta) σ H ds.length (fun i => ds[i]?) := fun H1 s R k =>
  h H1 s _ fun v H2 s2 dv => by
    cases dv with
    | lst hs a =>
      refine ⟨_, rfl, ⟨_, hs⟩, ?_⟩
      rw [← dpAll_len a] at k
      exact k _ H2 _ _ s2 (walk_list (K := K)) (fun H3 r => r.seq hs) fun i H3 x H4 hi r y => by
        obtain ⟨d, e1, e2⟩ := dpAll_item a y.2
        rw [y.1]
        exact ⟨d, e1, Same.refl _, dp_same r e2⟩
/-- over a new list, while others change -/
theorem ei_new {bad : Addr → Prop} (h : EvN K ta σ H ds) (hb : ∀ a, bad a → ∃ o, H a = some o) (hn : noLs ds = true) : EvI K (Chg K bad) (iList K ta) σ H ds.length (fun i => ds[i]?) := fun H1 s R k =>
  h H1 s _ fun p vs H2 n s2 e a => by
    have nb : ¬ bad p := fun z => by
      obtain ⟨o, q⟩ := hb p z
      rw [s _ _ q] at n
      cases n
    refine ⟨_, rfl, ⟨_, SqL.of e⟩, ?_⟩
    rw [← dpAll_len a] at k
    exact k _ H2 _ _ s2 (walk_list (K := K) (xs := vs)) (fun H3 r => SqL.of (r.but _ _ nb e)) fun i H3 x H4 hi r y => by
      obtain ⟨d, e1, e2⟩ := dpAll_item a y.2
      rw [y.1]
      exact ⟨d, e1, Same.refl _, dp_grow r.grow (noLs_mem hn d (List.mem_of_getElem? e1)) e2⟩
/-- over a list kept by a name, while others change -/
theorem ei_lst {bad : Addr → Prop} {l : Addr} {i : Nat} (hv : σ[i]? = some (some (.ref l))) (hl : LstAt K H l ds) (nb : ¬ bad l) (hn : noLs ds = true) : EvI K (Chg K bad) (iList K (tVar i)) σ H ds.length (fun i => ds[i]?) := fun H1 s R k => by
  obtain ⟨vs, e, a⟩ := hl.same s
  refine ⟨_, hv, _, rfl, ⟨_, SqL.of e⟩, ?_⟩
  rw [← dpAll_len a] at k
  exact k _ H1 _ _ (Same.refl _) (walk_list (K := K) (xs := vs)) (fun H3 r => SqL.of (r.but _ _ nb e)) fun i H3 x H4 hi r y => by
    obtain ⟨d, e1, e2⟩ := dpAll_item a y.2
    rw [y.1]
    exact ⟨d, e1, Same.refl _, dp_grow r.grow (noLs_mem hn d (List.mem_of_getElem? e1)) e2⟩
/-- enumerate(a tuple) -/
theorem ei_enumT (h : EvD K ta σ H (.tuple ds)) (hn : noLs ds = true) : EvI K (Grow K) (iEnumT K (tCons ta tNil)) σ H ds.length (fun i => (ds[i]?).map fun d => .tuple [.int (i : Nat), d]) := fun H1 s R k =>
  h H1 s _ fun v H2 s2 dv => by
    cases dv with
    | tup hs a =>
      refine ⟨_, _, rfl, hs, ?_⟩
      rw [← dpAll_len a] at k
      exact k _ H2 _ _ s2 (walkET (K := K)) (fun H3 r => r _ _ hs) fun i H3 x H4 hi r y => by
        obtain ⟨T, z, u, rfl, nT, rfl, ez, hu⟩ := y
        obtain rfl := Option.some.inj ez
        obtain ⟨d, e1, e2⟩ := dpAll_item a hu
        have sT := same_new nT (.tup [.int (i : Nat), u])
        exact ⟨_, by show (ds[i]?).map _ = _; rw [e1]; rfl, sT, .tup (tup_of upd_same) (.cons (.int _) (.cons (dp_same sT (dp_grow r (noLs_mem hn d (List.mem_of_getElem? e1)) e2)) .nil))⟩
/-- enumerate(a list) that stands -/
theorem ei_enumL (h : EvD K ta σ H (.list ds)) : EvI K Same (iEnum K (tCons ta tNil)) σ H ds.length (fun i => (ds[i]?).map fun d => .tuple [.int (i : Nat), d]) := fun H1 s R k =>
  h H1 s _ fun v H2 s2 dv => by
    cases dv with
    | lst hs a =>
      refine ⟨_, _, rfl, hs, ?_⟩
      rw [← dpAll_len a] at k
      exact k _ H2 _ _ s2 (walk_enum (K := K)) (fun H3 r => r.seq hs) fun i H3 x H4 hi r y => by
        obtain ⟨T, z, u, rfl, nT, rfl, ez, hu⟩ := y
        obtain rfl := Option.some.inj ez
        obtain ⟨d, e1, e2⟩ := dpAll_item a hu
        have sT := same_new nT (.tup [.int (i : Nat), u])
        exact ⟨_, by show (ds[i]?).map _ = _; rw [e1]; rfl, sT, .tup (tup_of upd_same) (.cons (.int _) (.cons (dp_same sT (dp_same r e2)) .nil))⟩
/-- zip(a list, a list) that stand -/
theorem ei_zipL (ha : EvD K ta σ H (.list ds)) (hb : EvD K tb σ H (.list es)) : EvI K Same (RZ.iZipA K (tCons ta (tCons tb tNil))) σ H (min ds.length es.length) (fun i => match ds[i]?, es[i]? with | some d, some e => some (.tuple [d, e]) | _, _ => none) := fun H1 s R k =>
  ha H1 s _ fun v H2 s2 dv => hb H2 (s.trans s2) _ fun u H3 s3 du => by
    cases dp_same s3 dv with
    | lst hs a =>
      cases du with
      | lst hs' b =>
        refine ⟨_, _, _, _, rfl, .inl ⟨hs, hs', ?_⟩⟩
        refine k _ H3 _ _ (s2.trans s3) (walk_zip (K := K) (by rw [dpAll_len a, dpAll_len b])) (fun H4 r => ⟨r.seq hs, r.seq hs'⟩) fun i H4 x H5 hi r y => ?_
        obtain ⟨T, z, w, rfl, nT, rfl, ez, ew⟩ := y
        obtain ⟨d, d1, d2⟩ := dpAll_item a ez
        obtain ⟨e, e1, e2⟩ := dpAll_item b ew
        have sT := same_new nT (.tup [z, w])
        refine ⟨.tuple [d, e], ?_, sT, .tup (tup_of upd_same) (.cons (dp_same sT (dp_same r d2)) (.cons (dp_same sT (dp_same r e2)) .nil))⟩
        show (match ds[i]?, es[i]? with | some d, some e => some (PyData.tuple [d, e]) | _, _ => none) = _
        rw [d1, e1]
/-- a for -/
theorem s_for {ti : TI} {g : TG} {tb : TS} {D : Ends} {n : Nat} {item : Nat → Option PyData} {ok : PyData → Prop} {T : PyData → L2.St → L2.St → Hp → Prop} (hi : EvI K Rl ti σ H n item) (hg : Tg K g ok T) (hok : ∀ i d, item i = some d → ok d)
    (Pv : Hp → Nat → L2.St → Hp → Prop) (h0 : ∀ H1, Same H H1 → Pv H1 0 σ H1) (stay : ∀ H1 i σ' H', Pv H1 i σ' H' → Rl H1 H')
    (hs : ∀ H1 i d σ' H' σ2 H2, Same H H1 → i < n → item i = some d → Pv H1 i σ' H' → Same H' H2 → T d σ' σ2 H2 → tb { D with nx := Pv H1 (i + 1), ct := Pv H1 (i + 1), bk := D.nx } σ2 H2)
    (hd : ∀ H1 σ' H', Same H H1 → Pv H1 n σ' H' → D.nx σ' H') : tFor ti g tb D σ H :=
  hi H (Same.refl _) _ fun J H2 G Y s2 w hG hY => by
    refine for_it w (Pv H2) (h0 H2 s2) (fun i σ' H' _ p => hG H' (stay _ _ _ _ p)) (fun i x σ' H3 H4 hi p y => ?_) (fun σ' H' p => hd H2 σ' H' s2 p)
    obtain ⟨d, e1, e2, e3⟩ := hY i H3 x H4 hi (stay _ _ _ _ p) y
    exact hg.run x σ' H4 d _ e3 (hok i d e1) fun σ2 t => hs H2 i d σ' H3 σ2 H4 s2 hi e1 p e2 t
theorem q_for {ti : TI} {g : TG} {tb tz : TS} {D : Ends} {n : Nat} {item : Nat → Option PyData} {ok : PyData → Prop} {T : PyData → L2.St → L2.St → Hp → Prop} (hi : EvI K Rl ti σ H n item) (hg : Tg K g ok T) (hok : ∀ i d, item i = some d → ok d)
    (Pv : Hp → Nat → L2.St → Hp → Prop) (h0 : ∀ H1, Same H H1 → Pv H1 0 σ H1) (stay : ∀ H1 i σ' H', Pv H1 i σ' H' → Rl H1 H')
    (hs : ∀ H1 i d σ' H' σ2 H2, Same H H1 → i < n → item i = some d → Pv H1 i σ' H' → Same H' H2 → T d σ' σ2 H2 → tb { D with nx := Pv H1 (i + 1), ct := Pv H1 (i + 1), bk := tz D } σ2 H2)
    (hd : ∀ H1 σ' H', Same H H1 → Pv H1 n σ' H' → tz D σ' H') : tSeq (tFor ti g tb) tz D σ H := s_for (D := { D with nx := tz D }) hi hg hok Pv h0 stay hs hd
/-- a comprehension -/
theorem en_lc {α : Type} {ti : TI} {g : TG} {own : List Nat} {item : Nat → Option PyData} {ok : PyData → Prop} {T : PyData → L2.St → L2.St → Hp → Prop} (xs : List α) (p : α → Bool) (q : α → PyData) (hi : EvI K Same ti σ H xs.length item) (hg : Tg K g ok T)
    (hok : ∀ i d, item i = some d → ok d) (hw : ∀ d σ2 H5, T d (wipe σ own) σ2 H5 → wipe σ2 own = wipe σ own)
    (ht : ∀ i x d σ2 H3, xs[i]? = some x → item i = some d → Same H H3 → T d (wipe σ own) σ2 H3 → EvB tt σ2 H3 (p x)) (he : ∀ i x d σ2 H3, xs[i]? = some x → item i = some d → p x = true → Same H H3 → T d (wipe σ own) σ2 H3 → EvD K te σ2 H3 (q x))
    (hn : ∀ x, noL (q x) = true) (hz : xs.length ≤ 5000) : EvN K (tLc ti g tt te own) σ H ((xs.filter p).map q) := fun H1 s Q k =>
  hi H1 s _ fun J H2 G Y s2 w hG hY D hD => by
    have len : ∀ i, (((xs.take i).filter p).map q).length ≤ 5000 := fun i => by
      rw [List.length_map]
      refine Nat.le_trans (List.length_filter_le _ _) ?_
      rw [List.length_take]
      omega
    refine lc_it w (fun i H' => Same H2 H' ∧ LstAt K H' D (((xs.take i).filter p).map q)) ⟨same_new hD _, ⟨[], upd_same, by simp; exact .nil⟩⟩ (fun i H' _ h => hG H' h.1) ?_ ?_
    · rintro i x H3 H4 hi' ⟨s3, vs, e, a⟩ y
      obtain ⟨d, e1, e2, e3⟩ := hY i H3 x H4 hi' s3 y
      refine hg.run x _ H4 d _ e3 (hok i d e1) fun σ2 t => ⟨hw d σ2 H4 t, ?_⟩
      have ex := List.getElem?_eq_getElem hi'
      have sAll : Same H H4 := ((s.trans s2).trans s3).trans e2
      refine ht i _ d σ2 H4 ex e1 sAll t H4 (Same.refl _) _ fun H5 s5 => ?_
      have hT : xs.take (i + 1) = xs.take i ++ [xs[i]] := by rw [List.take_add_one, ex]; rfl
      refine if_both (fun hp => ?_) (fun hp => ?_)
      · refine (he i _ d σ2 H4 ex e1 hp sAll t).mono s5 H5 (Same.refl _) _ fun v H6 s6 dv => ?_
        have e6 := s6 _ _ (s5 _ _ (e2 _ _ e))
        have g6 : Grow K H6 (upd H6 D (.lst (vs ++ [v]))) := Grow.set e6
        refine ⟨vs, e6, ?_, Same.over ((s3.trans e2).trans (s5.trans s6)) hD, vs ++ [v], upd_same, ?_⟩
        · rw [dpAll_len a]
          exact Nat.lt_of_le_of_lt (len i) (by decide)
        · rw [hT, List.filter_append, List.map_append]
          have : List.filter p [xs[i]] = [xs[i]] := by rw [List.filter_cons, if_pos hp]; rfl
          rw [this]
          exact dpAll_snoc (dp_grow g6 (hn _) dv) (dpAll_grow g6 (noLs_map hn) (dpAll_same ((e2.trans s5).trans s6) a))
      · refine ⟨(s3.trans e2).trans s5, vs, s5 _ _ (e2 _ _ e), ?_⟩
        rw [hT, List.filter_append, List.map_append]
        have : List.filter p [xs[i]] = [] := by rw [List.filter_cons, if_neg (by rw [hp]; decide)]; rfl
        rw [this, List.map_nil, List.append_nil]
        exact dpAll_same (e2.trans s5) a
    · rintro H' ⟨s3, vs, e, a⟩
      rw [List.take_length] at a
      exact k D vs H' (s2.free hD) (s2.trans s3) e a
theorem filter_yes {α : Type} (xs : List α) : xs.filter (fun _ => true) = xs := List.filter_eq_self.mpr fun _ _ => rfl
/-- .. without tests -/
theorem en_lcY {α : Type} {ti : TI} {g : TG} {own : List Nat} {item : Nat → Option PyData} {ok : PyData → Prop} {T : PyData → L2.St → L2.St → Hp → Prop} (xs : List α) (q : α → PyData) (hi : EvI K Same ti σ H xs.length item) (hg : Tg K g ok T)
    (hok : ∀ i d, item i = some d → ok d) (hw : ∀ d σ2 H5, T d (wipe σ own) σ2 H5 → wipe σ2 own = wipe σ own)
    (he : ∀ i x d σ2 H3, xs[i]? = some x → item i = some d → Same H H3 → T d (wipe σ own) σ2 H3 → EvD K te σ2 H3 (q x))
    (hn : ∀ x, noL (q x) = true) (hz : xs.length ≤ 5000) : EvN K (tLc ti g tYes te own) σ H (xs.map q) := by
  have h := en_lc (K := K) (te := te) (tt := tYes) xs (fun _ => true) q hi hg hok hw (fun _ _ _ σ2 H3 _ _ _ _ H4 s Q k => k H4 (Same.refl _)) (fun i x d σ2 H3 h1 h2 _ => he i x d σ2 H3 h1 h2) hn hz
  rw [filter_yes] at h
  exact h
end
end LB
/-! Rows, programs, mills as data; the known defs told by data. Own text. -/
namespace LB
open PySem L2
/-- built-ins still, further -/
structure Bl3 (mg : Str → Option Value) : Prop where
  sum : mg "sum" = none
  any : mg "any" = none
  sorted : mg "sorted" = none
  set : mg "set" = none
  dict : mg "dict" = none
def Rw.data (r : Rw) : List PyData := .str r.word :: r.args.map .int
def rowD (r : Rw) : PyData := .tuple r.data
def millD (ms : List Int) : PyData := .tuple (ms.map .int)
def progD (rs : List Rw) : PyData := .tuple (rs.map rowD)
def optD (o : Option Int) : PyData := match o with
  | none => .none
  | some i => .int i
def intsD (ns : List Int) : PyData := .list (ns.map .int)
theorem noL_row (r : Rw) : noL (rowD r) = true := by
  show (noL (.str r.word) && noLs (r.args.map .int)) = true
  rw [noLs_map fun _ => rfl]
  rfl
theorem noL_mill (ms : List Int) : noL (millD ms) = true := noLs_map fun _ => rfl
theorem noLs_rows (rs : List Rw) : noLs (rs.map rowD) = true := noLs_map noL_row
theorem noLs_ints (ns : List Int) : noLs (ns.map PyData.int) = true := noLs_map fun _ => rfl
section
variable {K : PySem.W.Frag} {H H' : Hp}
theorem dp_row {v : V} {r : Rw} (h : Dp K H v (rowD r)) : RowAt K H v r := by
  unfold rowD Rw.data at h
  cases h with
  | tup hs a =>
    cases a with
    | cons h1 a =>
      cases h1
      rw [dpAll_int_eq a] at hs
      exact ⟨_, rfl, by rw [r.vals_eq]; exact hs⟩
theorem row_dp {v : V} {r : Rw} (h : RowAt K H v r) : Dp K H v (rowD r) := by
  obtain ⟨a, rfl, hs⟩ := h
  rw [r.vals_eq] at hs
  exact .tup hs (.cons (.str _) (dpAll_ints K H _))
theorem dp_mill {v : V} {ms : List Int} (h : Dp K H v (millD ms)) : ∃ a, v = .ref a ∧ MillAt K H a ms := by
  unfold millD at h
  cases h with
  | tup hs a =>
    rw [dpAll_int_eq a] at hs
    exact ⟨_, rfl, hs⟩
theorem mill_dp {a : Addr} {ms : List Int} (h : MillAt K H a ms) : Dp K H (.ref a) (millD ms) := .tup h (dpAll_ints K H _)
theorem dpAll_of_get : ∀ {ds : List PyData} {vs : List V}, vs.length = ds.length → (∀ (i : Nat) (d : PyData), ds[i]? = some d → ∃ v, vs[i]? = some v ∧ Dp K H v d) → DpAll K H vs ds
  | [], [], _, _ => .nil
  | [], _ :: _, h, _ => by cases h
  | _ :: _, [], h, _ => by cases h
  | d :: ds, v :: vs, h, g => by
    obtain ⟨w, e, q⟩ := g 0 d rfl
    obtain rfl := Option.some.inj e
    exact .cons q (dpAll_of_get (Nat.succ.inj h) fun i d' e' => g (i + 1) d' e')
theorem prog_dp {a : Addr} {rs : List Rw} (h : ProgAt K H a rs) : Dp K H (.ref a) (progD rs) := by
  obtain ⟨vs, hs, hl, g⟩ := h
  refine .tup hs (dpAll_of_get (by rw [List.length_map]; exact hl) fun i d e => ?_)
  rw [List.getElem?_map] at e
  obtain ⟨r, e1, rfl⟩ := Option.map_eq_some_iff.mp e
  obtain ⟨v, e2, q⟩ := g i r e1
  exact ⟨v, e2, row_dp q⟩
theorem dp_prog {v : V} {rs : List Rw} (h : Dp K H v (progD rs)) : ∃ a, v = .ref a ∧ ProgAt K H a rs := by
  unfold progD at h
  cases h with
  | tup hs a =>
    refine ⟨_, rfl, _, hs, by rw [dpAll_len a, List.length_map], fun i r e => ?_⟩
    obtain ⟨v, e1, q⟩ := dpAll_get (i := i) (d := rowD r) a (by rw [List.getElem?_map, e]; rfl)
    exact ⟨v, e1, dp_row q⟩
end
/-! ### the defs that are known -/
section
variable {P : Program} {w : World} {K : PySem.W.Frag} {mg : Str → Option Value} {base : Heap} {k : Nat}
theorem Cal.imp {x : Str} {ps : List Str} {sp sp' : Sp} (C : Cal P w K mg base k x ps sp) (h : ∀ vs H Q E, sp' vs H Q E → sp vs H Q E) : Cal P w K mg base k x ps sp' := by
  obtain ⟨f, fd, F, m, kp, b⟩ := C.ex
  exact ⟨f, fd, F.imp h, m, kp, b⟩
abbrev dWhole (K : PySem.W.Frag) : Sp := spD K (fun i : Int × Int => [.int i.1, .int i.2]) (fun _ => True) (fun i => .bool (decide (0 ≤ i.1 ∧ i.1 ≤ i.2)))
theorem whole_d {x : Str} {ps : List Str} (C : Cal P w K mg base k x ps spWhole) : Cal P w K mg base k x ps (dWhole K) := C.imp fun vs H Q E ⟨⟨i, j⟩, _, a, q⟩ => by
  cases a with
  | cons h a =>
    cases a with
    | cons h2 a =>
      cases a
      cases h
      cases h2
      exact ⟨i, j, rfl, q _ H (Same.refl _) (.bl _)⟩
/-- is_row of a row that can be -/
abbrev dRow (K : PySem.W.Frag) : Sp := spD K (fun i : Rw × Int => [rowD i.1, .int i.2]) (fun i => i.1.ok i.2) (fun _ => .bool true)
theorem row_d {x : Str} {ps : List Str} (C : Cal P w K mg base k x ps (spRow K)) : Cal P w K mg base k x ps (dRow K) := C.imp fun vs H Q E ⟨⟨r, many⟩, hok, a, q⟩ => by
  cases a with
  | cons h a =>
    cases a with
    | cons h2 a =>
      cases a
      cases h2
      exact ⟨_, r, many, rfl, dp_row h, hok, fun H' s => q _ H' s (.bl _)⟩
end
end LB
/-! max(xs, default=d) of a list of numbers. Own text, over the library's walk of max. -/
namespace LB
open PySem PySem.Spec PySem.W PyProof.Rows L2
theorem alike_nums (ns : List Int) : PySem.W.AlikeAll (ns.map PyData.int) := by
  refine ⟨fun x hx y hy => ?_, fun x hx e => ?_⟩
  · obtain ⟨i, _, rfl⟩ := List.mem_map.mp hx
    obtain ⟨j, _, rfl⟩ := List.mem_map.mp hy
    rfl
  · obtain ⟨i, _, rfl⟩ := List.mem_map.mp hx
    cases e
def rMaxDef (K : PySem.W.Frag) : List V → List V → Hp → VK → Prop := fun vs zs H Q => ∃ (a : Addr) (ns : List Int) (d : V), vs = [.ref a] ∧ zs = [d] ∧ SqL K H a (ns.map V.int) ∧ (ns = [] → Q d H) ∧ (ns ≠ [] → Q (.int (maxL ns)) H)
theorem cr_maxDef {X : Cx} (hc : X.calm = true) (hu : X.A.units + 1 < cLine) : CallRK X (.builtin "max") [Str.ofString "default"] (rMaxDef X.K) := by
  intro pins s σ H vs zs us ws Q I r rz h
  obtain ⟨a, ns, d, rfl, rfl, hs, q1, q2⟩ := h
  obtain rfl := Vals.ref1 r
  obtain ⟨w1, rfl, e1⟩ := vals1 rz
  obtain ⟨its, rv, hl, _⟩ := I.list hs
  obtain ⟨as, hr⟩ := Dp.readsAll I _ _ _ (dpAll_ints X.K H ns) rv
  have hd : PyData.depthAll (ns.map PyData.int) = 0 := deep_ints ns
  refine max_list_default (I.ok.hd hc) hl.isList (by simpa using hr) (alike_nums ns) (by rw [hd]; exact hu) (fun he h' tk hk => ?_) (fun y ys i v h' tk bs he hv hrd hk => ?_)
  · exact ⟨d, H, I.kept hk, e1, q1 (by simpa using he)⟩
  · cases ns with
    | nil => cases he
    | cons n ns =>
      have e2 := List.cons.inj he
      rw [← e2.1, ← e2.2, maxD_ints] at hrd
      cases hrd
      exact ⟨.int (maxL (n :: ns)), H, I.kept hk, ⟨_, rfl⟩, q2 (by simp)⟩
section
variable {K : PySem.W.Frag} {σ : L2.St} {H : Hp} {ta tb : TE} {e : PyData}
theorem ed_maxDef {ns : List Int} {d : PyData} (h : EvD K ta σ H (.list (ns.map .int))) (hd : EvD K tb σ H d) (he : (if ns.isEmpty then d else .int (maxL ns)) = e) : EvD K (tCKw (rMaxDef K) (tCons ta tNil) (tCons tb tNil)) σ H e := fun H1 s Q q =>
  h H1 s _ fun v H2 s2 dv => hd H2 (s.trans s2) _ fun w H3 s3 dw => by
    cases dp_same s3 dv with
    | lst hs a =>
      rw [dpAll_int_eq a] at hs
      refine ⟨_, ns, w, rfl, rfl, hs, fun z => ?_, fun z => ?_⟩
      · rw [z] at he
        have he' : d = e := he
        exact q w H3 (s2.trans s3) (by rw [← he']; exact dw)
      · have : ns.isEmpty = false := by
          cases ns with
          | nil => exact absurd rfl z
          | cons => rfl
        rw [this] at he
        have he' : PyData.int (maxL ns) = e := he
        exact q _ H3 (s2.trans s3) (by rw [← he']; exact .int _)
end
end LB
/-! Typed lists; x in a tuple of tuples. Own text. -/
namespace LB
open PySem PySem.Spec PyProof.Rows L2
theorem hu65 {A : Around} {k : Nat} (hr : Room k A) : A.units + 65 < cLine := by
  have := hr.un
  omega
def rInDT (K : PySem.W.Frag) : R2 := fun x y H Q => ∃ d ds, Dp K H x d ∧ Dp K H y (.tuple ds) ∧ SeqAt.shaped d = true ∧ SeqAt.shaped (.tuple ds) = true ∧ Q (.bl (ds.any fun z => PyData.eqv z d)) H
theorem op_inDT {X : Cx} (hu : X.A.units + 65 < cLine) : OpR X (compareOp .In) (rInDT X.K) := by
  intro pins s σ H x y v u Q I rx ry h
  obtain ⟨d, ds, hd, he, sd, se, q⟩ := h
  obtain ⟨as, r1⟩ := Dp.reads I d x v hd rx
  obtain ⟨bs, r2⟩ := Dp.reads I (.tuple ds) y u he ry
  exact SeqAt.in_tuple_reads r2 r1 (SeqAt.canLay_of_shaped se) (SeqAt.canLay_of_shaped sd) (room_in_shaped sd hu) ⟨.bl _, H, I, rfl, q⟩
end LB
namespace LB
open PySem L2
section
variable {K : PySem.W.Frag} {σ : L2.St} {H H' : Hp} {ta tb te : TE} {tt : TT} {d e f : PyData} {ds es : List PyData} {D : Ends} {tu tw tz : TS}
theorem ed_inDT {b : Bool} (ha : EvD K ta σ H d) (hb : EvD K tb σ H (.tuple ds)) (h1 : SeqAt.shaped d = true) (h2 : SeqAt.shaped (.tuple ds) = true) (hi : (ds.any fun z => PyData.eqv z d) = b) : EvD K (tOp (rInDT K) ta tb) σ H (.bool b) :=
  ed_op ha hb fun u v H1 _ dx dy Q q => ⟨d, ds, dx, dy, h1, h2, by rw [hi]; exact q _ H1 (Same.refl _) (.bl _)⟩
variable {α : Type} {c : α → PyData} {xs ys : List α} {x : α} {l : Addr} {i : Nat} {bad : Addr → Prop}
theorem map_ifone {b : Bool} : (xs ++ if b = true then [x] else []).map c = xs.map c ++ if b = true then [c x] else [] := by
  rw [List.map_append]
  cases b <;> rfl
theorem x_app (hv : σ[i]? = some (some (.ref l))) (hl : LstAt K H l (xs.map c)) (h : EvD K te σ H (c x)) (hn : ∀ x, noL (c x) = true) (hz : xs.length ≤ 5000) (hb : bad l) (k : ∀ H1, Chg K bad H H1 → LstAt K H1 l ((xs ++ [x]).map c) → D.nx σ H1) :
    tDrop (tBM K "list" rAppend (tVar i) (tCons te tNil)) D σ H := s_app hv hl h (noLs_map hn) (hn x) (by rw [List.length_map]; exact hz) hb fun H1 g q => k H1 g (by rw [List.map_append]; exact q)
theorem xq_app (hv : σ[i]? = some (some (.ref l))) (hl : LstAt K H l (xs.map c)) (h : EvD K te σ H (c x)) (hn : ∀ x, noL (c x) = true) (hz : xs.length ≤ 5000) (hb : bad l) (k : ∀ H1, Chg K bad H H1 → LstAt K H1 l ((xs ++ [x]).map c) → tz D σ H1) :
    tSeq (tDrop (tBM K "list" rAppend (tVar i) (tCons te tNil))) tz D σ H := x_app (D := { D with nx := tz D }) hv hl h hn hz hb k
theorem x_ifApp {b : Bool} (hc : EvB tt σ H b) (hv : σ[i]? = some (some (.ref l))) (hl : LstAt K H l (xs.map c)) (h : b = true → EvD K te σ H (c x)) (hn : ∀ x, noL (c x) = true) (hz : xs.length ≤ 5000) (hb : bad l)
    (k : ∀ H1, Chg K bad H H1 → LstAt K H1 l ((xs ++ if b = true then [x] else []).map c) → D.nx σ H1) :
    tIfS tt (tDrop (tBM K "list" rAppend (tVar i) (tCons te tNil))) tNext D σ H := s_ifApp hc hv hl h (noLs_map hn) (hn x) (by rw [List.length_map]; exact hz) hb fun H1 g q => k H1 g (by rw [map_ifone]; exact q)
theorem xq_ifApp {b : Bool} (hc : EvB tt σ H b) (hv : σ[i]? = some (some (.ref l))) (hl : LstAt K H l (xs.map c)) (h : b = true → EvD K te σ H (c x)) (hn : ∀ x, noL (c x) = true) (hz : xs.length ≤ 5000) (hb : bad l)
    (k : ∀ H1, Chg K bad H H1 → LstAt K H1 l ((xs ++ if b = true then [x] else []).map c) → tz D σ H1) :
    tSeq (tIfS tt (tDrop (tBM K "list" rAppend (tVar i) (tCons te tNil))) tNext) tz D σ H := x_ifApp (D := { D with nx := tz D }) hc hv hl h hn hz hb k
theorem x_asgN (h : EvN K te σ H (xs.map c)) (k : ∀ p H1, H p = none → Same H H1 → LstAt K H1 p (xs.map c) → D.nx (σ.set i (some (.ref p))) H1) : tAsg te (gName i) D σ H := s_asgN h k
/-- an empty list -/
theorem xq_nil (k : ∀ p H1, H p = none → Same H H1 → LstAt K H1 p (([] : List α).map c) → tz D (σ.set i (some (.ref p))) H1) : tSeq (tAsg (tLst tNil) (gName i)) tz D σ H := q_asgN (en_lst ea_nil (by decide)) k
end
end LB
/-! Chains, slices, texts told by data. Own text. -/
namespace LB
open PySem L2
section
variable {K : PySem.W.Frag} {σ : L2.St} {H H' : Hp} {ta tb tc te : TE} {tt : TT} {d e f : PyData} {ds es : List PyData} {D : Ends} {tu tw tz : TS}
theorem ed_chI {g g' : Int → Int → Bool} {i j k : Int} (ha : EvD K ta σ H (.int i)) (hb : EvD K tb σ H (.int j)) (hc : EvD K tc σ H (.int k)) : EvD K (tChain (rI0 fun i j => .bl (g i j)) (rI0 fun i j => .bl (g' i j)) ta tb tc) σ H (.bool (g i j && g' j k)) := fun H1 s Q q =>
  ha H1 s _ fun x H2 s2 dx => hb H2 (s.trans s2) _ fun y H3 s3 dy => by
    cases dx; cases dy
    refine ⟨i, j, rfl, rfl, g i j, rfl, ?_⟩
    cases e : g i j with
    | false =>
      rw [e] at q
      exact iteF (q _ H3 (s2.trans s3) (.bl false))
    | true =>
      rw [e] at q
      refine iteT (hc H3 ((s.trans s2).trans s3) _ fun z H4 s4 dz => ?_)
      cases dz
      exact ⟨j, k, rfl, rfl, q _ H4 ((s2.trans s3).trans s4) (.bl (g' j k))⟩
theorem ed_slT {tl th : TO} {lo hi : Option Int} (h : EvD K te σ H (.tuple ds)) (h1 : EvO tl σ H lo) (h2 : EvO th σ H hi) : EvD K (tSl (rSlA K) te tl th) σ H (.tuple (cutD ds lo hi)) := fun H1 s Q q =>
  h H1 s _ fun v H2 s2 dv => h1 H2 (s.trans s2) _ fun H3 s3 => h2 H3 ((s.trans s2).trans s3) _ fun H4 s4 => by
    cases dp_same (s3.trans s4) dv with
    | tup hs a =>
      rename_i p xs
      refine ⟨p, xs, rfl, hs, fun hw => ?_, fun _ p' hp => q _ _ (((s2.trans s3).trans s4).trans (same_new hp _)) (.tup (tup_of upd_same) (dpAll_same (same_new hp _) (dpAll_cut a)))⟩
      have e : cutD ds lo hi = ds := by
        unfold cutD
        rw [dpAll_len a] at hw
        rw [hw.1, hw.2]
        simp
      rw [e] at q
      exact q _ H4 ((s2.trans s3).trans s4) (.tup hs a)
theorem cut_map {α : Type} (c : α → PyData) (xs : List α) (lo hi : Option Int) : cutD (xs.map c) lo hi = ((xs.drop (HT.sIx xs.length 0 lo)).take (HT.sIx xs.length xs.length hi - HT.sIx xs.length 0 lo)).map c := by
  unfold cutD
  rw [List.length_map, List.map_take, List.map_drop]
theorem cut_init {α : Type} (c : α → PyData) (xs : List α) : cutD (xs.map c) none (some (-1)) = xs.dropLast.map c := by
  rw [cut_map, List.dropLast_eq_take]
  show ((xs.drop 0).take ((if (-1 : Int) < 0 then ((-1 : Int) + (xs.length : Int)).toNat else min (-1 : Int).toNat xs.length) - 0)).map c = _
  rw [if_pos (by decide), List.drop_zero, Nat.sub_zero, show ((-1 : Int) + (xs.length : Int)).toNat = xs.length - 1 by omega]
theorem cut_from {α : Type} (c : α → PyData) (xs : List α) (k : Nat) : cutD (xs.map c) (some (k : Int)) none = (xs.drop k).map c := by
  rw [cut_map, HT.sIx_nat, HT.sIx_none]
  congr 1
  by_cases h : k ≤ xs.length
  · rw [Nat.min_eq_left h, List.take_of_length_le (by rw [List.length_drop]; omega)]
  · rw [Nat.min_eq_right (by omega), Nat.sub_self, List.take_zero, List.drop_eq_nil_of_le (by omega)]
theorem cut_upto {α : Type} (c : α → PyData) (xs : List α) (k : Nat) : cutD (xs.map c) none (some (k : Int)) = (xs.take k).map c := by
  rw [cut_map, HT.sIx_nat, HT.sIx_none, List.drop_zero, Nat.sub_zero]
  congr 1
  by_cases h : k ≤ xs.length
  · rw [Nat.min_eq_left h]
  · rw [Nat.min_eq_right (by omega), List.take_of_length_le (Nat.le_refl _), List.take_of_length_le (by omega)]
/-- texts -/
theorem ed_addS {a b : Str} (ha : EvD K ta σ H (.str a)) (hb : EvD K tb σ H (.str b)) (hl : a.length + b.length ≤ sizeLine) : EvD K (tOp (fun x y H Q => ∃ i j, x = .str i ∧ y = .str j ∧ i.length + j.length ≤ sizeLine ∧ Q (.str (i ++ j)) H) ta tb) σ H (.str (a ++ b)) :=
  ed_op ha hb fun x y H1 _ dx dy Q q => by
    cases dx; cases dy
    exact ⟨a, b, rfl, rfl, hl, q _ H1 (Same.refl _) (.str _)⟩
/-- comprehensions of flat values -/
theorem en_bools {α : Type} {xs : List α} {p : α → Bool} (h : EvN K te σ H (xs.map fun x => .bool (p x))) : EvN K te σ H ((xs.map p).map .bool) := by
  rw [List.map_map]
  exact h
theorem en_ints {α : Type} {xs : List α} {p : α → Int} (h : EvN K te σ H (xs.map fun x => .int (p x))) : EvN K te σ H ((xs.map p).map .int) := by
  rw [List.map_map]
  exact h
/-- a list's display of numbers -/
theorem en_ints1 {i : Int} (h : EvD K ta σ H (.int i)) : EvN K (tLst (tCons ta tNil)) σ H (([i] : List Int).map .int) := en_lst (ea_cons h ea_nil) (show 1 ≤ 1000 by decide)
end
end LB
namespace LB
open PySem L2
abbrev GRw (mg : Str → Option Value) : Prop := ∃ t, mg "MOST_ROWS" = some (.int 200 t)
theorem not_empty {rs : List Rw} (h : 1 ≤ rs.length) : (!(!(rs.map rowD).isEmpty)) = false := by
  cases rs with
  | nil => exact absurd h (by decide)
  | cons a b => rfl
theorem cut_all {α : Type} (c : α → PyData) (xs : List α) (h : xs.length ≤ 200) : cutD (xs.map c) none (some 200) = xs.map c := by
  have q := cut_upto c xs 200
  rw [List.take_of_length_le h] at q
  exact q
section
variable {P : Program} {w : World} {K : PySem.W.Frag} {mg : Str → Option Value} {base : Heap}
abbrev dFlaw (K : PySem.W.Frag) : Sp := spD K (fun rs : List Rw => [progD rs, .int rs.length]) (fun rs => RsOk rs) (fun _ => .none)
theorem scFlaw : FnScope ["rows", "many", "at", "row"] ["rows", "many"] (defScope s_first_flaw) := ⟨rfl, rfl, rfl, by decide +kernel, rfl, by decide +kernel, by decide +kernel⟩
theorem ok_flaw {f : Addr} {fd : FuncData} (F : Fun K "first_flaw" "first_flaw" s_first_flaw f fd) (RW : Cal P w K mg base 2 "is_row" ["row", "many"] (dRow K)) (B : Bl2 mg) (GR : GRw mg) : FnOk P w K mg base CX0 3 f fd ["rows", "many"] (dFlaw K) := by
  refine F.ok scFlaw (fun vs H Q E h => ?_) (fun cdv A outer s H vs Q E hr h => ?_)
  · obtain ⟨i, _, a, _⟩ := h
    exact dpAll_len a
  · obtain ⟨rs, ⟨l1, l200, hok⟩, a, k⟩ := h
    rcases a with _ | ⟨d_rows, _ | ⟨dm, ⟨⟩⟩⟩
    cases dm
    rename_i rv
    have hr2 : Room 2 _ := hr.mono (by decide)
    have d_rows : Dp K H rv (.tuple (rs.map rowD)) := d_rows
    refine ⟨_, (pss_cons (ps_for PassesOwn.never rfl (pi_enumT (by rfl) B.enum (pa_cons (pe_slice sl_tupA (pv 0) po_none (po_some (pe_gint GR))) pa_nil)) (pg_tup rfl (pgs_cons (pg_name (i := 2) scFlaw.nd rfl (Or.inl rfl)) (pgs_cons (pg_name (i := 3) scFlaw.nd rfl (Or.inl rfl)) pgs_nil))) (pss_one (ps_if (pt_not (pt_val (pe_cal RW hr2 (pa_cons (pv 3) (pa_cons (pv 1) pa_nil))))) (pss_one (ps_ret (pv 2))) pss_nil))) (pss_cons (ps_if (pt_not (pt_truth (pv 0) (by intro _; rfl))) (pss_one (ps_ret pe_int)) pss_nil) (pss_one (ps_ret (pe_ifExp (pt_cmpR op_gt (pe_callB call_len_seq (by rfl) B.b.len PySem.boot_len (pa_cons (pv 0) pa_nil)) (pe_gint GR) (nomark _)) (pe_gint GR) pe_non))))), ?_⟩
    have S := Same.refl H
    refine q_for ((ei_enumT ((ed_slT (ed_var rfl (dp_same S d_rows)) eo_none (eo_some (K := K) ed_int)).eq (congrArg PyData.tuple (cut_all rowD rs l200))) (noLs_rows rs)) |> EvI.len (List.length_map ..)) tg2 (fun i d e => ?_) (fun Hb i σ' H' => Same H H' ∧ Grow K Hb H' ∧ ∃ a2 a3, σ' = [some rv, some (.int (rs.length : Int)), a2, a3])
      (fun H2 s => ⟨S.trans s, Grow.refl _, _, _, rfl⟩) (fun Hb i σ' H' p => p.2.1) ?_ ?_
    · obtain ⟨u, _, rfl⟩ := Option.map_eq_some_iff.mp e
      exact ⟨_, _, rfl⟩
    · rintro Hb i d σ' H' σ2 H2 _ hi e ⟨S', gr, a2, a3, rfl⟩ s2 ⟨v, u, a, b, rfl, dv, du, rfl⟩
      rw [List.getElem?_map, List.getElem?_eq_getElem hi] at e
      cases e
      have S := S'.trans s2
      refine s_if (b := false) (EvB.eq (eb_not (eb_val (K := K) (ed_cal (rs[i], (rs.length : Int)) (ea_cons (ed_var rfl du) (ea_cons (ed_var rfl (.int _)) ea_nil)) (hok _ (List.getElem_mem hi))))) rfl) (fun z => by cases z) fun _ H3 s3 => ?_
      exact ⟨S.trans s3, (gr.trans (Grow.same s2)).trans (Grow.same s3), _, _, rfl⟩
    · rintro Hb σ' H' _ ⟨S, gr, a2, a3, rfl⟩
      refine q_when (b := false) (EvB.eq (eb_not (eb_truthT (K := K) (ed_var rfl (dp_same S d_rows)))) (not_empty l1)) (fun z => by cases z) fun _ H3 s3 => ?_
      have S := S.trans s3
      refine s_ret (K := K) (d := .none) ((ed_if (b := false) (EvB.eq (eb_of (K := K) (ed_cI ((ed_lenT (ed_var rfl (dp_same S d_rows))).eq (by rw [List.length_map])) ed_int)) (decide_eq_false (by omega))) (fun z => by cases z) (fun _ => ed_non) (d := .none)).eq rfl) fun v H4 s4 dv => k v H4 (S.trans s4) dv
abbrev dChkP (K : PySem.W.Frag) : Sp := spD K (fun rs : List Rw => [progD rs]) (fun rs => RsOk rs) (fun _ => .none)
theorem scChkPn : FnScope ["program", "flaw"] ["program"] (defScope sChkP) := ⟨rfl, rfl, rfl, by decide +kernel, rfl, by decide +kernel, by decide +kernel⟩
theorem ok_chkPn {f : Addr} {fd : FuncData} (F : Fun K "check_program" "check_program" sChkP f fd) (FF : Cal P w K mg base 3 "first_flaw" ["rows", "many"] (dFlaw K)) (B : Bl2 mg) (GR : GRw mg) : FnOk P w K mg base CX0 4 f fd ["program"] (dChkP K) := by
  refine F.ok scChkPn (fun vs H Q E h => ?_) (fun cdv A outer s H vs Q E hr h => ?_)
  · obtain ⟨i, _, a, _⟩ := h
    exact dpAll_len a
  · obtain ⟨rs, hR, a, k⟩ := h
    rcases a with _ | ⟨d_program, ⟨⟩⟩
    have hr3 : Room 3 _ := hr.mono (by decide)
    refine ⟨_, (pss_cons (ps_set (i := 1) scChkPn.nd rfl (Or.inl rfl) (pe_cal FF hr3 (pa_cons (pv 0) (pa_cons (pe_callB (call_min2 rfl) (by rfl) B.b.min (by decide +kernel) (pa_cons (pe_callB call_len_seq (by rfl) B.b.len PySem.boot_len (pa_cons (pv 0) pa_nil)) (pa_cons (pe_gint GR) pa_nil))) pa_nil)))) (pss_one (ps_if (pt_cmpR op_notN (pv 1) pe_non (nomark _)) (pss_one ps_never) pss_nil))), ?_⟩
    refine q_asg (ed_cal rs (ea_cons (ed_var rfl d_program) (ea_cons ((ed_min2 (K := K) ((ed_lenT (ed_var rfl d_program)).eq (by rw [List.length_map])) ed_int).eq (by rw [Int.min_eq_left (by have := hR.2.1; omega)])) ea_nil)) hR) fun v H1 s1 dv => ?_
    refine s_if (b := false) (eb_of (ed_notN (K := K) (ed_var rfl dv))) (fun z => by cases z) fun _ H2 s2 => ?_
    exact k _ H2 (s1.trans s2) .non
/-- as the older texts ask it -/
def spChkP (K : PySem.W.Frag) : Sp := fun vs H Q _ => ∃ (a : Addr) (rs : List Rw), vs = [.ref a] ∧ ProgAt K H a rs ∧ RsOk rs ∧ ∀ H', Same H H' → Q .non H'
theorem chkP_old {k : Nat} {x : Str} {ps : List Str} (C : Cal P w K mg base k x ps (dChkP K)) : Cal P w K mg base k x ps (spChkP K) := C.imp fun vs H Q E ⟨a, rs, e, hP, hR, q⟩ => ⟨rs, hR, by
  rw [e]
  exact .cons (prog_dp hP) .nil, fun v H' s dv => by
  cases dv
  exact q H' s⟩
end
end LB
/-! The machine beat by beat, as plain functions; what stands in the heap for it. Own text. -/
namespace LB
open PySem L2
/-- the pairs (box, worth) of the list vs -/
inductive PairsAt (H : Hp) : List V → List (Int × Int) → Prop
  | nil : PairsAt H [] []
  | cons {t : Addr} {b z : Int} {vs : List V} {ps : List (Int × Int)} : H t = some (.tup [.int b, .int z]) → PairsAt H vs ps → PairsAt H (.ref t :: vs) ((b, z) :: ps)
/-- tuples stay -/
def TupKeep (H H' : Hp) : Prop := ∀ t xs, H t = some (.tup xs) → H' t = some (.tup xs)
theorem PairsAt.keep {H H' : Hp} {vs : List V} {ps : List (Int × Int)} (h : PairsAt H vs ps) (k : TupKeep H H') : PairsAt H' vs ps := by
  induction h with
  | nil => exact .nil
  | cons e _ ih => exact .cons (k _ _ e) ih
theorem PairsAt.snoc {H : Hp} {vs : List V} {ps : List (Int × Int)} {t : Addr} {b z : Int} (h : PairsAt H vs ps) (e : H t = some (.tup [.int b, .int z])) : PairsAt H (vs ++ [.ref t]) (ps ++ [(b, z)]) := by
  induction h with
  | nil => exact .cons e .nil
  | cons e' _ ih => exact .cons e' ih
theorem PairsAt.length {H : Hp} {vs : List V} {ps : List (Int × Int)} (h : PairsAt H vs ps) : vs.length = ps.length := by
  induction h with
  | nil => rfl
  | cons _ _ ih => simp [ih]
theorem PairsAt.get {H : Hp} {vs : List V} {ps : List (Int × Int)} (h : PairsAt H vs ps) : ∀ {i : Nat} {v : V}, vs[i]? = some v → ∃ t b z, v = .ref t ∧ H t = some (.tup [.int b, .int z]) ∧ ps[i]? = some (b, z) := by
  induction h with
  | nil => intro i v e; cases e
  | cons e _ ih =>
    intro i v q
    cases i with
    | zero => exact ⟨_, _, _, (Option.some.inj q).symm, e, rfl⟩
    | succ i => exact ih q
theorem Same.tups {H H' : Hp} (s : Same H H') : TupKeep H H' := fun t xs e => s t _ e
theorem TupKeep.trans {H H1 H2 : Hp} (a : TupKeep H H1) (b : TupKeep H1 H2) : TupKeep H H2 := fun t xs e => b t xs (a t xs e)
/-- what is no tuple may change -/
theorem TupKeep.upd {H : Hp} {p : Addr} {o o' : HO} (e : H p = some o) (n : ∀ xs, o ≠ .tup xs) : TupKeep H (upd H p o') := fun t xs q => by
  rw [upd_ne (fun z => ?_)]
  · exact q
  · rw [z, e] at q
    exact n xs (Option.some.inj q)
/-! ### the machine -/
def bx (bs : List Int) (b : Int) : Int := bs.getD b.toNat 0
def worthOf (bs cs : List Int) : Rw → Int
  | .put _ n => n
  | .move _ c => bx bs c
  | .add _ c d => (bx bs c + bx bs d) % 1000
  | .take _ c d => (bx bs c - bx bs d) % 1000
  | .times _ c d => (bx bs c * bx bs d) % 1000
  | .get _ c => cs.getD (bx bs c % 16).toNat 0
  | _ => 0
structure Ms where
  at_ : Int
  boxes : List Int
  cells : List Int
  said : List Int
  due : Int → List (Int × Int)
  goes : Int → Option Int
def setAll (bs : List Int) (ps : List (Int × Int)) : List Int := ps.foldl (fun bs p => bs.set p.1.toNat p.2) bs
def due1 (ms : List Int) (t : Int) (r : Rw) (s : Ms) : Int → List (Int × Int) := match r.box with
  | some b => fun k => if k = t + (lateOf ms r : Int) + 1 then s.due k ++ [(b, worthOf s.boxes s.cells r)] else s.due k
  | none => s.due
def cells1 (s : Ms) : Rw → List Int
  | .set c d => s.cells.set (bx s.boxes c % 16).toNat (bx s.boxes d)
  | _ => s.cells
def said1 (s : Ms) : Rw → List Int
  | .say c => s.said ++ [bx s.boxes c]
  | _ => s.said
/-- where a row goes, if it goes -/
def goal (s : Ms) : Rw → Option Int
  | .go q => some q
  | .iff c q => if bx s.boxes c = 0 then none else some q
  | _ => none
def goes1 (ms : List Int) (t : Int) (r : Rw) (s : Ms) : Int → Option Int := match goal s r with
  | some q => fun k => if k = t + jumpOf ms + 1 then some q else s.goes k
  | none => s.goes
/-- one beat -/
def step (ms : List Int) (t : Int) (r : Rw) (s : Ms) : Ms where
  due := due1 ms t r s
  goes := goes1 ms t r s
  cells := cells1 s r
  said := said1 s r
  boxes := setAll s.boxes (due1 ms t r s (t + 1))
  at_ := (goes1 ms t r s (t + 1)).getD (s.at_ + 1)
structure Res where
  said : List Int
  fin : Str
  beats : Int
  cells : List Int
/-- so many beats more -/
def runM (ms : List Int) (rs : List Rw) : Nat → Int → Ms → Res
  | 0, t, s => ⟨s.said, "long", t, s.cells⟩
  | n + 1, t, s =>
    if (rs.getD s.at_.toNat .stop).stops then ⟨(step ms t (rs.getD s.at_.toNat .stop) s).said, "stop", t + 1, (step ms t (rs.getD s.at_.toNat .stop) s).cells⟩
    else if (step ms t (rs.getD s.at_.toNat .stop) s).at_ = (rs.length : Int) then ⟨(step ms t (rs.getD s.at_.toNat .stop) s).said, "end", t + 1, (step ms t (rs.getD s.at_.toNat .stop) s).cells⟩
    else runM ms rs n (t + 1) (step ms t (rs.getD s.at_.toNat .stop) s)
/-- a number that a box or a cell holds -/
def N3 (z : Int) : Prop := 0 ≤ z ∧ z < 1000
def Held (n : Nat) (bs : List Int) : Prop := bs.length = n ∧ ∀ z, z ∈ bs → N3 z
structure MsOk (many : Int) (s : Ms) : Prop where
  boxes : Held 8 s.boxes
  cells : Held 16 s.cells
  due : ∀ k p, p ∈ s.due k → Bx p.1 ∧ N3 p.2
  goes : ∀ k q, s.goes k = some q → 0 ≤ q ∧ q < many
  at0 : 0 ≤ s.at_
  at1 : s.at_ ≤ many
theorem Held.set {n : Nat} {bs : List Int} (h : Held n bs) (i : Nat) {z : Int} (hz : N3 z) : Held n (bs.set i z) := by
  refine ⟨by rw [List.length_set]; exact h.1, fun y hy => ?_⟩
  rcases List.mem_or_eq_of_mem_set hy with q | q
  · exact h.2 y q
  · rw [q]; exact hz
theorem Held.get {n : Nat} {bs : List Int} (h : Held n bs) {i : Nat} (hi : i < n) : N3 (bs.getD i 0) ∧ bs[i]? = some (bs.getD i 0) := by
  have hl : i < bs.length := by rw [h.1]; exact hi
  have e : bs[i]? = some (bs.getD i 0) := by rw [List.getD_eq_getElem?_getD, List.getElem?_eq_getElem hl]; rfl
  exact ⟨h.2 _ (List.mem_of_getElem? e), e⟩
theorem Held.bx {bs : List Int} (h : Held 8 bs) {b : Int} (hb : Bx b) : N3 (bx bs b) ∧ bs[b.toNat]? = some (LB.bx bs b) := h.get (by obtain ⟨h0, h1⟩ := hb; omega)
theorem Held.setAll : ∀ {ps : List (Int × Int)} {bs : List Int}, Held 8 bs → (∀ p, p ∈ ps → Bx p.1 ∧ N3 p.2) → Held 8 (setAll bs ps)
  | [], _, h, _ => h
  | p :: r, bs, h, hp => Held.setAll (ps := r) (h.set _ (hp p (List.mem_cons_self ..)).2) fun q hq => hp q (List.mem_cons_of_mem _ hq)
theorem mod_n3 (x : Int) : N3 (x % 1000) := ⟨Int.emod_nonneg _ (by decide), Int.emod_lt_of_pos _ (by decide)⟩
theorem mod16 (x : Int) : 0 ≤ x % 16 ∧ x % 16 < 16 := ⟨Int.emod_nonneg _ (by decide), Int.emod_lt_of_pos _ (by decide)⟩
theorem cell_ok {cs : List Int} (h : Held 16 cs) (x : Int) : N3 (cs.getD (x % 16).toNat 0) ∧ cs[(x % 16).toNat]? = some (cs.getD (x % 16).toNat 0) := h.get (by have := mod16 x; omega)
theorem worth_ok {many : Int} {bs cs : List Int} {r : Rw} (hb : Held 8 bs) (hc : Held 16 cs) (h : r.ok many) : N3 (worthOf bs cs r) := by
  cases r with
  | put b n => exact h.2
  | move b c => exact (hb.bx h.2).1
  | add b c d => exact mod_n3 _
  | take b c d => exact mod_n3 _
  | times b c d => exact mod_n3 _
  | get b c => exact (cell_ok hc _).1
  | _ => exact (⟨by decide, by decide⟩ : N3 0)
theorem due1_ok {many : Int} {s : Ms} {r : Rw} {ms : List Int} {t : Int} (h : MsOk many s) (hr : r.ok many) : ∀ k p, p ∈ due1 ms t r s k → Bx p.1 ∧ N3 p.2 := by
  intro k p hp
  have hb : ∀ b, r.box = some b → Bx b := by
    intro b e
    cases r <;> first | (cases e; exact hr.1) | cases e
  unfold due1 at hp
  cases e : r.box with
  | none => rw [e] at hp; exact h.due k p hp
  | some b =>
    rw [e] at hp
    dsimp only at hp
    by_cases hk : k = t + (lateOf ms r : Int) + 1
    · rw [if_pos hk] at hp
      rcases List.mem_append.mp hp with q | q
      · exact h.due k p q
      · have q2 : p = (b, worthOf s.boxes s.cells r) := by simpa using q
        rw [q2]
        exact ⟨hb b e, worth_ok h.boxes h.cells hr⟩
    · rw [if_neg hk] at hp
      exact h.due k p hp
theorem goal_ok {many : Int} {s : Ms} {r : Rw} {q : Int} (hr : r.ok many) (e : goal s r = some q) : 0 ≤ q ∧ q < many := by
  cases r with
  | go z => cases e; exact hr
  | iff c z =>
    have e' : (if bx s.boxes c = 0 then none else some z) = some q := e
    by_cases hz : bx s.boxes c = 0
    · rw [if_pos hz] at e'; cases e'
    · rw [if_neg hz] at e'; cases e'; exact hr.2
  | _ => cases e
theorem goes1_ok {many : Int} {s : Ms} {r : Rw} {ms : List Int} {t : Int} (h : MsOk many s) (hr : r.ok many) : ∀ k q, goes1 ms t r s k = some q → 0 ≤ q ∧ q < many := by
  intro k q e
  unfold goes1 at e
  cases g : goal s r with
  | none => rw [g] at e; exact h.goes k q e
  | some z =>
    rw [g] at e
    dsimp only at e
    by_cases hk : k = t + jumpOf ms + 1
    · rw [if_pos hk] at e
      cases e
      exact goal_ok hr g
    · rw [if_neg hk] at e
      exact h.goes k q e
theorem cells1_ok {many : Int} {s : Ms} {r : Rw} (h : MsOk many s) (hr : r.ok many) : Held 16 (cells1 s r) := by
  cases r with
  | set c d => exact h.cells.set _ (h.boxes.bx hr.2).1
  | _ => exact h.cells
theorem step_ok {many : Int} {s : Ms} {r : Rw} {ms : List Int} {t : Int} (h : MsOk many s) (hr : r.ok many) (ha : s.at_ < many) : MsOk many (step ms t r s) := by
  have ht : 0 ≤ (step ms t r s).at_ ∧ (step ms t r s).at_ ≤ many := by
    show 0 ≤ (goes1 ms t r s (t + 1)).getD (s.at_ + 1) ∧ (goes1 ms t r s (t + 1)).getD (s.at_ + 1) ≤ many
    cases e : goes1 ms t r s (t + 1) with
    | none =>
      show 0 ≤ s.at_ + 1 ∧ s.at_ + 1 ≤ many
      have := h.at0
      omega
    | some q =>
      show 0 ≤ q ∧ q ≤ many
      have := goes1_ok h hr _ _ e
      omega
  exact ⟨h.boxes.setAll (due1_ok h hr _), cells1_ok h hr, due1_ok h hr, goes1_ok h hr, ht.1, ht.2⟩
/-- the machine at the start -/
def ms0 (cs : List Int) : Ms := ⟨0, List.replicate 8 0, cs, [], fun _ => [], fun _ => none⟩
theorem ms0_ok {many : Int} {cs : List Int} (hc : Held 16 cs) (h : 1 ≤ many) : MsOk many (ms0 cs) := by
  refine ⟨⟨rfl, fun z hz => ?_⟩, hc, fun k p hp => (by cases hp), fun k q e => (by cases e), Int.le_refl 0, by show (0 : Int) ≤ many; omega⟩
  have := List.eq_of_mem_replicate hz
  rw [this]
  exact ⟨by decide, by decide⟩
/-! ### dicts by whole numbers -/
theorem put_len (kvs : List (Key × V)) (k : Key) (v : V) : (putK kvs k v).length ≤ kvs.length + 1 := by
  unfold putK
  split
  · rw [List.length_map]; omega
  · rw [List.length_append]; exact Nat.le_refl _
/-- a dict of lists of pairs; its lists are none of bad -/
def DueAt (H : Hp) (kvs : List (Key × V)) (f : Int → List (Int × Int)) (bad : Addr → Prop) : Prop :=
  ∀ k : Int, (valV kvs (Sum.inl k) = none ∧ f k = []) ∨ ∃ l vs, valV kvs (Sum.inl k) = some (.ref l) ∧ ¬ bad l ∧ H l = some (.lst vs) ∧ PairsAt H vs (f k)
def GoesAt (kvs : List (Key × V)) (g : Int → Option Int) : Prop := ∀ k : Int, valV kvs (Sum.inl k) = (g k).map V.int
theorem GoesAt.put {kvs : List (Key × V)} {g : Int → Option Int} (h : GoesAt kvs g) (k q : Int) : GoesAt (putK kvs (Sum.inl k) (.int q)) (fun j => if j = k then some q else g j) := by
  intro j
  show _ = (if j = k then some q else g j).map V.int
  rw [valV_put]
  by_cases e : j = k
  · rw [if_pos (by rw [e]), if_pos e]
    rfl
  · rw [if_neg (fun z => e (Sum.inl.inj z)), if_neg e]
    exact h j
theorem DueAt.keep {H H' : Hp} {kvs : List (Key × V)} {f : Int → List (Int × Int)} {bad : Addr → Prop} (h : DueAt H kvs f bad) (k1 : ∀ l vs, ¬ bad l → H l = some (.lst vs) → H' l = some (.lst vs)) (k2 : TupKeep H H') : DueAt H' kvs f bad := by
  intro k
  rcases h k with q | ⟨l, vs, e1, e2, e3, e4⟩
  · exact .inl q
  · exact .inr ⟨l, vs, e1, e2, k1 _ _ e2 e3, e4.keep k2⟩
theorem DueAt.put {H : Hp} {kvs : List (Key × V)} {f : Int → List (Int × Int)} {bad : Addr → Prop} (h : DueAt H kvs f bad) {k : Int} {l : Addr} {vs : List V} {ps : List (Int × Int)} (n : ¬ bad l) (e : H l = some (.lst vs)) (hp : PairsAt H vs ps) :
    DueAt H (putK kvs (Sum.inl k) (.ref l)) (fun j => if j = k then ps else f j) bad := by
  intro j
  rw [valV_put]
  by_cases q : j = k
  · rw [if_pos (by rw [q])]
    refine .inr ⟨l, vs, rfl, n, e, ?_⟩
    show PairsAt H vs (if j = k then ps else f j)
    rw [if_pos q]
    exact hp
  · rw [if_neg (fun z => q (Sum.inl.inj z))]
    show (valV kvs (Sum.inl j) = none ∧ (if j = k then ps else f j) = []) ∨ ∃ l vs, valV kvs (Sum.inl j) = some (.ref l) ∧ ¬ bad l ∧ H l = some (.lst vs) ∧ PairsAt H vs (if j = k then ps else f j)
    rw [if_neg q]
    exact h j
end LB
namespace LB
open PySem L2
def lateI (ms : List Int) (r : Rw) : Int := match r.lix with
  | some _ => (lateOf ms r : Int)
  | none => -1
section
variable {P : Program} {w : World} {K : PySem.W.Frag} {mg : Str → Option Value} {base : Heap}
def spLLate (K : PySem.W.Frag) : Sp := fun vs H Q _ => ∃ (v : V) (r : Rw) (m : Addr) (ms : List Int), vs = [v, .ref m] ∧ RowAt K H v r ∧ MillAt K H m ms ∧ MillOk ms ∧ ∀ H', Same H H' → Q (.int (lateI ms r)) H'
abbrev psLLate : List Str := ["_law_row", "_law_mill_here"]
theorem scLLate : FnScope psLLate psLLate (defScope sLLate) := ⟨rfl, rfl, rfl, by decide +kernel, rfl, by decide +kernel, by decide +kernel⟩
theorem ok_llate {f : Addr} {fd : FuncData} (F : Fun K "_law_late" "_law_late" sLLate f fd) : FnOk P w K mg base CX0 1 f fd psLLate (spLLate K) := by
  refine F.ok scLLate (fun vs H Q E h => ?_) (fun cdv A outer s H vs Q E hr h => ?_)
  · obtain ⟨v, r, m, ms, rfl, _⟩ := h
    rfl
  · obtain ⟨v, r, m, ms, rfl, ⟨a, rfl, hT⟩, hM, hMo, k⟩ := h
    refine ⟨_, pss_cons (ps_if (pt_cmpR op_in_seq (pe_ix ix_tup (pv 0) pe_int (fun _ _ => rfl)) (pe_tup (pa_cons pe_str (pa_cons pe_str (pa_cons pe_str (pa_cons pe_str pa_nil))))) (by rfl)) (pss_one (ps_ret (pe_ix ix_tup (pv 1) pe_int (fun _ _ => rfl)))) pss_nil)
      (pss_one (ps_ret (pe_dget2 (hu_of hr) (pe_disp (pps_cons pe_str (pe_ix ix_tup (pv 1) pe_int (fun _ _ => rfl)) (pps_cons pe_str (pe_ix ix_tup (pv 1) pe_int (fun _ _ => rfl)) pps_nil)) (by rfl) (by rfl) (fun z => by cases z) (by decide))
          (pe_ix ix_tup (pv 0) pe_int (fun _ _ => rfl)) (pe_un un_neg pe_int) ⟨by rfl, by rfl, by rfl, by rfl⟩))), ?_⟩
    have h0 : atI r.vals 0 = some (.str r.word) := by rw [r.vals_eq]; exact atI_nat (j := 0) rfl
    obtain ⟨p, g, t, j, rfl, h1, h2, h3, h4⟩ := hMo
    have m0 : atI (([p, g, t, j] : List Int).map V.int) 0 = some (.int p) := rfl
    have m1 : atI (([p, g, t, j] : List Int).map V.int) 1 = some (.int g) := rfl
    have m2 : atI (([p, g, t, j] : List Int).map V.int) 2 = some (.int t) := rfl
    refine ⟨_, rfl, a, _, _, _, rfl, rfl, hT, h0, by show 4 ≤ sizeLine; decide, fun T hT4 => ?_⟩
    have s1 := same_new hT4 (.tup [.str "put", .str "move", .str "add", .str "take"])
    refine ⟨T, _, rfl, .inr (tup_of upd_same), rfl, rfl, _, rfl, ?_⟩
    have plain : r.lix = some 0 → lateI [p, g, t, j] r = p := by
      intro e
      unfold lateI lateOf
      rw [e]
      show ((p.toNat : Nat) : Int) = p
      omega
    have hin : (inV (.str r.word) [.str "put", .str "move", .str "add", .str "take"] = true ∧ r.lix = some 0) ∨ (inV (.str r.word) [.str "put", .str "move", .str "add", .str "take"] = false ∧ (if r.word = "times" then some (V.int t) else if r.word = "get" then some (V.int g) else none).getD (.int (-1)) = .int (lateI [p, g, t, j] r)) := by
      cases r with
      | put b n => exact .inl ⟨by show inV (.str "put") _ = true; decide +kernel, rfl⟩
      | move b n => exact .inl ⟨by show inV (.str "move") _ = true; decide +kernel, rfl⟩
      | add b n c => exact .inl ⟨by show inV (.str "add") _ = true; decide +kernel, rfl⟩
      | take b n c => exact .inl ⟨by show inV (.str "take") _ = true; decide +kernel, rfl⟩
      | times b n c =>
        refine .inr ⟨by show inV (.str "times") _ = false; decide +kernel, ?_⟩
        show (if ("times" : Str) = "times" then some (V.int t) else _).getD (.int (-1)) = .int ((t.toNat : Nat) : Int)
        rw [if_pos rfl, Int.toNat_of_nonneg h3.1]
        rfl
      | get b n =>
        refine .inr ⟨by show inV (.str "get") _ = false; decide +kernel, ?_⟩
        show (if ("get" : Str) = "times" then some (V.int t) else if ("get" : Str) = "get" then some (V.int g) else none).getD (.int (-1)) = .int ((g.toNat : Nat) : Int)
        rw [if_neg (by decide +kernel), if_pos rfl, Int.toNat_of_nonneg h2.1]
        rfl
      | set b n => exact .inr ⟨by show inV (.str "set") _ = false; decide +kernel, by show (if ("set" : Str) = "times" then some (V.int t) else if ("set" : Str) = "get" then some (V.int g) else none).getD (.int (-1)) = .int (-1); rw [if_neg (by decide +kernel), if_neg (by decide +kernel)]; rfl⟩
      | say b => exact .inr ⟨by show inV (.str "say") _ = false; decide +kernel, by show (if ("say" : Str) = "times" then some (V.int t) else if ("say" : Str) = "get" then some (V.int g) else none).getD (.int (-1)) = .int (-1); rw [if_neg (by decide +kernel), if_neg (by decide +kernel)]; rfl⟩
      | rest => exact .inr ⟨by show inV (.str "rest") _ = false; decide +kernel, by show (if ("rest" : Str) = "times" then some (V.int t) else if ("rest" : Str) = "get" then some (V.int g) else none).getD (.int (-1)) = .int (-1); rw [if_neg (by decide +kernel), if_neg (by decide +kernel)]; rfl⟩
      | go b => exact .inr ⟨by show inV (.str "go") _ = false; decide +kernel, by show (if ("go" : Str) = "times" then some (V.int t) else if ("go" : Str) = "get" then some (V.int g) else none).getD (.int (-1)) = .int (-1); rw [if_neg (by decide +kernel), if_neg (by decide +kernel)]; rfl⟩
      | iff b n => exact .inr ⟨by show inV (.str "if") _ = false; decide +kernel, by show (if ("if" : Str) = "times" then some (V.int t) else if ("if" : Str) = "get" then some (V.int g) else none).getD (.int (-1)) = .int (-1); rw [if_neg (by decide +kernel), if_neg (by decide +kernel)]; rfl⟩
      | stop => exact .inr ⟨by show inV (.str "stop") _ = false; decide +kernel, by show (if ("stop" : Str) = "times" then some (V.int t) else if ("stop" : Str) = "get" then some (V.int g) else none).getD (.int (-1)) = .int (-1); rw [if_neg (by decide +kernel), if_neg (by decide +kernel)]; rfl⟩
    rcases hin with ⟨i1, i2⟩ | ⟨i1, i2⟩
    · refine if_t i1 ⟨_, rfl, m, _, _, _, rfl, rfl, same_tup s1 hM, m0, ?_⟩
      have q := k _ s1
      rw [plain i2] at q
      exact q
    · refine if_f i1 ?_
      intro dd hdd
      have s2 := s1.trans (same_new hdd (.dK []))
      refine ⟨_, rfl, m, _, _, _, rfl, rfl, same_tup s2 hM, m1, _, rfl, m, _, _, _, rfl, rfl, same_tup s2 hM, m2, upd_same, [(Sum.inr "get", .int g), (Sum.inr "times", .int t)], rfl, by show 2 ≤ 15; decide, ?_⟩
      have s3 : Same H (upd (upd (upd H T (.tup [.str "put", .str "move", .str "add", .str "take"])) dd (.dK [])) dd (.dK (mergeK [] [(Sum.inr "get", .int g), (Sum.inr "times", .int t)]))) := fun b o e => by
        have nb : b ≠ dd := ne_of_none (s1 _ _ e) hdd
        rw [upd_ne nb]
        exact s2 b o e
      refine ⟨dd, rfl, .inl ⟨_, .inl upd_same⟩, _, rfl, a, _, _, _, rfl, rfl, same_tup s3 hT, h0, 1, rfl, _, DGet.k (k := Sum.inr r.word) upd_same, ?_⟩
      rw [merge2]
      have q := k _ s3
      rw [← i2] at q
      exact q
/-! ### what a row with a worth comes to -/
def spComes (K : PySem.W.Frag) : Sp := fun vs H Q _ => ∃ (v : V) (r : Rw) (many : Int) (ab ac : Addr) (bs cs : List Int), vs = [v, .ref ab, .ref ac] ∧ RowAt K H v r ∧ r.lix.isSome = true ∧ r.ok many ∧ H ab = some (.lst (bs.map V.int)) ∧ H ac = some (.lst (cs.map V.int)) ∧ Held 8 bs ∧ Held 16 cs ∧ ∀ H', Same H H' → Q (.int (worthOf bs cs r)) H'
abbrev psComes : List Str := ["_law_row", "_law_boxes_here", "_law_cells_here"]
theorem scComes : FnScope ["_law_row", "_law_boxes_here", "_law_cells_here", "_law_one", "_law_other"] psComes (defScope sComes) := ⟨rfl, rfl, rfl, by decide +kernel, rfl, by decide +kernel, by decide +kernel⟩
theorem box_at {bs : List Int} (h : Held 8 bs) {b : Int} (hb : Bx b) : atI (bs.map V.int) b = some (.int (bx bs b)) := by
  refine at_of (j := b.toNat) (by obtain ⟨h0, _⟩ := hb; omega) ?_
  rw [List.getElem?_map, (h.bx hb).2]
  rfl
theorem cell_at {cs : List Int} (h : Held 16 cs) (x : Int) : atI (cs.map V.int) (x % 16) = some (.int (cs.getD (x % 16).toNat 0)) := by
  refine at_of (j := (x % 16).toNat) (by have := mod16 x; omega) ?_
  rw [List.getElem?_map, (cell_ok h x).2]
  rfl
theorem n3_lt {z : Int} (h : N3 z) : -(2 ^ 64) < z ∧ z < 2 ^ 64 := by obtain ⟨h0, h1⟩ := h; constructor <;> omega
theorem ok_comes {f : Addr} {fd : FuncData} (F : Fun K "_law_comes" "_law_comes" sComes f fd) : FnOk P w K mg base CX0 1 f fd psComes (spComes K) := by
  refine F.ok scComes (fun vs H Q E h => ?_) (fun cdv A outer s H vs Q E hr h => ?_)
  · obtain ⟨v, r, many, ab, ac, bs, cs, rfl, _⟩ := h
    rfl
  · obtain ⟨v, r, many, ab, ac, bs, cs, rfl, ⟨a, rfl, hT⟩, hl, hok, hb, hc, Hb, Hc, k⟩ := h
    refine ⟨_, pss_cons (ps_if (pt_cmpR op_eq (pe_ix ix_tup (pv 0) pe_int (fun _ _ => rfl)) pe_str (nomark _)) (pss_one (ps_ret (pe_ix ix_tup (pv 0) pe_int (fun _ _ => rfl)))) pss_nil)
      (pss_cons (ps_set (i := 3) scComes.nd rfl (Or.inl rfl) (pe_ix ix_list (pv 1) (pe_ix ix_tup (pv 0) pe_int (fun _ _ => rfl)) (fun _ _ => rfl)))
      (pss_cons (ps_if (pt_cmpR op_in_seq (pe_ix ix_tup (pv 0) pe_int (fun _ _ => rfl)) (pe_tup (pa_cons pe_str (pa_cons pe_str pa_nil))) (by rfl))
        (pss_one (ps_ret (pe_ifExp (pt_cmpR op_eq (pe_ix ix_tup (pv 0) pe_int (fun _ _ => rfl)) pe_str (nomark _)) (pe_ix ix_list (pv 2) (pe_op op_mod (pv 3) pe_int) (fun _ _ => rfl)) (pv 3)))) pss_nil)
      (pss_cons (ps_set (i := 4) scComes.nd rfl (Or.inl rfl) (pe_ix ix_list (pv 1) (pe_ix ix_tup (pv 0) pe_int (fun _ _ => rfl)) (fun _ _ => rfl)))
      (pss_one (ps_ret (pe_op op_mod (pe_dget (hu_of hr) (pe_disp (pps_cons pe_str (pe_op op_add (pv 3) (pv 4)) (pps_cons pe_str (pe_op op_sub (pv 3) (pv 4)) (pps_cons pe_str (pe_op op_mul (pv 3) (pv 4)) pps_nil))) (by rfl) (by rfl) (fun z => by cases z) (by decide))
          (pe_ix ix_tup (pv 0) pe_int (fun _ _ => rfl)) (fun _ _ => rfl)) pe_int)))))), ?_⟩
    have h0 : atI r.vals 0 = some (.str r.word) := by rw [r.vals_eq]; exact atI_nat (j := 0) rfl
    refine ⟨_, rfl, a, _, _, _, rfl, rfl, hT, h0, rfl, _, rfl, ?_⟩
    have cls : (∃ b n, r = .put b n) ∨ (∃ b c, r = .move b c) ∨ (∃ b c, r = .get b c) ∨ ∃ (u : Str) (b c d : Int), r.vals = [.str u, .int b, .int c, .int d] ∧ r.word = u ∧ Bx c ∧ Bx d ∧ decide (V.str u = V.str "put") = false ∧ inV (.str u) [.str "move", .str "get"] = false ∧
        (if u = "times" then some (V.int (bx bs c * bx bs d)) else if u = "take" then some (V.int (bx bs c - bx bs d)) else if u = "add" then some (V.int (bx bs c + bx bs d)) else none) = some (V.int (if u = "times" then bx bs c * bx bs d else if u = "take" then bx bs c - bx bs d else bx bs c + bx bs d)) ∧
        (if u = "times" then bx bs c * bx bs d else if u = "take" then bx bs c - bx bs d else bx bs c + bx bs d) % 1000 = worthOf bs cs r := by
      cases r with
      | put b n => exact .inl ⟨_, _, rfl⟩
      | move b c => exact .inr (.inl ⟨_, _, rfl⟩)
      | get b c => exact .inr (.inr (.inl ⟨_, _, rfl⟩))
      | add b c d =>
        refine .inr (.inr (.inr ⟨"add", b, c, d, rfl, rfl, hok.2.1, hok.2.2, by decide +kernel, by decide +kernel, ?_, ?_⟩))
        · rw [if_neg (by decide +kernel), if_neg (by decide +kernel), if_pos rfl, if_neg (by decide +kernel), if_neg (by decide +kernel)]
        · rw [if_neg (by decide +kernel), if_neg (by decide +kernel)]
          rfl
      | take b c d =>
        refine .inr (.inr (.inr ⟨"take", b, c, d, rfl, rfl, hok.2.1, hok.2.2, by decide +kernel, by decide +kernel, ?_, ?_⟩))
        · rw [if_neg (by decide +kernel), if_pos rfl, if_neg (by decide +kernel), if_pos rfl]
        · rw [if_neg (by decide +kernel), if_pos rfl]
          rfl
      | times b c d =>
        refine .inr (.inr (.inr ⟨"times", b, c, d, rfl, rfl, hok.2.1, hok.2.2, by decide +kernel, by decide +kernel, ?_, ?_⟩))
        · rw [if_pos rfl, if_pos rfl]
        · rw [if_pos rfl]
          rfl
      | _ => cases hl
    have f1 : decide (V.str "put" = V.str "put") = true := by decide +kernel
    have f2 : decide (V.str "move" = V.str "put") = false := by decide +kernel
    have f3 : inV (.str "move") [.str "move", .str "get"] = true := by decide +kernel
    have f4 : decide (V.str "move" = V.str "get") = false := by decide +kernel
    have f5 : decide (V.str "get" = V.str "put") = false := by decide +kernel
    have f6 : inV (.str "get") [.str "move", .str "get"] = true := by decide +kernel
    have f7 : decide (V.str "get" = V.str "get") = true := by decide +kernel
    rcases cls with ⟨b, n, rfl⟩ | ⟨b, c, rfl⟩ | ⟨b, c, rfl⟩ | ⟨u, b, c, d, hv, hw, hc', hd, n1, n2, n3, n4⟩
    · refine if_t f1 ⟨_, rfl, a, _, _, .int n, rfl, rfl, hT, atI_nat (j := 2) rfl, k H (Same.refl H)⟩
    · refine if_f f2 ?_
      refine ⟨_, rfl, _, rfl, a, _, _, .int c, rfl, rfl, hT, atI_nat (j := 2) rfl, ab, _, _, _, rfl, rfl, SqL.of hb, box_at Hb hok.2, ?_⟩
      refine ⟨_, rfl, a, _, _, _, rfl, rfl, hT, h0, by show 2 ≤ sizeLine; decide, fun T hT4 => ?_⟩
      have s1 := same_new hT4 (.tup [.str "move", .str "get"])
      refine ⟨T, _, rfl, .inr (tup_of upd_same), rfl, rfl, _, rfl, if_t f3 ?_⟩
      refine ⟨_, rfl, a, _, _, _, rfl, rfl, same_tup s1 hT, h0, rfl, _, rfl, if_f f4 ?_⟩
      exact ⟨_, rfl, k _ s1⟩
    · refine if_f f5 ?_
      refine ⟨_, rfl, _, rfl, a, _, _, .int c, rfl, rfl, hT, atI_nat (j := 2) rfl, ab, _, _, _, rfl, rfl, SqL.of hb, box_at Hb hok.2, ?_⟩
      refine ⟨_, rfl, a, _, _, _, rfl, rfl, hT, h0, by show 2 ≤ sizeLine; decide, fun T hT4 => ?_⟩
      have s1 := same_new hT4 (.tup [.str "move", .str "get"])
      refine ⟨T, _, rfl, .inr (tup_of upd_same), rfl, rfl, _, rfl, if_t f6 ?_⟩
      refine ⟨_, rfl, a, _, _, _, rfl, rfl, same_tup s1 hT, h0, rfl, _, rfl, if_t f7 ?_⟩
      exact ⟨_, rfl, _, rfl, _, _, rfl, rfl, (by show (0 : Int) < 16; decide), ac, _, _, _, rfl, rfl, SqL.of (s1 _ _ hc), cell_at Hc _, k _ s1⟩
    · rw [hw]
      refine if_f n1 ?_
      refine ⟨_, rfl, _, rfl, a, _, _, .int c, rfl, rfl, hT, by rw [hv]; exact atI_nat (j := 2) rfl, ab, _, _, _, rfl, rfl, SqL.of hb, box_at Hb hc', ?_⟩
      refine ⟨_, rfl, a, _, _, _, rfl, rfl, hT, h0, by show 2 ≤ sizeLine; decide, fun T hT4 => ?_⟩
      have s1 := same_new hT4 (.tup [.str "move", .str "get"])
      refine ⟨T, _, rfl, .inr (tup_of upd_same), rfl, rfl, _, rfl, ?_⟩
      rw [hw]
      refine if_f n2 ?_
      refine ⟨_, rfl, _, rfl, a, _, _, .int d, rfl, rfl, same_tup s1 hT, by rw [hv]; exact atI_nat (j := 3) rfl, ab, _, _, _, rfl, rfl, SqL.of (s1 _ _ hb), box_at Hb hd, ?_⟩
      intro dd hdd
      have s2 := s1.trans (same_new hdd (.dK []))
      refine ⟨_, rfl, _, rfl, _, _, rfl, rfl, _, rfl, _, rfl, _, _, rfl, rfl, _, rfl, _, rfl, _, _, rfl, rfl, .inl (n3_lt (Hb.bx hc').1), upd_same, [(Sum.inr "add", .int (bx bs c + bx bs d)), (Sum.inr "take", .int (bx bs c - bx bs d)), (Sum.inr "times", .int (bx bs c * bx bs d))], rfl, by show 3 ≤ 15; decide, ?_⟩
      have s3 : Same H (upd (upd (upd H T (.tup [.str "move", .str "get"])) dd (.dK [])) dd (.dK (mergeK [] [(Sum.inr "add", .int (bx bs c + bx bs d)), (Sum.inr "take", .int (bx bs c - bx bs d)), (Sum.inr "times", .int (bx bs c * bx bs d))]))) := fun b o e => by
        have nb : b ≠ dd := ne_of_none (s1 _ _ e) hdd
        rw [upd_ne nb]
        exact s2 b o e
      refine ⟨_, rfl, a, _, _, _, rfl, rfl, same_tup s3 hT, h0, dd, .int (if u = "times" then bx bs c * bx bs d else if u = "take" then bx bs c - bx bs d else bx bs c + bx bs d), rfl, ?_, ?_⟩
      · rw [hw]
        have g := DGet.k (k := Sum.inr u) (upd_same (H := upd (upd H T (.tup [.str "move", .str "get"])) dd (.dK [])) (a := dd) (o := .dK (mergeK [] [(Sum.inr "add", .int (bx bs c + bx bs d)), (Sum.inr "take", .int (bx bs c - bx bs d)), (Sum.inr "times", .int (bx bs c * bx bs d))])))
        rw [merge3, n3] at g
        exact g
      · refine ⟨_, _, rfl, rfl, (by show (0 : Int) < 1000; decide), ?_⟩
        have q := k _ s3
        rw [← n4] at q
        exact q
end
end LB
namespace LB
open PySem L2
/-- the five objects of a run, all made behind H0 -/
structure Five (H0 : Hp) (ab ac asd ad ag : Addr) : Prop where
  b0 : H0 ab = none
  c0 : H0 ac = none
  s0 : H0 asd = none
  d0 : H0 ad = none
  g0 : H0 ag = none
  bc : ab ≠ ac
  bs : ab ≠ asd
  cs : ac ≠ asd
  dg : ad ≠ ag
abbrev Bad (ab ac asd : Addr) : Addr → Prop := fun l => l = ab ∨ l = ac ∨ l = asd
structure LAt (H0 H : Hp) (ab ac asd ad ag : Addr) (n : Nat) (bl : List Int) (s : Ms) : Prop where
  same : Same H0 H
  hb : H ab = some (.lst (bl.map V.int))
  hc : H ac = some (.lst (s.cells.map V.int))
  hs : H asd = some (.lst (s.said.map V.int))
  hl : s.said.length ≤ n
  kv : ∃ kvs, H ad = some (.dK kvs) ∧ DueAt H kvs s.due (Bad ab ac asd) ∧ kvs.length ≤ n
  gv : ∃ gs, H ag = some (.dK gs) ∧ GoesAt gs s.goes ∧ gs.length ≤ n
  dl : ∀ k, (s.due k).length ≤ n
section
variable {H0 H : Hp} {ab ac asd ad ag : Addr} {n : Nat} {bl : List Int} {s : Ms}
theorem LAt.new {x : Addr} {o : HO} (h : LAt H0 H ab ac asd ad ag n bl s) (hx : H x = none) : LAt H0 (upd H x o) ab ac asd ad ag n bl s := by
  have sm := same_new hx o
  obtain ⟨kvs, k1, k2, k3⟩ := h.kv
  obtain ⟨gs, g1, g2, g3⟩ := h.gv
  exact ⟨h.same.trans sm, sm _ _ h.hb, sm _ _ h.hc, sm _ _ h.hs, h.hl, ⟨kvs, sm _ _ k1, k2.keep (fun l vs _ e => sm _ _ e) (Same.tups sm), k3⟩, ⟨gs, sm _ _ g1, g2, g3⟩, h.dl⟩
theorem LAt.sm {H' : Hp} (h : LAt H0 H ab ac asd ad ag n bl s) (sm : Same H H') : LAt H0 H' ab ac asd ad ag n bl s := by
  obtain ⟨kvs, k1, k2, k3⟩ := h.kv
  obtain ⟨gs, g1, g2, g3⟩ := h.gv
  exact ⟨h.same.trans sm, sm _ _ h.hb, sm _ _ h.hc, sm _ _ h.hs, h.hl, ⟨kvs, sm _ _ k1, k2.keep (fun l vs _ e => sm _ _ e) (Same.tups sm), k3⟩, ⟨gs, sm _ _ g1, g2, g3⟩, h.dl⟩
theorem LAt.more {m : Nat} (h : LAt H0 H ab ac asd ad ag n bl s) (hm : n ≤ m) : LAt H0 H ab ac asd ad ag m bl s := by
  obtain ⟨kvs, k1, k2, k3⟩ := h.kv
  obtain ⟨gs, g1, g2, g3⟩ := h.gv
  exact ⟨h.same, h.hb, h.hc, h.hs, Nat.le_trans h.hl hm, ⟨kvs, k1, k2, Nat.le_trans k3 hm⟩, ⟨gs, g1, g2, Nat.le_trans g3 hm⟩, fun k => Nat.le_trans (h.dl k) hm⟩
/-- a list that is none of the due ones changes -/
theorem due_list {H : Hp} {kvs : List (Key × V)} {f : Int → List (Int × Int)} {bad : Addr → Prop} {x : Addr} {xs ys : List V} (h : DueAt H kvs f bad) (hx : H x = some (.lst xs)) (hb : bad x) : DueAt (upd H x (.lst ys)) kvs f bad :=
  h.keep (fun l vs nb e => by
    rw [upd_ne (fun z => nb (by rw [z]; exact hb))]
    exact e) (TupKeep.upd hx (by intro xs e; cases e))
theorem same_over {x : Addr} {o : HO} (h : Same H0 H) (hx : H0 x = none) : Same H0 (upd H x o) := fun b u e => by
  rw [upd_ne (ne_of_none e hx)]
  exact h b u e
theorem kind_ne {a b : Addr} {xs : List V} {kvs : List (Key × V)} (h1 : H a = some (.lst xs)) (h2 : H b = some (.dK kvs)) : a ≠ b := fun e => by
  rw [e, h2] at h1
  cases h1
/-- the boxes change -/
theorem LAt.boxes {bl' : List Int} (F : Five H0 ab ac asd ad ag) (h : LAt H0 H ab ac asd ad ag n bl s) : LAt H0 (upd H ab (.lst (bl'.map V.int))) ab ac asd ad ag n bl' s := by
  obtain ⟨kvs, k1, k2, k3⟩ := h.kv
  obtain ⟨gs, g1, g2, g3⟩ := h.gv
  exact ⟨same_over h.same F.b0, upd_same, by rw [upd_ne F.bc.symm]; exact h.hc, by rw [upd_ne F.bs.symm]; exact h.hs, h.hl, ⟨kvs, by rw [upd_ne (kind_ne h.hb k1).symm]; exact k1, due_list k2 h.hb (.inl rfl), k3⟩,
    ⟨gs, by rw [upd_ne (kind_ne h.hb g1).symm]; exact g1, g2, g3⟩, h.dl⟩
theorem LAt.cells {cs' : List Int} (F : Five H0 ab ac asd ad ag) (h : LAt H0 H ab ac asd ad ag n bl s) : LAt H0 (upd H ac (.lst (cs'.map V.int))) ab ac asd ad ag n bl { s with cells := cs' } := by
  obtain ⟨kvs, k1, k2, k3⟩ := h.kv
  obtain ⟨gs, g1, g2, g3⟩ := h.gv
  exact ⟨same_over h.same F.c0, by rw [upd_ne F.bc]; exact h.hb, upd_same, by rw [upd_ne F.cs.symm]; exact h.hs, h.hl, ⟨kvs, by rw [upd_ne (kind_ne h.hc k1).symm]; exact k1, due_list k2 h.hc (.inr (.inl rfl)), k3⟩,
    ⟨gs, by rw [upd_ne (kind_ne h.hc g1).symm]; exact g1, g2, g3⟩, h.dl⟩
theorem LAt.says {ss : List Int} (F : Five H0 ab ac asd ad ag) (h : LAt H0 H ab ac asd ad ag n bl s) (hl : ss.length ≤ n) : LAt H0 (upd H asd (.lst (ss.map V.int))) ab ac asd ad ag n bl { s with said := ss } := by
  obtain ⟨kvs, k1, k2, k3⟩ := h.kv
  obtain ⟨gs, g1, g2, g3⟩ := h.gv
  exact ⟨same_over h.same F.s0, by rw [upd_ne F.bs]; exact h.hb, by rw [upd_ne F.cs]; exact h.hc, upd_same, hl, ⟨kvs, by rw [upd_ne (kind_ne h.hs k1).symm]; exact k1, due_list k2 h.hs (.inr (.inr rfl)), k3⟩,
    ⟨gs, by rw [upd_ne (kind_ne h.hs g1).symm]; exact g1, g2, g3⟩, h.dl⟩
theorem LAt.going {k q : Int} (F : Five H0 ab ac asd ad ag) (h : LAt H0 H ab ac asd ad ag n bl s) {gs : List (Key × V)} (hg : H ag = some (.dK gs)) :
    LAt H0 (upd H ag (.dK (putK gs (Sum.inl k) (.int q)))) ab ac asd ad ag (n + 1) bl { s with goes := fun j => if j = k then some q else s.goes j } := by
  obtain ⟨kvs, k1, k2, k3⟩ := h.kv
  obtain ⟨gs', g1, g2, g3⟩ := h.gv
  rw [hg] at g1
  cases g1
  refine ⟨same_over h.same F.g0, by rw [upd_ne (kind_ne h.hb hg)]; exact h.hb, by rw [upd_ne (kind_ne h.hc hg)]; exact h.hc, by rw [upd_ne (kind_ne h.hs hg)]; exact h.hs, Nat.le_succ_of_le h.hl, ⟨kvs, by rw [upd_ne F.dg]; exact k1, ?_, Nat.le_succ_of_le k3⟩, ⟨_, upd_same, g2.put k q, ?_⟩, fun k => Nat.le_succ_of_le (h.dl k)⟩
  · refine k2.keep (fun l vs _ e => by rw [upd_ne (kind_ne e hg)]; exact e) (TupKeep.upd hg (by intro xs e; cases e))
  · exact Nat.le_trans (put_len _ _ _) (Nat.succ_le_succ g3)
theorem LAt.worth {k : Int} {l : Addr} {vs : List V} {ps : List (Int × Int)} (F : Five H0 ab ac asd ad ag) (h : LAt H0 H ab ac asd ad ag n bl s) {kvs : List (Key × V)} (hk : H ad = some (.dK kvs)) (nb : ¬ Bad ab ac asd l) (e : H l = some (.lst vs)) (hp : PairsAt H vs ps) (hpl : ps.length ≤ n + 1) :
    LAt H0 (upd H ad (.dK (putK kvs (Sum.inl k) (.ref l)))) ab ac asd ad ag (n + 1) bl { s with due := fun j => if j = k then ps else s.due j } := by
  obtain ⟨kvs', k1, k2, k3⟩ := h.kv
  obtain ⟨gs, g1, g2, g3⟩ := h.gv
  rw [hk] at k1
  cases k1
  refine ⟨same_over h.same F.d0, by rw [upd_ne (kind_ne h.hb hk)]; exact h.hb, by rw [upd_ne (kind_ne h.hc hk)]; exact h.hc, by rw [upd_ne (kind_ne h.hs hk)]; exact h.hs, Nat.le_succ_of_le h.hl, ⟨_, upd_same, ?_, ?_⟩, ⟨gs, by rw [upd_ne F.dg.symm]; exact g1, g2, Nat.le_succ_of_le g3⟩, fun j => ?_⟩
  · exact (k2.put (k := k) nb e hp).keep (fun l vs _ e => by rw [upd_ne (kind_ne e hk)]; exact e) (TupKeep.upd hk (by intro xs e; cases e))
  · exact Nat.le_trans (put_len _ _ _) (Nat.succ_le_succ k3)
  · show (if j = k then ps else s.due j).length ≤ n + 1
    split
    · exact hpl
    · exact Nat.le_succ_of_le (h.dl j)
/-- the list that a get finds, or the new one -/
theorem LAt.get {q0 : Addr} {kvs : List (Key × V)} (h : LAt H0 H ab ac asd ad ag n bl s) (hk : H ad = some (.dK kvs)) (hq : H q0 = none) (key : Int) :
    ∃ l vs, (valV kvs (Sum.inl key)).getD (.ref q0) = .ref l ∧ ¬ Bad ab ac asd l ∧ (upd H q0 (.lst [])) l = some (.lst vs) ∧ PairsAt (upd H q0 (.lst [])) vs (s.due key) := by
  obtain ⟨kvs', k1, k2, k3⟩ := h.kv
  rw [hk] at k1
  cases k1
  rcases k2 key with ⟨e1, e2⟩ | ⟨l, vs, e1, e2, e3, e4⟩
  · refine ⟨q0, [], by rw [e1]; rfl, ?_, upd_same, by rw [e2]; exact .nil⟩
    rintro (e | e | e)
    · rw [e, h.hb] at hq; cases hq
    · rw [e, h.hc] at hq; cases hq
    · rw [e, h.hs] at hq; cases hq
  · have sm := same_new hq (.lst [])
    exact ⟨l, vs, by rw [e1]; rfl, e2, sm _ _ e3, e4.keep (Same.tups sm)⟩
end
theorem setAll_take {bs : List Int} {ps : List (Int × Int)} {j : Nat} {p : Int × Int} (h : ps[j]? = some p) : setAll bs (ps.take (j + 1)) = (setAll bs (ps.take j)).set p.1.toNat p.2 := by
  unfold setAll
  rw [List.take_add_one, h, List.foldl_append]
  rfl
theorem goes_get {kvs : List (Key × V)} {g : Int → Option Int} (h : GoesAt kvs g) (k y : Int) : (valV kvs (Sum.inl k)).getD (.int y) = .int ((g k).getD y) := by
  rw [h k]
  cases g k <;> rfl
theorem stops_dec (r : Rw) : decide (V.str r.word = V.str "stop") = r.stops := by
  cases r with
  | stop => show decide (V.str "stop" = V.str "stop") = true; decide +kernel
  | put b n => show decide (V.str "put" = V.str "stop") = false; decide +kernel
  | move b n => show decide (V.str "move" = V.str "stop") = false; decide +kernel
  | add b n c => show decide (V.str "add" = V.str "stop") = false; decide +kernel
  | take b n c => show decide (V.str "take" = V.str "stop") = false; decide +kernel
  | times b n c => show decide (V.str "times" = V.str "stop") = false; decide +kernel
  | get b n => show decide (V.str "get" = V.str "stop") = false; decide +kernel
  | set b n => show decide (V.str "set" = V.str "stop") = false; decide +kernel
  | say b => show decide (V.str "say" = V.str "stop") = false; decide +kernel
  | rest => show decide (V.str "rest" = V.str "stop") = false; decide +kernel
  | go b => show decide (V.str "go" = V.str "stop") = false; decide +kernel
  | iff b n => show decide (V.str "if" = V.str "stop") = false; decide +kernel
/-- the state behind the row, ahead of the next beat -/
def mid (ms : List Int) (t : Int) (r : Rw) (s : Ms) : Ms := { s with due := due1 ms t r s, goes := goes1 ms t r s, cells := cells1 s r, said := said1 s r }
theorem mid_worth {ms : List Int} {t : Int} {r : Rw} {s : Ms} {b : Int} (hb : r.box = some b) : mid ms t r s = { s with due := fun j => if j = t + lateI ms r + 1 then s.due (t + lateI ms r + 1) ++ [(b, worthOf s.boxes s.cells r)] else s.due j } := by
  have hl : lateI ms r = (lateOf ms r : Int) := by
    unfold lateI
    cases e : r.lix with
    | some i => rfl
    | none =>
      have := r.box_lix
      rw [hb, e] at this
      cases this
  have hd : due1 ms t r s = fun j => if j = t + lateI ms r + 1 then s.due (t + lateI ms r + 1) ++ [(b, worthOf s.boxes s.cells r)] else s.due j := by
    unfold due1
    rw [hb]
    funext j
    rw [hl]
    show (if j = t + (lateOf ms r : Int) + 1 then s.due j ++ [(b, worthOf s.boxes s.cells r)] else s.due j) = _
    by_cases q : j = t + (lateOf ms r : Int) + 1
    · rw [if_pos q, if_pos q, q]
    · rw [if_neg q, if_neg q]
  unfold mid
  rw [hd]
  cases r <;> first | rfl | cases hb
theorem mid_none {ms : List Int} {t : Int} {r : Rw} {s : Ms} (hb : r.box = none) : mid ms t r s = { s with goes := goes1 ms t r s, cells := cells1 s r, said := said1 s r } := by
  unfold mid due1
  rw [hb]
theorem runM_succ (ms : List Int) (rs : List Rw) (n : Nat) (t : Int) (s : Ms) : runM ms rs (n + 1) t s =
    if (rs.getD s.at_.toNat .stop).stops then ⟨(step ms t (rs.getD s.at_.toNat .stop) s).said, "stop", t + 1, (step ms t (rs.getD s.at_.toNat .stop) s).cells⟩
    else if (step ms t (rs.getD s.at_.toNat .stop) s).at_ = (rs.length : Int) then ⟨(step ms t (rs.getD s.at_.toNat .stop) s).said, "end", t + 1, (step ms t (rs.getD s.at_.toNat .stop) s).cells⟩
    else runM ms rs n (t + 1) (step ms t (rs.getD s.at_.toNat .stop) s) := rfl
/-- what a run tells stands at t -/
def ResAt (H0 H : Hp) (t : Addr) (R : Res) : Prop := ∃ ls lc : Addr, H t = some (.tup [.ref ls, .str R.fin, .int R.beats, .ref lc]) ∧ H ls = some (.lst (R.said.map V.int)) ∧ H lc = some (.lst (R.cells.map V.int)) ∧ H0 ls = none ∧ H0 lc = none ∧ H0 t = none ∧ ls ≠ lc
def ResOk (R : Res) : Prop := R.said.length ≤ 1000 ∧ R.cells.length = 16
theorem said1_len (s : Ms) (r : Rw) : (said1 s r).length ≤ s.said.length + 1 := by
  cases r with
  | say c => simp [said1]
  | _ => exact Nat.le_succ _
theorem runM_ok {ms : List Int} {rs : List Rw} (hrs : ∀ r, r ∈ rs → r.ok rs.length) : ∀ (n : Nat) (t : Int) (s : Ms), MsOk rs.length s → s.at_ < rs.length → (runM ms rs n t s).said.length ≤ s.said.length + n ∧ (runM ms rs n t s).cells.length = 16
  | 0, t, s, h, _ => ⟨Nat.le_refl _, h.cells.1⟩
  | n + 1, t, s, h, ha => by
    have hj : s.at_.toNat < rs.length := by have := h.at0; omega
    have er : rs.getD s.at_.toNat .stop = rs[s.at_.toNat] := by rw [List.getD_eq_getElem?_getD, List.getElem?_eq_getElem hj]; rfl
    have hr : (rs.getD s.at_.toNat .stop).ok rs.length := by rw [er]; exact hrs _ (List.getElem_mem hj)
    have h' := step_ok (ms := ms) (t := t) h hr ha
    have hl : (step ms t (rs.getD s.at_.toNat .stop) s).said.length ≤ s.said.length + 1 := said1_len s _
    unfold runM
    by_cases c1 : (rs.getD s.at_.toNat .stop).stops = true
    · rw [if_pos c1]
      exact ⟨by show (step ms t _ s).said.length ≤ _; omega, h'.cells.1⟩
    · rw [if_neg c1]
      by_cases c2 : (step ms t (rs.getD s.at_.toNat .stop) s).at_ = (rs.length : Int)
      · rw [if_pos c2]
        exact ⟨by show (step ms t _ s).said.length ≤ _; omega, h'.cells.1⟩
      · rw [if_neg c2]
        have ih := runM_ok (ms := ms) hrs n (t + 1) _ h' (by have := h'.at1; omega)
        exact ⟨by omega, ih.2⟩
section
variable {P : Program} {w : World} {K : PySem.W.Frag} {mg : Str → Option Value} {base : Heap}
def spLRun (K : PySem.W.Frag) : Sp := fun vs H Q _ => ∃ (ap am ac : Addr) (rs : List Rw) (ms cs : List Int) (fuel : Nat), vs = [.ref ap, .ref am, .ref ac, .int fuel] ∧ ProgAt K H ap rs ∧ RsOk rs ∧ MillAt K H am ms ∧ MillOk ms ∧ SqL K H ac (cs.map V.int) ∧ CsOk cs ∧ fuel ≤ 1000 ∧
  ∀ t H', Same H H' → ResAt H H' t (runM ms rs fuel 0 (ms0 cs)) → Q (.ref t) H'
abbrev psLRun : List Str := ["_law_program", "_law_mill_here", "_law_cells_here", "_law_fuel"]
abbrev nsLRun : List Str := ["_law_program", "_law_mill_here", "_law_cells_here", "_law_fuel", "_law_boxes_here", "_law_said", "_law_here", "_law_end", "_law_due", "_law_goes", "_law_beat", "_law_box", "_law_number_here", "_law_row", "_law_k"]
theorem scLRun : FnScope nsLRun psLRun (defScope sLRun) := ⟨rfl, rfl, rfl, by decide +kernel, rfl, by decide +kernel, by decide +kernel⟩
theorem ok_lrun {f : Addr} {fd : FuncData} (F : Fun K "_law_run" "_law_run" sLRun f fd) (L : Cal P w K mg base 1 "_law_late" psLLate (spLLate K)) (C : Cal P w K mg base 1 "_law_comes" psComes (spComes K)) (B : Bl2 mg) : FnOk P w K mg base CX0 2 f fd psLRun (spLRun K) := by
  refine F.ok scLRun (fun vs H Q E h => ?_) (fun cdv A outer s H vs Q E hr h => ?_)
  · obtain ⟨ap, am, ac, rs, ms, cs, fuel, rfl, _⟩ := h
    rfl
  · obtain ⟨ap, am, ac0, rs, ms, cs, fuel, rfl, hP, ⟨l0, l1, hok⟩, hM, hMo, hC, hCo, hf, k⟩ := h
    have hu := hu_of hr
    refine ⟨_, (pss_cons (ps_asg (pe_tup (pa_cons (pe_callTy call_list_of (by rfl) B.b.list (by decide +kernel) (pa_cons (pv 2) pa_nil)) (pa_cons (pe_op op_rep (pe_lst (pa_cons pe_int pa_nil)) pe_int) (pa_cons (pe_lst pa_nil) (pa_cons pe_int (pa_cons pe_str pa_nil)))))) (pg_tup rfl (pgs_cons (pg_name (i := 2) scLRun.nd rfl (Or.inl rfl)) (pgs_cons (pg_name (i := 4) scLRun.nd rfl (Or.inl rfl)) (pgs_cons (pg_name (i := 5) scLRun.nd rfl (Or.inl rfl)) (pgs_cons (pg_name (i := 6) scLRun.nd rfl (Or.inl rfl)) (pgs_cons (pg_name (i := 7) scLRun.nd rfl (Or.inl rfl)) pgs_nil))))))) (pss_cons (ps_set (i := 8) scLRun.nd rfl (Or.inl rfl) pe_dnewK) (pss_cons (ps_set (i := 9) scLRun.nd rfl (Or.inl rfl) pe_dnewK) (pss_cons (ps_for PassesOwn.never rfl (pi_range1 (by rfl) B.b.range (pa_cons (pv 3) pa_nil)) (pg_name (i := 10) scLRun.nd rfl (Or.inl rfl)) (pss_cons (ps_for PassesOwn.never rfl (pi_list (pe_dget2 hu (pv 8) (pv 10) (pe_lst pa_nil) ⟨by rfl, by rfl, by rfl, by rfl⟩)) (pg_tup rfl (pgs_cons (pg_name (i := 11) scLRun.nd rfl (Or.inl rfl)) (pgs_cons (pg_name (i := 12) scLRun.nd rfl (Or.inl rfl)) pgs_nil))) (pss_one (ps_asg (pv 12) (pg_sub (pv 4) (pv 11) set_list)))) (pss_cons (ps_set (i := 13) scLRun.nd rfl (Or.inl rfl) (pe_ix ix_tup (pv 0) (pv 6) (fun _ _ => rfl))) (pss_cons (ps_set (i := 14) scLRun.nd rfl (Or.inl rfl) (pe_cal L hr (pa_cons (pv 13) (pa_cons (pv 1) pa_nil)))) (pss_cons (ps_if (pt_cmpR op_ge (pv 14) pe_int (nomark _)) (pss_one (ps_dput hu (pv 8) (pe_op op_add (pe_op op_add (pv 10) (pv 14)) pe_int) (pe_op op_cat (pe_dget2 hu (pv 8) (pe_op op_add (pe_op op_add (pv 10) (pv 14)) pe_int) (pe_lst pa_nil) ⟨by rfl, by rfl, by rfl, by rfl⟩) (pe_lst (pa_cons (pe_tup (pa_cons (pe_ix ix_tup (pv 13) pe_int (fun _ _ => rfl)) (pa_cons (pe_cal C hr (pa_cons (pv 13) (pa_cons (pv 4) (pa_cons (pv 2) pa_nil)))) pa_nil))) pa_nil))) rfl)) (pss_one (ps_if (pt_cmpR op_eq (pe_ix ix_tup (pv 13) pe_int (fun _ _ => rfl)) pe_str (nomark _)) (pss_one (ps_asg (pe_ix ix_list (pv 4) (pe_ix ix_tup (pv 13) pe_int (fun _ _ => rfl)) (fun _ _ => rfl)) (pg_sub (pv 2) (pe_op op_mod (pe_ix ix_list (pv 4) (pe_ix ix_tup (pv 13) pe_int (fun _ _ => rfl)) (fun _ _ => rfl)) pe_int) set_list))) (pss_one (ps_if (pt_cmpR op_eq (pe_ix ix_tup (pv 13) pe_int (fun _ _ => rfl)) pe_str (nomark _)) (pss_one (ps_expr (pe_bm PySem.F.plainAttrs_list PySem.F.slot_list_append PySem.F.type_list_append mt_append (pv 5) (pa_cons (pe_ix ix_list (pv 4) (pe_ix ix_tup (pv 13) pe_int (fun _ _ => rfl)) (fun _ _ => rfl)) pa_nil)))) (pss_one (ps_if (PW.pt (pw_or (pt_cmpR op_eq (pe_ix ix_tup (pv 13) pe_int (fun _ _ => rfl)) pe_str (nomark _)) (pw_or1 (PW.pt (pw_and (pt_cmpR op_eq (pe_ix ix_tup (pv 13) pe_int (fun _ _ => rfl)) pe_str (nomark _)) (pw_and1 (pt_cmpR op_gt (pe_ix ix_list (pv 4) (pe_ix ix_tup (pv 13) pe_int (fun _ _ => rfl)) (fun _ _ => rfl)) pe_int (nomark _)))))))) (pss_one (ps_dput hu (pv 9) (pe_op op_add (pe_op op_add (pv 10) (pe_ix ix_tup (pv 1) pe_int (fun _ _ => rfl))) pe_int) (pe_ix ix_tup (pv 13) (pe_un un_neg pe_int) (fun _ _ => rfl)) rfl)) pss_nil))))))) (pss_cons (ps_set (i := 6) scLRun.nd rfl (Or.inl rfl) (pe_dget2 hu (pv 9) (pe_op op_add (pv 10) pe_int) (pe_op op_add (pv 6) pe_int) ⟨by rfl, by rfl, by rfl, by rfl⟩)) (pss_one (ps_if (PW.pt (pw_or (pt_cmpR op_eq (pe_ix ix_tup (pv 13) pe_int (fun _ _ => rfl)) pe_str (nomark _)) (pw_or1 (pt_cmpR op_eq (pv 6) (pe_callB call_len_seq (by rfl) B.b.len PySem.boot_len (pa_cons (pv 0) pa_nil)) (nomark _))))) (pss_cons (ps_set (i := 7) scLRun.nd rfl (Or.inl rfl) (pe_ifExp (pt_cmpR op_eq (pe_ix ix_tup (pv 13) pe_int (fun _ _ => rfl)) pe_str (nomark _)) pe_str pe_str)) (pss_one (ps_ret (pe_tup (pa_cons (pv 5) (pa_cons (pv 7) (pa_cons (pe_op op_add (pv 10) pe_int) (pa_cons (pv 2) pa_nil)))))))) pss_nil)))))))) (pss_one (ps_ret (pe_tup (pa_cons (pv 5) (pa_cons (pv 7) (pa_cons (pv 3) (pa_cons (pv 2) pa_nil))))))))))), ?_⟩
    refine ⟨_, rfl, ac0, _, rfl, .inl hC, fun ac hac => ?_⟩
    refine ⟨by show 1 ≤ sizeLine; decide, fun z1 hz1 => ⟨z1, 8, [.int 0], rfl, rfl, upd_same, by decide, by decide, by show 1 * 8 ≤ sizeLine; decide, fun ab hab => ⟨by show 0 ≤ sizeLine; decide, fun asd hasd => ⟨by show 5 ≤ sizeLine; decide, fun T0 hT0 => ?_⟩⟩⟩⟩
    refine ⟨T0, _, rfl, tup_of upd_same, rfl, .ref ac, [.ref ab, .ref asd, .int 0, .str "long"], rfl, .ref ab, [.ref asd, .int 0, .str "long"], rfl, .ref asd, [.int 0, .str "long"], rfl, .int 0, [.str "long"], rfl, .str "long", [], rfl, rfl, ?_⟩
    intro ad had ag hag
    have s1 := same_new hac (.lst (cs.map V.int))
    have s2 := same_new hz1 (.lst [V.int 0])
    have s3 := same_new hab (.lst (List.replicate (8 : Int).toNat [V.int 0]).flatten)
    have s4 := same_new hasd (.lst [])
    have s5 := same_new hT0 (.tup [.ref ac, .ref ab, .ref asd, .int 0, .str "long"])
    have s6 := same_new had (.dK [])
    have s7 := same_new hag (.dK [])
    have e1 := (s2.trans (s3.trans (s4.trans (s5.trans (s6.trans s7))))) _ _ (upd_same (H := H) (a := ac) (o := .lst (cs.map V.int)))
    have e3 := (s4.trans (s5.trans (s6.trans s7))) _ _ (upd_same (a := ab) (o := .lst (List.replicate (8 : Int).toNat [V.int 0]).flatten))
    have e4 := (s5.trans (s6.trans s7)) _ _ (upd_same (a := asd) (o := .lst []))
    have e6 := s7 _ _ (upd_same (a := ad) (o := .dK []))
    have FV : Five H ab ac asd ad ag := by
      refine ⟨(s1.trans s2).free hab, hac, (s1.trans (s2.trans s3)).free hasd, (s1.trans (s2.trans (s3.trans (s4.trans s5)))).free had, (s1.trans (s2.trans (s3.trans (s4.trans (s5.trans s6))))).free hag, ?_, ?_, ?_, ?_⟩
      · exact (ne_of_none (s2 _ _ upd_same) hab).symm
      · exact ne_of_none upd_same hasd
      · exact ne_of_none ((s2.trans s3) _ _ upd_same) hasd
      · exact ne_of_none upd_same hag
    have LA : LAt H _ ab ac asd ad ag 0 (List.replicate 8 0) (ms0 cs) :=
      ⟨s1.trans (s2.trans (s3.trans (s4.trans (s5.trans (s6.trans s7))))), e3, e1, e4, Nat.le_refl _, ⟨[], e6, fun k => .inl ⟨rfl, rfl⟩, Nat.le_refl _⟩, ⟨[], upd_same, fun k => rfl, Nat.le_refl _⟩, fun k => Nat.le_refl _⟩
    have hM0 : MsOk (rs.length : Int) (ms0 cs) := ms0_ok hCo (by omega)
    have hA0 : (ms0 cs).at_ < (rs.length : Int) := by show (0 : Int) < (rs.length : Int); omega
    refine ⟨_, rfl, (fuel : Int), rfl, by omega, by omega, ?_⟩
    refine for_range (lo := 0) (n := (fuel : Int).toNat) (fun i σ H1 => ∃ (s : Ms) (bl : List Int) (v10 v11 v12 v13 v14 : Option V), σ = [some (.ref ap), some (.ref am), some (.ref ac), some (.int fuel), some (.ref ab), some (.ref asd), some (.int s.at_), some (.str "long"), some (.ref ad), some (.ref ag), v10, v11, v12, v13, v14] ∧
        LAt H H1 ab ac asd ad ag i bl s ∧ Held 8 bl ∧ setAll bl (s.due (0 + (i : Int))) = s.boxes ∧ MsOk rs.length s ∧ s.at_ < rs.length ∧ runM ms rs (fuel - i) (0 + (i : Int)) s = runM ms rs fuel 0 (ms0 cs))
      ⟨ms0 cs, List.replicate 8 0, none, none, none, none, none, rfl, LA, hM0.boxes, rfl, hM0, hA0, rfl⟩ ?_ ?_
    · rintro i σ H1 hi ⟨s, bl, v10, v11, v12, v13, v14, rfl, LI, Hbl, hset, hMs, hat, hrun⟩
      have hi' : i < fuel := by rw [Int.toNat_natCast] at hi; exact hi
      obtain ⟨kvs, hkv, hdue, hkl⟩ := LI.kv
      -- the worths of this beat come
      refine ⟨_, rfl, ad, rfl, .inl ⟨kvs, .inl hkv⟩, _, rfl, by show 0 ≤ sizeLine; decide, fun q0 hq0 => ?_⟩
      obtain ⟨l, vs, hget, hnb, hll, hps⟩ := LI.get hkv hq0 (0 + (i : Int))
      have LI1 := LI.new (o := .lst []) hq0
      have hkv1 := same_new hq0 (.lst []) _ _ hkv
      refine ⟨_, DGet.k (k := Sum.inl (0 + (i : Int))) hkv1, l, hget, ⟨_, SqL.of hll⟩, ?_⟩
      have hplen := hps.length
      refine for_list (K := K) (a := l) (xs := vs) (fun j σ' H' => ∃ v11 v12 : Option V, σ' = [some (.ref ap), some (.ref am), some (.ref ac), some (.int fuel), some (.ref ab), some (.ref asd), some (.int s.at_), some (.str "long"), some (.ref ad), some (.ref ag), some (.int (0 + (i : Int))), v11, v12, v13, v14] ∧
          LAt H H' ab ac asd ad ag i (setAll bl ((s.due (0 + (i : Int))).take j)) s ∧ Held 8 (setAll bl ((s.due (0 + (i : Int))).take j)) ∧ H' l = some (.lst vs) ∧ PairsAt H' vs (s.due (0 + (i : Int))))
        ⟨v11, v12, rfl, LI1, Hbl, hll, hps⟩ (fun j σ' H' _ ⟨_, _, _, _, _, e, _⟩ => SqL.of e) ?_ ?_
      · rintro j y σ' H' hy ⟨w11, w12, rfl, LJ, HJ, hlJ, hpJ⟩
        obtain ⟨T, b, z, rfl, hT, hbz⟩ := hpJ.get hy
        obtain ⟨hb, hz⟩ := hMs.due _ _ (List.mem_of_getElem? hbz)
        refine ⟨T, [.int b, .int z], rfl, tup_of hT, rfl, .int b, [.int z], rfl, .int z, [], rfl, rfl, ?_⟩
        refine ⟨_, rfl, _, rfl, _, rfl, ab, _, b, b.toNat, rfl, rfl, LJ.hb, ?_, ?_⟩
        · unfold ixN
          have hb0 : 0 ≤ b := hb.1
          have hb1 : b < 8 := hb.2
          rw [List.length_map, HJ.1, if_pos hb0, if_pos (by omega)]
        · have est : (setAll bl ((s.due (0 + (i : Int))).take (j + 1))) = (setAll bl ((s.due (0 + (i : Int))).take j)).set b.toNat z := setAll_take hbz
          refine ⟨_, _, rfl, ?_, ?_, ?_, ?_⟩
          · rw [est, set_ints]
            exact LJ.boxes FV
          · rw [est]
            exact HJ.set _ hz
          · rw [upd_ne (fun e => hnb (.inl e))]
            exact hlJ
          · exact hpJ.keep (TupKeep.upd LJ.hb (by intro xs e; cases e))
      rintro σ' H2 ⟨w11, w12, rfl, L2', HB2, hl2, hp2⟩
      have hfull : setAll bl ((s.due (0 + (i : Int))).take vs.length) = s.boxes := by
        rw [hplen, List.take_length]
        exact hset
      rw [hfull] at L2' HB2
      -- the row
      obtain ⟨vsP, hTP, hlP, hgP⟩ := hP
      have hj : s.at_.toNat < rs.length := by have := hMs.at0; omega
      obtain ⟨v, hv, hrow⟩ := hgP s.at_.toNat rs[s.at_.toNat] (List.getElem?_eq_getElem hj)
      have er : rs.getD s.at_.toNat .stop = rs[s.at_.toNat] := by rw [List.getD_eq_getElem?_getD, List.getElem?_eq_getElem hj]; rfl
      have hro : (rs[s.at_.toNat]).ok rs.length := hok _ (List.getElem_mem hj)
      generalize rs[s.at_.toNat] = r at hrow er hro
      obtain ⟨ra, rfl, hrT⟩ := hrow
      refine ⟨_, rfl, _, rfl, ap, _, _, .ref ra, rfl, rfl, same_tup L2'.same hTP, at_of (j := s.at_.toNat) (by have := hMs.at0; omega) hv, ?_⟩
      refine ⟨_, rfl, _, rfl, .ref ra, r, am, ms, rfl, ⟨ra, rfl, same_tup L2'.same hrT⟩, same_tup L2'.same hM, hMo, fun H3 sm3 => ?_⟩
      have L3 := L2'.sm sm3
      refine ⟨_, rfl, _, _, rfl, rfl, _, rfl, ?_⟩
      refine ifs_cut (fun σ' H' => σ' = [some (.ref ap), some (.ref am), some (.ref ac), some (.int fuel), some (.ref ab), some (.ref asd), some (.int s.at_), some (.str "long"), some (.ref ad), some (.ref ag), some (.int (0 + (i : Int))), w11, w12, some (.ref ra), some (.int (lateI ms r))] ∧
          LAt H H' ab ac asd ad ag (i + 1) s.boxes (mid ms (0 + (i : Int)) r s)) (fun e D' _ k' => ?_) (fun e D' _ k' => ?_) ?_
      · have hx : r.lix.isSome = true := by
          have e' : (0 : Int) ≤ lateI ms r := of_decide_eq_true e
          unfold lateI at e'
          cases q : r.lix with
          | some x => rfl
          | none =>
            rw [q] at e'
            exact absurd (show (0 : Int) ≤ -1 from e') (by decide)
        obtain ⟨b, hb⟩ : ∃ b, r.box = some b := Option.isSome_iff_exists.mp (by rw [r.box_lix]; exact hx)
        obtain ⟨kv3, hkv3, hdue3, hkl3⟩ := L3.kv
        have h1 : atI r.vals 1 = some (.int b) := by
          rw [r.vals_eq]
          refine atI_nat (j := 1) ?_
          show (r.args.map V.int)[0]? = some (.int b)
          rw [List.getElem?_map, Rw.box_at hb]
          rfl
        refine ⟨_, rfl, ad, rfl, .inl ⟨kv3, .inl hkv3⟩, _, rfl, _, rfl, _, _, rfl, rfl, _, _, rfl, rfl, by show 0 ≤ sizeLine; decide, fun q1 hq1 => ?_⟩
        obtain ⟨l3, vs3, hget3, hnb3, hll3, hps3⟩ := L3.get hkv3 hq1 (0 + (i : Int) + lateI ms r + 1)
        have L4 := L3.new (o := .lst []) hq1
        have hkv4 := same_new hq1 (.lst []) _ _ hkv3
        refine ⟨_, DGet.k (k := Sum.inl (0 + (i : Int) + lateI ms r + 1)) hkv4, _, rfl, ra, _, _, .int b, rfl, rfl, same_tup L4.same hrT, h1, ?_⟩
        refine ⟨_, rfl, _, rfl, _, rfl, .ref ra, r, rs.length, ab, ac, s.boxes, s.cells, rfl, ⟨ra, rfl, same_tup L4.same hrT⟩, hx, hro, L4.hb, L4.hc, hMs.boxes, hMs.cells, fun H5 sm5 => ?_⟩
        have L5 := L4.sm sm5
        refine ⟨by show 2 ≤ sizeLine; decide, fun T hT => ⟨by show 1 ≤ sizeLine; decide, fun q2 hq2 => ?_⟩⟩
        have L6 := (L5.new (o := .tup [.int b, .int (worthOf s.boxes s.cells r)]) hT).new (o := .lst [.ref T]) hq2
        have sm6 := (same_new hT (.tup [.int b, .int (worthOf s.boxes s.cells r)])).trans (same_new hq2 (.lst [.ref T]))
        have hvl : vs3.length ≤ i := by rw [hps3.length]; exact LI.dl _
        refine ⟨l3, q2, vs3, [.ref T], hget3, rfl, sm6 _ _ (sm5 _ _ hll3), upd_same, small (by show vs3.length + 1 ≤ 1000; omega), fun pn hpn => ?_⟩
        have L7 := L6.new (o := .lst (vs3 ++ [.ref T])) hpn
        have sm7 := same_new hpn (.lst (vs3 ++ [.ref T]))
        have hkv7 := sm7 _ _ (sm6 _ _ (sm5 _ _ hkv4))
        have hT7 := sm7 _ _ ((same_new hq2 (.lst [.ref T])) _ _ (upd_same (H := H5) (a := T) (o := .tup [.int b, .int (worthOf s.boxes s.cells r)])))
        have hp7 : PairsAt _ (vs3 ++ [.ref T]) (s.due (0 + (i : Int) + lateI ms r + 1) ++ [(b, worthOf s.boxes s.cells r)]) := (((hps3.keep (Same.tups sm5)).keep (Same.tups sm6)).keep (Same.tups sm7)).snoc hT7
        have hnbp : ¬ Bad ab ac asd pn := by
          rintro (q | q | q)
          · rw [q, L6.hb] at hpn; cases hpn
          · rw [q, L6.hc] at hpn; cases hpn
          · rw [q, L6.hs] at hpn; cases hpn
        refine ⟨_, rfl, _, rfl, _, rfl, _, _, rfl, rfl, _, _, rfl, rfl, ad, _, rfl, DPut.k (k := Sum.inl (0 + (i : Int) + lateI ms r + 1)) hkv7 (small1000 (by omega)), ?_⟩
        refine k' _ _ ⟨rfl, ?_⟩
        rw [mid_worth hb]
        refine L7.worth FV hkv7 hnbp upd_same hp7 ?_
        rw [List.length_append]
        exact Nat.succ_le_succ (LI.dl _)
      · have hx : r.box = none := by
          have e' : ¬ (0 : Int) ≤ lateI ms r := of_decide_eq_false e
          unfold lateI at e'
          have hbl := r.box_lix
          cases q : r.lix with
          | some x =>
            rw [q] at e'
            exact absurd (Int.natCast_nonneg _) e'
          | none =>
            rw [q] at hbl
            cases hq : r.box with
            | none => rfl
            | some b => rw [hq] at hbl; cases hbl
        have hT3 := same_tup L3.same hrT
        have h0 : atI r.vals 0 = some (.str r.word) := by rw [r.vals_eq]; exact atI_nat (j := 0) rfl
        rw [mid_none hx] at k'
        refine ⟨_, rfl, ra, _, _, _, rfl, rfl, hT3, h0, rfl, _, rfl, ?_⟩
        have hj3 : atI (ms.map V.int) 3 = some (.int (jumpOf ms)) := by
          obtain ⟨p, g, t, j, rfl, _⟩ := hMo
          rfl
        obtain ⟨gs3, hgs3, hgo3, hgl3⟩ := L3.gv
        have hM3 : SqT K H3 am (ms.map V.int) := same_tup L3.same hM
        cases r with
        | put b n => cases hx
        | move b n => cases hx
        | add b n m => cases hx
        | take b n m => cases hx
        | times b n m => cases hx
        | get b n => cases hx
        | set c d =>
          refine if_t (by show decide (V.str "set" = V.str "set") = true; decide +kernel) ?_
          refine ⟨_, rfl, _, rfl, ra, _, _, .int d, rfl, rfl, hT3, atI_nat (j := 2) rfl, ab, _, _, _, rfl, rfl, SqL.of L3.hb, box_at hMs.boxes hro.2, _, rfl, _, rfl, _, rfl, ra, _, _, .int c, rfl, rfl, hT3, atI_nat (j := 1) rfl, ab, _, _, _, rfl, rfl, SqL.of L3.hb, box_at hMs.boxes hro.1, _, _, rfl, rfl, (by show (0 : Int) < 16; decide), ac, _, _, (bx s.boxes c % 16).toNat, rfl, rfl, L3.hc, ?_, ?_⟩
          · have h16 := mod16 (bx s.boxes c)
            show ixN (s.cells.map V.int).length (bx s.boxes c % 16) = _
            unfold ixN
            rw [List.length_map, hMs.cells.1, if_pos h16.1, if_pos (by omega)]
          · rw [set_ints]
            exact k' _ _ ⟨rfl, (L3.cells FV).more (Nat.le_succ _)⟩
        | say c =>
          refine if_f (by show decide (V.str "say" = V.str "set") = false; decide +kernel) ⟨_, rfl, ra, _, _, _, rfl, rfl, hT3, h0, rfl, _, rfl, if_t (by show decide (V.str "say" = V.str "say") = true; decide +kernel) ?_⟩
          refine ⟨_, rfl, .inl ⟨rfl, _, SqL.of L3.hs⟩, _, rfl, _, rfl, ra, _, _, .int c, rfl, rfl, hT3, atI_nat (j := 1) rfl, ab, _, _, _, rfl, rfl, SqL.of L3.hb, box_at hMs.boxes hro, asd, _, _, rfl, rfl, L3.hs, small1000 (by rw [List.length_map]; have := L3.hl; omega), ?_⟩
          have em : s.said.map V.int ++ [V.int (bx s.boxes c)] = (s.said ++ [bx s.boxes c]).map V.int := by
            rw [List.map_append]
            rfl
          rw [em]
          refine k' _ _ ⟨rfl, (L3.more (Nat.le_succ _)).says FV ?_⟩
          rw [List.length_append]
          exact Nat.succ_le_succ L3.hl
        | rest =>
          refine if_f (by show decide (V.str "rest" = V.str "set") = false; decide +kernel) ⟨_, rfl, ra, _, _, _, rfl, rfl, hT3, h0, rfl, _, rfl, if_f (by show decide (V.str "rest" = V.str "say") = false; decide +kernel) ⟨_, rfl, ra, _, _, _, rfl, rfl, hT3, h0, rfl, _, rfl, if_f (by show decide (V.str "rest" = V.str "go") = false; decide +kernel) ⟨_, rfl, ra, _, _, _, rfl, rfl, hT3, h0, rfl, _, rfl, if_f (by show decide (V.str "rest" = V.str "if") = false; decide +kernel) (iteF ?_)⟩⟩⟩
          exact k' _ _ ⟨rfl, L3.more (Nat.le_succ _)⟩
        | stop =>
          refine if_f (by show decide (V.str "stop" = V.str "set") = false; decide +kernel) ⟨_, rfl, ra, _, _, _, rfl, rfl, hT3, h0, rfl, _, rfl, if_f (by show decide (V.str "stop" = V.str "say") = false; decide +kernel) ⟨_, rfl, ra, _, _, _, rfl, rfl, hT3, h0, rfl, _, rfl, if_f (by show decide (V.str "stop" = V.str "go") = false; decide +kernel) ⟨_, rfl, ra, _, _, _, rfl, rfl, hT3, h0, rfl, _, rfl, if_f (by show decide (V.str "stop" = V.str "if") = false; decide +kernel) (iteF ?_)⟩⟩⟩
          exact k' _ _ ⟨rfl, L3.more (Nat.le_succ _)⟩
        | go q =>
          refine if_f (by show decide (V.str "go" = V.str "set") = false; decide +kernel) ⟨_, rfl, ra, _, _, _, rfl, rfl, hT3, h0, rfl, _, rfl, if_f (by show decide (V.str "go" = V.str "say") = false; decide +kernel) ⟨_, rfl, ra, _, _, _, rfl, rfl, hT3, h0, rfl, _, rfl, if_t (by show decide (V.str "go" = V.str "go") = true; decide +kernel) (iteT ?_)⟩⟩
          refine ⟨_, rfl, 1, rfl, ra, _, _, .int q, rfl, rfl, hT3, rfl, _, rfl, _, rfl, _, rfl, am, _, _, _, rfl, rfl, hM3, hj3, _, _, rfl, rfl, _, _, rfl, rfl, ag, _, rfl, DPut.k (k := Sum.inl (0 + (i : Int) + jumpOf ms + 1)) hgs3 (small1000 (by omega)), ?_⟩
          exact k' _ _ ⟨rfl, L3.going FV hgs3⟩
        | iff c q =>
          refine if_f (by show decide (V.str "if" = V.str "set") = false; decide +kernel) ⟨_, rfl, ra, _, _, _, rfl, rfl, hT3, h0, rfl, _, rfl, if_f (by show decide (V.str "if" = V.str "say") = false; decide +kernel) ⟨_, rfl, ra, _, _, _, rfl, rfl, hT3, h0, rfl, _, rfl, if_f (by show decide (V.str "if" = V.str "go") = false; decide +kernel) ⟨_, rfl, ra, _, _, _, rfl, rfl, hT3, h0, rfl, _, rfl, if_t (by show decide (V.str "if" = V.str "if") = true; decide +kernel) ?_⟩⟩⟩
          refine ⟨_, rfl, _, rfl, ra, _, _, .int c, rfl, rfl, hT3, atI_nat (j := 1) rfl, ab, _, _, _, rfl, rfl, SqL.of L3.hb, box_at hMs.boxes hro.1, _, _, rfl, rfl, _, rfl, ?_⟩
          by_cases hz : bx s.boxes c = 0
          · have e0 : decide (bx s.boxes c > 0) = false := decide_eq_false (by omega)
            refine if_f e0 ?_
            have eg : goes1 ms (0 + (i : Int)) (.iff c q) s = s.goes := by
              have eq0 : goal s (.iff c q) = none := if_pos hz
              unfold goes1
              rw [eq0]
            rw [eg] at k'
            exact k' _ _ ⟨rfl, L3.more (Nat.le_succ _)⟩
          · have hn := (hMs.boxes.bx hro.1).1.1
            have e0 : decide (bx s.boxes c > 0) = true := decide_eq_true (by omega)
            refine if_t e0 ?_
            refine ⟨_, rfl, 1, rfl, ra, _, _, .int q, rfl, rfl, hT3, rfl, _, rfl, _, rfl, _, rfl, am, _, _, _, rfl, rfl, hM3, hj3, _, _, rfl, rfl, _, _, rfl, rfl, ag, _, rfl, DPut.k (k := Sum.inl (0 + (i : Int) + jumpOf ms + 1)) hgs3 (small1000 (by omega)), ?_⟩
            have eg : goes1 ms (0 + (i : Int)) (.iff c q) s = fun j => if j = 0 + (i : Int) + jumpOf ms + 1 then some q else s.goes j := by
              have eq0 : goal s (.iff c q) = some q := if_neg hz
              unfold goes1
              rw [eq0]
            rw [eg] at k'
            exact k' _ _ ⟨rfl, L3.going FV hgs3⟩
      · rintro σ' H4 ⟨rfl, L4⟩
        have hT4 := same_tup L4.same hrT
        have h0 : atI r.vals 0 = some (.str r.word) := by rw [r.vals_eq]; exact atI_nat (j := 0) rfl
        obtain ⟨gs4, hgs4, hgo4, hgl4⟩ := L4.gv
        refine ⟨_, rfl, ag, rfl, .inl ⟨gs4, .inl hgs4⟩, _, rfl, _, _, rfl, rfl, _, rfl, _, _, rfl, rfl, _, DGet.k (k := Sum.inl (0 + (i : Int) + 1)) hgs4, ?_⟩
        rw [goes_get hgo4]
        have eat : ((mid ms (0 + (i : Int)) r s).goes (0 + (i : Int) + 1)).getD (s.at_ + 1) = (step ms (0 + (i : Int)) r s).at_ := rfl
        rw [eat]
        have efu : fuel - i = (fuel - (i + 1)) + 1 := by omega
        rw [efu, runM_succ, er] at hrun
        have hMs' := step_ok (ms := ms) (t := 0 + (i : Int)) hMs hro hat
        have LS : LAt H H4 ab ac asd ad ag (i + 1) s.boxes (step ms (0 + (i : Int)) r s) := ⟨L4.same, L4.hb, L4.hc, L4.hs, L4.hl, L4.kv, L4.gv, L4.dl⟩
        refine ⟨_, rfl, ra, _, _, _, rfl, rfl, hT4, h0, rfl, _, rfl, ?_⟩
        have sd := stops_dec r
        cases hst : r.stops with
        | true =>
          rw [hst] at sd hrun
          rw [if_pos rfl] at hrun
          refine if_t sd (iteT ?_)
          refine ⟨_, rfl, ra, _, _, _, rfl, rfl, hT4, h0, rfl, _, rfl, if_t sd ?_⟩
          refine ⟨_, rfl, _, rfl, _, rfl, _, _, rfl, rfl, _, rfl, by show 4 ≤ sizeLine; decide, fun T hT => ?_⟩
          have sT := same_new hT (.tup [.ref asd, .str "stop", .int (0 + (i : Int) + 1), .ref ac])
          refine k T _ (L4.same.trans sT) ?_
          rw [← hrun]
          exact ⟨asd, ac, upd_same, sT _ _ L4.hs, sT _ _ L4.hc, FV.s0, FV.c0, L4.same.free hT, FV.cs.symm⟩
        | false =>
          rw [hst] at sd hrun
          rw [if_neg (by decide)] at hrun
          refine if_f sd ?_
          refine ⟨_, rfl, _, rfl, ap, _, rfl, .inr (same_tup L4.same hTP), rfl, _, rfl, ?_⟩
          by_cases hend : (step ms (0 + (i : Int)) r s).at_ = (rs.length : Int)
          · rw [if_pos hend] at hrun
            have e1 : decide (V.int (step ms (0 + (i : Int)) r s).at_ = V.int (vsP.length : Int)) = true := decide_eq_true (by rw [hend, hlP])
            refine if_t e1 ?_
            refine ⟨_, rfl, ra, _, _, _, rfl, rfl, hT4, h0, rfl, _, rfl, if_f sd ?_⟩
            refine ⟨_, rfl, _, rfl, _, rfl, _, _, rfl, rfl, _, rfl, by show 4 ≤ sizeLine; decide, fun T hT => ?_⟩
            have sT := same_new hT (.tup [.ref asd, .str "end", .int (0 + (i : Int) + 1), .ref ac])
            refine k T _ (L4.same.trans sT) ?_
            rw [← hrun]
            exact ⟨asd, ac, upd_same, sT _ _ L4.hs, sT _ _ L4.hc, FV.s0, FV.c0, L4.same.free hT, FV.cs.symm⟩
          · rw [if_neg hend] at hrun
            have e1 : decide (V.int (step ms (0 + (i : Int)) r s).at_ = V.int (vsP.length : Int)) = false := decide_eq_false fun q => by
              injection q with q
              exact hend (by rw [q, hlP])
            refine if_f e1 ?_
            have et : (0 : Int) + ((i + 1 : Nat) : Int) = 0 + (i : Int) + 1 := by omega
            refine ⟨step ms (0 + (i : Int)) r s, s.boxes, _, _, _, _, _, rfl, LS, hMs.boxes, ?_, hMs', by have := hMs'.at1; omega, ?_⟩
            · rw [et]
              rfl
            · rw [et]
              exact hrun
    · rintro σ H1 ⟨s, bl, v10, v11, v12, v13, v14, rfl, LI, Hbl, hset, hMs, hat, hrun⟩
      rw [Int.toNat_natCast, Nat.sub_self] at hrun
      refine ⟨_, rfl, _, rfl, _, rfl, _, rfl, by show 4 ≤ sizeLine; decide, fun T hT => ?_⟩
      have sT := same_new hT (.tup [.ref asd, .str "long", .int (fuel : Int), .ref ac])
      refine k T _ (LI.same.trans sT) ?_
      rw [← hrun]
      refine ⟨asd, ac, ?_, sT _ _ LI.hs, sT _ _ LI.hc, FV.s0, FV.c0, LI.same.free hT, FV.cs.symm⟩
      show _ = some (HO.tup [.ref asd, .str "long", .int (0 + (fuel : Int)), .ref ac])
      rw [Int.zero_add]
      exact upd_same
end
end LB
namespace LB
open PySem L2
/-- the machine's attributes -/
def mf (m lb lc ls : Addr) (t at_ : Int) (st : Bool) (dw dg : Addr) : List (Str × V) := [("mill", .ref m), ("boxes", .ref lb), ("cells", .ref lc), ("said", .ref ls), ("beat", .int t), ("at", .int at_), ("stopped", .bl st), ("worths", .ref dw), ("goings", .ref dg)]
section
variable {m lb lc ls : Addr} {t at_ : Int} {st : Bool} {dw dg : Addr}
theorem mf_mill : (mf m lb lc ls t at_ st dw dg).lookup ("mill" : Str) = some (.ref m) := rfl
theorem mf_boxes : (mf m lb lc ls t at_ st dw dg).lookup ("boxes" : Str) = some (.ref lb) := rfl
theorem mf_cells : (mf m lb lc ls t at_ st dw dg).lookup ("cells" : Str) = some (.ref lc) := rfl
theorem mf_said : (mf m lb lc ls t at_ st dw dg).lookup ("said" : Str) = some (.ref ls) := rfl
theorem mf_beat : (mf m lb lc ls t at_ st dw dg).lookup ("beat" : Str) = some (.int t) := rfl
theorem mf_at : (mf m lb lc ls t at_ st dw dg).lookup ("at" : Str) = some (.int at_) := rfl
theorem mf_stopped : (mf m lb lc ls t at_ st dw dg).lookup ("stopped" : Str) = some (.bl st) := rfl
theorem mf_worths : (mf m lb lc ls t at_ st dw dg).lookup ("worths" : Str) = some (.ref dw) := rfl
theorem mf_goings : (mf m lb lc ls t at_ st dw dg).lookup ("goings" : Str) = some (.ref dg) := rfl
theorem mf_pbeat (x : Int) : putF "beat" (.int x) (mf m lb lc ls t at_ st dw dg) = mf m lb lc ls x at_ st dw dg := by rfl
theorem mf_pat (x : Int) : putF "at" (.int x) (mf m lb lc ls t at_ st dw dg) = mf m lb lc ls t x st dw dg := by rfl
theorem mf_pstop (x : Bool) : putF "stopped" (.bl x) (mf m lb lc ls t at_ st dw dg) = mf m lb lc ls t at_ x dw dg := by rfl
theorem mf_len : (mf m lb lc ls t at_ st dw dg).length = 9 := rfl
end
/-- what is due and done is forgotten -/
def cut (t : Int) (f : Int → List (Int × Int)) : Int → List (Int × Int) := fun k => if k ≤ t then [] else f k
def cutg (t : Int) (g : Int → Option Int) : Int → Option Int := fun k => if k ≤ t then none else g k
structure Six (H0 : Hp) (p lb lc ls dw dg : Addr) : Prop where
  p0 : H0 p = none
  b0 : H0 lb = none
  c0 : H0 lc = none
  s0 : H0 ls = none
  d0 : H0 dw = none
  g0 : H0 dg = none
  bc : lb ≠ lc
  bs : lb ≠ ls
  cs : lc ≠ ls
  dg' : dw ≠ dg
abbrev Bad6 (H0 : Hp) (lb lc ls : Addr) : Addr → Prop := fun l => Bad lb lc ls l ∨ H0 l ≠ none
def Inj (kvs : List (Key × V)) : Prop := ∀ (k j : Int) (l : Addr), valV kvs (Sum.inl k) = some (.ref l) → valV kvs (Sum.inl j) = some (.ref l) → k = j
structure MAt (C am : Addr) (H0 H : Hp) (p lb lc ls dw dg : Addr) (t : Int) (n : Nat) (s : Ms) (st : Bool) : Prop where
  same : Same H0 H
  ob : ∃ dx, H p = some (.ins C dx (mf am lb lc ls t s.at_ st dw dg))
  hb : H lb = some (.lst (s.boxes.map V.int))
  hc : H lc = some (.lst (s.cells.map V.int))
  hs : H ls = some (.lst (s.said.map V.int))
  hl : s.said.length ≤ n
  kv : ∃ kvs, H dw = some (.dK kvs) ∧ DueAt H kvs (cut t s.due) (Bad6 H0 lb lc ls) ∧ Inj kvs ∧ kvs.length ≤ n
  gv : ∃ gs, H dg = some (.dK gs) ∧ GoesAt gs (cutg t s.goes) ∧ gs.length ≤ n
  dl : ∀ k, (s.due k).length ≤ n
theorem valV_drop (kvs : List (Key × V)) (k j : Key) : valV (dropK kvs k) j = if j = k then none else valV kvs j := by
  induction kvs with
  | nil => by_cases e : j = k <;> simp [dropK, valV_nil, e]
  | cons p r ih =>
    by_cases hp : p.1 = k
    · have e1 : dropK (p :: r) k = dropK r k := by simp [dropK, hp]
      rw [e1, ih]
      by_cases e : j = k
      · rw [if_pos e, if_pos e]
      · rw [if_neg e, if_neg e, valV_neg (fun q => e (by rw [← q, hp]))]
    · have e1 : dropK (p :: r) k = p :: dropK r k := by simp [dropK, hp]
      rw [e1]
      by_cases e2 : p.1 = j
      · rw [valV_pos e2, valV_pos e2, if_neg (fun q => hp (by rw [e2, q]))]
      · rw [valV_neg e2, valV_neg e2, ih]
theorem Inj.drop {kvs : List (Key × V)} (h : Inj kvs) (k : Key) : Inj (dropK kvs k) := by
  intro a b l e1 e2
  rw [valV_drop] at e1 e2
  split at e1
  · cases e1
  · split at e2
    · cases e2
    · exact h a b l e1 e2
theorem Inj.put {kvs : List (Key × V)} (h : Inj kvs) {k : Int} {l : Addr} (hn : ∀ j, valV kvs (Sum.inl j) ≠ some (.ref l)) : Inj (putK kvs (Sum.inl k) (.ref l)) := by
  intro a b x e1 e2
  rw [valV_put] at e1 e2
  split at e1
  · rename_i ea
    cases e1
    split at e2
    · rename_i eb
      exact (Sum.inl.inj ea).trans (Sum.inl.inj eb).symm
    · exact absurd e2 (hn b)
  · split at e2
    · cases e2
      exact absurd e1 (hn a)
    · exact h a b x e1 e2
theorem cut_next (t : Int) (f : Int → List (Int × Int)) (k : Int) : cut (t + 1) f k = if k = t + 1 then [] else cut t f k := by
  unfold cut
  by_cases h1 : k ≤ t
  · rw [if_pos (by omega), if_neg (by omega), if_pos h1]
  · by_cases h2 : k = t + 1
    · rw [if_pos (by omega), if_pos h2]
    · rw [if_neg (by omega), if_neg h2, if_neg h1]
theorem cutg_next (t : Int) (g : Int → Option Int) (k : Int) : cutg (t + 1) g k = if k = t + 1 then none else cutg t g k := by
  unfold cutg
  by_cases h1 : k ≤ t
  · rw [if_pos (by omega), if_neg (by omega), if_pos h1]
  · by_cases h2 : k = t + 1
    · rw [if_pos (by omega), if_pos h2]
    · rw [if_neg (by omega), if_neg h2, if_neg h1]
section
variable {C am : Addr} {H0 H H' : Hp} {p lb lc ls dw dg : Addr} {t : Int} {n : Nat} {s : Ms} {st : Bool}
theorem ins_ne {a b C dx : Addr} {fs : List (Str × V)} {o : HO} (h1 : H a = some (.ins C dx fs)) (h2 : H b = some o) (n : ∀ C dx fs, o ≠ .ins C dx fs) : a ≠ b := fun e => by
  rw [e, h2] at h1
  exact n _ _ _ (Option.some.inj h1)
theorem MAt.sm (h : MAt C am H0 H p lb lc ls dw dg t n s st) (sm : Same H H') : MAt C am H0 H' p lb lc ls dw dg t n s st := by
  obtain ⟨dx, o⟩ := h.ob
  obtain ⟨kvs, k1, k2, k3, k4⟩ := h.kv
  obtain ⟨gs, g1, g2, g3⟩ := h.gv
  exact ⟨h.same.trans sm, ⟨dx, sm _ _ o⟩, sm _ _ h.hb, sm _ _ h.hc, sm _ _ h.hs, h.hl, ⟨kvs, sm _ _ k1, k2.keep (fun l vs _ e => sm _ _ e) (Same.tups sm), k3, k4⟩, ⟨gs, sm _ _ g1, g2, g3⟩, h.dl⟩
theorem MAt.new {x : Addr} {o : HO} (h : MAt C am H0 H p lb lc ls dw dg t n s st) (hx : H x = none) : MAt C am H0 (upd H x o) p lb lc ls dw dg t n s st := h.sm (same_new hx o)
theorem MAt.more {m : Nat} (h : MAt C am H0 H p lb lc ls dw dg t n s st) (hm : n ≤ m) : MAt C am H0 H p lb lc ls dw dg t m s st := by
  obtain ⟨kvs, k1, k2, k3, k4⟩ := h.kv
  obtain ⟨gs, g1, g2, g3⟩ := h.gv
  exact ⟨h.same, h.ob, h.hb, h.hc, h.hs, Nat.le_trans h.hl hm, ⟨kvs, k1, k2, k3, Nat.le_trans k4 hm⟩, ⟨gs, g1, g2, Nat.le_trans g3 hm⟩, fun k => Nat.le_trans (h.dl k) hm⟩
/-- the attributes change -/
theorem MAt.attr {t' at' : Int} {st' : Bool} {dx : Addr} (F : Six H0 p lb lc ls dw dg) (h : MAt C am H0 H p lb lc ls dw dg t n s st) (ho : H p = some (.ins C dx (mf am lb lc ls t s.at_ st dw dg)))
    (hk : ∀ kvs, DueAt H kvs (cut t s.due) (Bad6 H0 lb lc ls) → H dw = some (.dK kvs) → DueAt H kvs (cut t' s.due) (Bad6 H0 lb lc ls)) (hg : ∀ gs, GoesAt gs (cutg t s.goes) → H dg = some (.dK gs) → GoesAt gs (cutg t' s.goes)) :
    MAt C am H0 (upd H p (.ins C dx (mf am lb lc ls t' at' st' dw dg))) p lb lc ls dw dg t' n { s with at_ := at' } st' := by
  obtain ⟨kvs, k1, k2, k3, k4⟩ := h.kv
  obtain ⟨gs, g1, g2, g3⟩ := h.gv
  have ne : ∀ {a : Addr} {o : HO}, H a = some o → (∀ C dx fs, o ≠ .ins C dx fs) → a ≠ p := fun e n => (ins_ne ho e n).symm
  refine ⟨same_over h.same F.p0, ⟨dx, upd_same⟩, ?_, ?_, ?_, h.hl, ⟨kvs, ?_, ?_, k3, k4⟩, ⟨gs, ?_, hg gs g2 g1, g3⟩, h.dl⟩
  · rw [upd_ne (ne h.hb (by intro _ _ _ e; cases e))]; exact h.hb
  · rw [upd_ne (ne h.hc (by intro _ _ _ e; cases e))]; exact h.hc
  · rw [upd_ne (ne h.hs (by intro _ _ _ e; cases e))]; exact h.hs
  · rw [upd_ne (ne k1 (by intro _ _ _ e; cases e))]; exact k1
  · exact (hk kvs k2 k1).keep (fun l vs _ e => by rw [upd_ne (ne e (by intro _ _ _ e; cases e))]; exact e) (TupKeep.upd ho (by intro xs e; cases e))
  · rw [upd_ne (ne g1 (by intro _ _ _ e; cases e))]; exact g1
theorem lst_ne_ins {a : Addr} {xs : List V} {dx : Addr} {fs : List (Str × V)} (h1 : H a = some (.lst xs)) (h2 : H p = some (.ins C dx fs)) : p ≠ a := ins_ne h2 h1 (by intro _ _ _ e; cases e)
theorem dk_ne_ins {a : Addr} {xs : List (Key × V)} {dx : Addr} {fs : List (Str × V)} (h1 : H a = some (.dK xs)) (h2 : H p = some (.ins C dx fs)) : p ≠ a := ins_ne h2 h1 (by intro _ _ _ e; cases e)
theorem MAt.boxes {bl' : List Int} (F : Six H0 p lb lc ls dw dg) (h : MAt C am H0 H p lb lc ls dw dg t n s st) : MAt C am H0 (upd H lb (.lst (bl'.map V.int))) p lb lc ls dw dg t n { s with boxes := bl' } st := by
  obtain ⟨dx, o⟩ := h.ob
  obtain ⟨kvs, k1, k2, k3, k4⟩ := h.kv
  obtain ⟨gs, g1, g2, g3⟩ := h.gv
  exact ⟨same_over h.same F.b0, ⟨dx, by rw [upd_ne (lst_ne_ins h.hb o)]; exact o⟩, upd_same, by rw [upd_ne F.bc.symm]; exact h.hc, by rw [upd_ne F.bs.symm]; exact h.hs, h.hl, ⟨kvs, by rw [upd_ne (kind_ne h.hb k1).symm]; exact k1, due_list k2 h.hb (.inl (.inl rfl)), k3, k4⟩,
    ⟨gs, by rw [upd_ne (kind_ne h.hb g1).symm]; exact g1, g2, g3⟩, h.dl⟩
theorem MAt.cells {cs' : List Int} (F : Six H0 p lb lc ls dw dg) (h : MAt C am H0 H p lb lc ls dw dg t n s st) : MAt C am H0 (upd H lc (.lst (cs'.map V.int))) p lb lc ls dw dg t n { s with cells := cs' } st := by
  obtain ⟨dx, o⟩ := h.ob
  obtain ⟨kvs, k1, k2, k3, k4⟩ := h.kv
  obtain ⟨gs, g1, g2, g3⟩ := h.gv
  exact ⟨same_over h.same F.c0, ⟨dx, by rw [upd_ne (lst_ne_ins h.hc o)]; exact o⟩, by rw [upd_ne F.bc]; exact h.hb, upd_same, by rw [upd_ne F.cs.symm]; exact h.hs, h.hl, ⟨kvs, by rw [upd_ne (kind_ne h.hc k1).symm]; exact k1, due_list k2 h.hc (.inl (.inr (.inl rfl))), k3, k4⟩,
    ⟨gs, by rw [upd_ne (kind_ne h.hc g1).symm]; exact g1, g2, g3⟩, h.dl⟩
theorem MAt.says {ss : List Int} (F : Six H0 p lb lc ls dw dg) (h : MAt C am H0 H p lb lc ls dw dg t n s st) (hl : ss.length ≤ n) : MAt C am H0 (upd H ls (.lst (ss.map V.int))) p lb lc ls dw dg t n { s with said := ss } st := by
  obtain ⟨dx, o⟩ := h.ob
  obtain ⟨kvs, k1, k2, k3, k4⟩ := h.kv
  obtain ⟨gs, g1, g2, g3⟩ := h.gv
  exact ⟨same_over h.same F.s0, ⟨dx, by rw [upd_ne (lst_ne_ins h.hs o)]; exact o⟩, by rw [upd_ne F.bs]; exact h.hb, by rw [upd_ne F.cs]; exact h.hc, upd_same, hl, ⟨kvs, by rw [upd_ne (kind_ne h.hs k1).symm]; exact k1, due_list k2 h.hs (.inl (.inr (.inr rfl))), k3, k4⟩,
    ⟨gs, by rw [upd_ne (kind_ne h.hs g1).symm]; exact g1, g2, g3⟩, h.dl⟩
theorem MAt.going {k q : Int} (F : Six H0 p lb lc ls dw dg) (h : MAt C am H0 H p lb lc ls dw dg t n s st) (hk : t < k) {gs : List (Key × V)} (hg : H dg = some (.dK gs)) :
    MAt C am H0 (upd H dg (.dK (putK gs (Sum.inl k) (.int q)))) p lb lc ls dw dg t (n + 1) { s with goes := fun j => if j = k then some q else s.goes j } st := by
  obtain ⟨dx, o⟩ := h.ob
  obtain ⟨kvs, k1, k2, k3, k4⟩ := h.kv
  obtain ⟨gs', g1, g2, g3⟩ := h.gv
  rw [hg] at g1
  cases g1
  refine ⟨same_over h.same F.g0, ⟨dx, by rw [upd_ne (dk_ne_ins hg o)]; exact o⟩, by rw [upd_ne (kind_ne h.hb hg)]; exact h.hb, by rw [upd_ne (kind_ne h.hc hg)]; exact h.hc, by rw [upd_ne (kind_ne h.hs hg)]; exact h.hs, Nat.le_succ_of_le h.hl, ⟨kvs, by rw [upd_ne F.dg']; exact k1, ?_, k3, Nat.le_succ_of_le k4⟩, ⟨_, upd_same, ?_, ?_⟩, fun k => Nat.le_succ_of_le (h.dl k)⟩
  · exact k2.keep (fun l vs _ e => by rw [upd_ne (kind_ne e hg)]; exact e) (TupKeep.upd hg (by intro xs e; cases e))
  · have e1 : cutg t (fun j => if j = k then some q else s.goes j) = fun j => if j = k then some q else cutg t s.goes j := by
      funext j
      unfold cutg
      by_cases h1 : j ≤ t
      · rw [if_pos h1, if_neg (by omega), if_pos h1]
      · rw [if_neg h1, if_neg h1]
    show GoesAt _ (cutg t (fun j => if j = k then some q else s.goes j))
    rw [e1]
    exact g2.put k q
  · exact Nat.le_trans (put_len _ _ _) (Nat.succ_le_succ g3)
/-- the list at a key, made where none is -/
theorem MAt.slot {q0 : Addr} {key : Int} {kvs : List (Key × V)} (F : Six H0 p lb lc ls dw dg) (h : MAt C am H0 H p lb lc ls dw dg t n s st) (hk : H dw = some (.dK kvs)) (hq : H q0 = none) (hv : valV kvs (Sum.inl key) = none) (ht : t < key) :
    MAt C am H0 (upd (upd H q0 (.lst [])) dw (.dK (putK kvs (Sum.inl key) (.ref q0)))) p lb lc ls dw dg t (n + 1) s st ∧ s.due key = [] ∧ ¬ Bad6 H0 lb lc ls q0 := by
  have h1 := h.new (o := .lst []) hq
  have sm := same_new hq (.lst [])
  obtain ⟨dx, o⟩ := h1.ob
  obtain ⟨kvs', k1, k2, k3, k4⟩ := h.kv
  obtain ⟨gs, g1, g2, g3⟩ := h1.gv
  rw [hk] at k1
  cases k1
  have hk1 := sm _ _ hk
  have nb : ¬ Bad6 H0 lb lc ls q0 := by
    rintro ((e | e | e) | e)
    · rw [e, h.hb] at hq; cases hq
    · rw [e, h.hc] at hq; cases hq
    · rw [e, h.hs] at hq; cases hq
    · exact e (h.same.free hq)
  have e0 : s.due key = [] := by
    rcases k2 key with ⟨_, e⟩ | ⟨l, vs, e, _⟩
    · unfold cut at e
      rw [if_neg (by omega)] at e
      exact e
    · rw [hv] at e; cases e
  refine ⟨⟨same_over h1.same F.d0, ⟨dx, by rw [upd_ne (dk_ne_ins hk1 o)]; exact o⟩, by rw [upd_ne (kind_ne h1.hb hk1)]; exact h1.hb, by rw [upd_ne (kind_ne h1.hc hk1)]; exact h1.hc, by rw [upd_ne (kind_ne h1.hs hk1)]; exact h1.hs, Nat.le_succ_of_le h.hl, ⟨_, upd_same, ?_, ?_, ?_⟩,
    ⟨gs, by rw [upd_ne F.dg'.symm]; exact g1, g2, Nat.le_succ_of_le g3⟩, fun k => Nat.le_succ_of_le (h.dl k)⟩, e0, nb⟩
  · have d1 : DueAt (upd H q0 (.lst [])) kvs (cut t s.due) (Bad6 H0 lb lc ls) := k2.keep (fun l vs _ e => sm _ _ e) (Same.tups sm)
    have d2 := (d1.put (k := key) nb upd_same .nil).keep (H' := upd (upd H q0 (.lst [])) dw (.dK (putK kvs (Sum.inl key) (.ref q0)))) (fun l vs _ e => by rw [upd_ne (kind_ne e hk1)]; exact e) (TupKeep.upd hk1 (by intro xs e; cases e))
    have e1 : (fun j => if j = key then [] else cut t s.due j) = cut t s.due := by
      funext j
      by_cases q : j = key
      · rw [if_pos q, q]
        unfold cut
        rw [if_neg (by omega), e0]
      · rw [if_neg q]
    rw [e1] at d2
    exact d2
  · refine k3.put fun j e => ?_
    rcases k2 j with ⟨e', _⟩ | ⟨l, vs, e', _, e3, _⟩
    · rw [e] at e'; cases e'
    · rw [e] at e'
      cases e'
      rw [hq] at e3
      cases e3
  · exact Nat.le_trans (put_len _ _ _) (Nat.succ_le_succ k4)
theorem MAt.append {T l : Addr} {key b z : Int} {kvs : List (Key × V)} {vs : List V} (F : Six H0 p lb lc ls dw dg) (h : MAt C am H0 H p lb lc ls dw dg t n s st) (hk : H dw = some (.dK kvs)) (hv : valV kvs (Sum.inl key) = some (.ref l)) (nb : ¬ Bad6 H0 lb lc ls l)
    (hl : H l = some (.lst vs)) (hp : PairsAt H (vs ++ [.ref T]) (s.due key ++ [(b, z)])) (ht : t < key) (hlen : (s.due key).length + 1 ≤ n) :
    MAt C am H0 (upd H l (.lst (vs ++ [.ref T]))) p lb lc ls dw dg t n { s with due := fun j => if j = key then s.due key ++ [(b, z)] else s.due j } st := by
  obtain ⟨dx, o⟩ := h.ob
  obtain ⟨kvs', k1, k2, k3, k4⟩ := h.kv
  obtain ⟨gs, g1, g2, g3⟩ := h.gv
  rw [hk] at k1
  cases k1
  have l0 : H0 l = none := by
    cases q : H0 l with
    | none => rfl
    | some u => exact absurd (.inr (by rw [q]; intro e; cases e)) nb
  have n1 : l ≠ lb := fun e => nb (.inl (.inl e))
  have n2 : l ≠ lc := fun e => nb (.inl (.inr (.inl e)))
  have n3 : l ≠ ls := fun e => nb (.inl (.inr (.inr e)))
  have tk : TupKeep H (upd H l (.lst (vs ++ [.ref T]))) := TupKeep.upd hl (by intro xs e; cases e)
  refine ⟨same_over h.same l0, ⟨dx, by rw [upd_ne (lst_ne_ins hl o)]; exact o⟩, by rw [upd_ne n1.symm]; exact h.hb, by rw [upd_ne n2.symm]; exact h.hc, by rw [upd_ne n3.symm]; exact h.hs, h.hl, ⟨kvs, by rw [upd_ne (kind_ne hl hk).symm]; exact hk, ?_, k3, k4⟩,
    ⟨gs, by rw [upd_ne (kind_ne hl g1).symm]; exact g1, g2, g3⟩, fun j => ?_⟩
  · intro j
    show (_ ∧ (if j ≤ t then [] else if j = key then s.due key ++ [(b, z)] else s.due j) = []) ∨ ∃ x ws, _ ∧ _ ∧ _ ∧ PairsAt _ ws (if j ≤ t then [] else if j = key then s.due key ++ [(b, z)] else s.due j)
    by_cases q : j = key
    · rw [if_neg (by omega), if_pos q]
      exact .inr ⟨l, _, by rw [q]; exact hv, nb, upd_same, hp.keep tk⟩
    · rcases k2 j with ⟨e1, e2⟩ | ⟨x, ws, e1, e2, e3, e4⟩
      · refine .inl ⟨e1, ?_⟩
        unfold cut at e2
        rw [if_neg q]
        exact e2
      · have nx : x ≠ l := fun e => q (k3 j key l (by rw [← e]; exact e1) hv)
        refine .inr ⟨x, ws, e1, e2, by rw [upd_ne nx]; exact e3, ?_⟩
        unfold cut at e4
        rw [if_neg q]
        exact e4.keep tk
  · show (if j = key then s.due key ++ [(b, z)] else s.due j).length ≤ n
    split
    · rw [List.length_append]
      exact hlen
    · exact h.dl j
end
end LB
namespace LB
open PySem L2
/-- the machine's class as the top has made it -/
structure Mc (K : PySem.W.Frag) (mg : Str → Option Value) (C : Addr) : Prop where
  cl : Cls K C
  nMill : NoAttr K C "mill"
  nBoxes : NoAttr K C "boxes"
  nCells : NoAttr K C "cells"
  nSaid : NoAttr K C "said"
  nBeat : NoAttr K C "beat"
  nAt : NoAttr K C "at"
  nStopped : NoAttr K C "stopped"
  nWorths : NoAttr K C "worths"
  nGoings : NoAttr K C "goings"
  mgC : mg "Machine" = some (.ref C)
/-- a method as its callers see it -/
structure CalM (P : Program) (w : World) (K : PySem.W.Frag) (mg : Str → Option Value) (base : Heap) (C : Addr) (k : Nat) (m : Str) (ps : List Str) (sp : Sp) : Prop where
  ex : ∃ (f : Addr) (fd : FuncData), FnOk P w K mg base CX0 k f fd ps sp ∧ Meth K C m f ∧ Binds K fd ps []
section
variable {P : Program} {w : World} {K : PySem.W.Frag} {mg : Str → Option Value} {base : Heap} {C : Addr}
def spCellOf (C am : Addr) : Sp := fun vs H Q _ => ∃ (H0 : Hp) (p lb lc ls dw dg : Addr) (t : Int) (n : Nat) (s : Ms) (st : Bool) (b : Int), vs = [.ref p, .int b] ∧ MAt C am H0 H p lb lc ls dw dg t n s st ∧ Held 8 s.boxes ∧ Bx b ∧ Q (.int (bx s.boxes b % 16)) H
theorem scCellOf : FnScope ["self", "box"] ["self", "box"] (defScope sCellOf) := ⟨rfl, rfl, rfl, by decide +kernel, rfl, by decide +kernel, by decide +kernel⟩
theorem ok_cellOf {am f : Addr} {fd : FuncData} (F : Fun K "cell_of" "Machine.cell_of" sCellOf f fd) (M : Mc K mg C) (gC : GC mg) : FnOk P w K mg base CX0 1 f fd ["self", "box"] (spCellOf C am) := by
  refine F.ok scCellOf (fun vs H Q E h => ?_) (fun cdv A outer s H vs Q E hr h => ?_)
  · obtain ⟨H0, p, lb, lc, ls, dw, dg, t, n, s, st, b, rfl, _⟩ := h
    rfl
  · obtain ⟨H0, p, lb, lc, ls, dw, dg, t, n, s, st, b, rfl, hM, Hb, hb, k⟩ := h
    obtain ⟨dx, ho⟩ := hM.ob
    refine ⟨_, (pss_one (ps_ret (pe_op op_mod (pe_ix ix_list (pe_fld (pv 0) rfl) (pv 1) (fun _ _ => rfl)) (pe_gint gC)))), ?_⟩
    exact ⟨_, rfl, p, C, dx, _, _, rfl, ho, M.cl, M.nBoxes, mf_boxes, _, rfl, lb, _, _, _, rfl, rfl, SqL.of hM.hb, box_at Hb hb, _, _, rfl, rfl, (by show (0 : Int) < 16; decide), k⟩
def reck (u : Str) (x y : Int) : Int := (if u = "add" then x + y else if u = "take" then x - y else x * y) % 1000
def spReck : Sp := fun vs H Q _ => ∃ (u : Str) (x y : Int), vs = [.str u, .int x, .int y] ∧ N3 x ∧ N3 y ∧ Q (.int (reck u x y)) H
theorem scReck : FnScope ["word", "one", "other", "worth"] ["word", "one", "other"] (defScope sReck) := ⟨rfl, rfl, rfl, by decide +kernel, rfl, by decide +kernel, by decide +kernel⟩
theorem ok_reck {f dS dL tM : Addr} {fd : FuncData} (F : Fun K "reckoned" "reckoned" sReck f fd) (G : Gs K w mg dS dL tM) : FnOk P w K mg base CX0 1 f fd ["word", "one", "other"] spReck := by
  refine F.ok scReck (fun vs H Q E h => ?_) (fun cdv A outer s H vs Q E hr h => ?_)
  · obtain ⟨u, x, y, rfl, _⟩ := h
    rfl
  · obtain ⟨u, x, y, rfl, hx, hy, k⟩ := h
    refine ⟨_, (pss_cons (ps_if (pt_cmpR op_eq (pv 0) pe_str (nomark _)) (pss_one (ps_set (i := 3) scReck.nd rfl (Or.inl rfl) (pe_op op_add (pv 1) (pv 2)))) (pss_one (ps_if (pt_cmpR op_eq (pv 0) pe_str (nomark _)) (pss_one (ps_set (i := 3) scReck.nd rfl (Or.inl rfl) (pe_op op_sub (pv 1) (pv 2)))) (pss_one (ps_set (i := 3) scReck.nd rfl (Or.inl rfl) (pe_op op_mul (pv 1) (pv 2))))))) (pss_one (ps_ret (pe_op op_mod (pv 3) (pe_op op_add (pe_gint G.held) pe_int))))), ?_⟩
    unfold reck at k
    refine ⟨_, rfl, rfl, _, rfl, ?_⟩
    refine ifs_cut (fun σ' H' => H' = H ∧ σ' = [some (.str u), some (.int x), some (.int y), some (.int (if u = "add" then x + y else if u = "take" then x - y else x * y))]) (fun e D' _ k' => ?_) (fun e D' _ k' => ?_) ?_
    · have e' : u = "add" := by have := of_decide_eq_true e; injection this
      rw [if_pos e'] at k'
      exact ⟨_, rfl, _, rfl, _, _, rfl, rfl, k' _ _ ⟨rfl, rfl⟩⟩
    · have e' : ¬ u = "add" := fun z => of_decide_eq_false e (congrArg V.str z)
      rw [if_neg e'] at k'
      refine ⟨_, rfl, rfl, _, rfl, if_both (fun e2 => ?_) (fun e2 => ?_)⟩
      · have e2' : u = "take" := by have := of_decide_eq_true e2; injection this
        rw [if_pos e2'] at k'
        exact ⟨_, rfl, _, rfl, _, _, rfl, rfl, k' _ _ ⟨rfl, rfl⟩⟩
      · have e2' : ¬ u = "take" := fun z => of_decide_eq_false e2 (congrArg V.str z)
        rw [if_neg e2'] at k'
        exact ⟨_, rfl, _, rfl, _, _, rfl, rfl, .inl (n3_lt hx), k' _ _ ⟨rfl, rfl⟩⟩
    · rintro σ' H' ⟨rfl, rfl⟩
      exact ⟨_, rfl, _, _, rfl, rfl, _, _, rfl, rfl, (by show (0 : Int) < 1000; decide), k⟩
def spWorth (K : PySem.W.Frag) (C am : Addr) : Sp := fun vs H Q _ => ∃ (H0 : Hp) (p lb lc ls dw dg : Addr) (t : Int) (n : Nat) (s : Ms) (st : Bool) (v : V) (r : Rw) (many : Int), vs = [.ref p, v] ∧ MAt C am H0 H p lb lc ls dw dg t n s st ∧ Held 8 s.boxes ∧ Held 16 s.cells ∧ RowAt K H v r ∧ r.lix.isSome = true ∧ r.ok many ∧ Q (.int (worthOf s.boxes s.cells r)) H
theorem scWorth : FnScope ["self", "row", "word"] ["self", "row"] (defScope sWorth) := ⟨rfl, rfl, rfl, by decide +kernel, rfl, by decide +kernel, by decide +kernel⟩
theorem ok_worth {am f : Addr} {fd : FuncData} (F : Fun K "worth" "Machine.worth" sWorth f fd) (M : Mc K mg C) (CC : CalM P w K mg base C 1 "cell_of" ["self", "box"] (spCellOf C am)) (R : Cal P w K mg base 1 "reckoned" ["word", "one", "other"] spReck) : FnOk P w K mg base CX0 2 f fd ["self", "row"] (spWorth K C am) := by
  obtain ⟨fC, fdC, GC, mC, bC⟩ := CC.ex
  refine F.ok scWorth (fun vs H Q E h => ?_) (fun cdv A outer s H vs Q E hr h => ?_)
  · obtain ⟨H0, p, lb, lc, ls, dw, dg, t, n, s, st, v, r, many, rfl, _⟩ := h
    rfl
  · obtain ⟨H0, p, lb, lc, ls, dw, dg, t, n, s, st, v, r, many, rfl, hM, Hb, Hc, ⟨a, rfl, hT⟩, hx, hok, k⟩ := h
    obtain ⟨dx, ho⟩ := hM.ob
    refine ⟨_, (pss_cons (ps_set (i := 2) scWorth.nd rfl (Or.inl rfl) (pe_ix ix_tup (pv 1) pe_int (fun _ _ => rfl))) (pss_cons (ps_if (pt_cmpR op_eq (pv 2) pe_str (nomark _)) (pss_one (ps_ret (pe_ix ix_tup (pv 1) pe_int (fun _ _ => rfl)))) pss_nil) (pss_cons (ps_if (pt_cmpR op_eq (pv 2) pe_str (nomark _)) (pss_one (ps_ret (pe_ix ix_list (pe_fld (pv 0) rfl) (pe_ix ix_tup (pv 1) pe_int (fun _ _ => rfl)) (fun _ _ => rfl)))) pss_nil) (pss_cons (ps_if (pt_cmpR op_eq (pv 2) pe_str (nomark _)) (pss_one (ps_ret (pe_ix ix_list (pe_fld (pv 0) rfl) (pe_meth (pv 0) M.cl mC GC hr bC .nil pass0 (pa_cons (pe_ix ix_tup (pv 1) pe_int (fun _ _ => rfl)) pa_nil)) (fun _ _ => rfl)))) pss_nil) (pss_one (ps_ret (pe_cal R hr (pa_cons (pv 2) (pa_cons (pe_ix ix_list (pe_fld (pv 0) rfl) (pe_ix ix_tup (pv 1) pe_int (fun _ _ => rfl)) (fun _ _ => rfl)) (pa_cons (pe_ix ix_list (pe_fld (pv 0) rfl) (pe_ix ix_tup (pv 1) pe_int (fun _ _ => rfl)) (fun _ _ => rfl)) pa_nil)))))))))), ?_⟩
    have h0 : atI r.vals 0 = some (.str r.word) := by rw [r.vals_eq]; exact atI_nat (j := 0) rfl
    refine ⟨_, rfl, a, _, _, _, rfl, rfl, hT, h0, _, rfl, rfl, _, rfl, ?_⟩
    have no : (mf am lb lc ls t s.at_ st dw dg).lookup ("cell_of" : Str) = none := rfl
    have three : ∀ u : Str, u = "add" ∨ u = "take" ∨ u = "times" → decide (V.str u = V.str "put") = false ∧ decide (V.str u = V.str "move") = false ∧ decide (V.str u = V.str "get") = false := by
      rintro u (rfl | rfl | rfl) <;> exact ⟨by decide +kernel, by decide +kernel, by decide +kernel⟩
    have cls : (∃ b n, r = .put b n) ∨ (∃ b c, r = .move b c) ∨ (∃ b c, r = .get b c) ∨ ∃ (u : Str) (b c d : Int), r.vals = [.str u, .int b, .int c, .int d] ∧ r.word = u ∧ Bx c ∧ Bx d ∧ (u = "add" ∨ u = "take" ∨ u = "times") ∧ reck u (bx s.boxes c) (bx s.boxes d) = worthOf s.boxes s.cells r := by
      cases r with
      | put b n => exact .inl ⟨_, _, rfl⟩
      | move b c => exact .inr (.inl ⟨_, _, rfl⟩)
      | get b c => exact .inr (.inr (.inl ⟨_, _, rfl⟩))
      | add b c d =>
        refine .inr (.inr (.inr ⟨"add", b, c, d, rfl, rfl, hok.2.1, hok.2.2, .inl rfl, ?_⟩))
        unfold reck
        rw [if_pos rfl]
        rfl
      | take b c d =>
        refine .inr (.inr (.inr ⟨"take", b, c, d, rfl, rfl, hok.2.1, hok.2.2, .inr (.inl rfl), ?_⟩))
        unfold reck
        rw [if_neg (by decide +kernel), if_pos rfl]
        rfl
      | times b c d =>
        refine .inr (.inr (.inr ⟨"times", b, c, d, rfl, rfl, hok.2.1, hok.2.2, .inr (.inr rfl), ?_⟩))
        unfold reck
        rw [if_neg (by decide +kernel), if_neg (by decide +kernel)]
        rfl
      | _ => cases hx
    have f1 : decide (V.str "put" = V.str "put") = true := by decide +kernel
    have f2 : decide (V.str "move" = V.str "put") = false := by decide +kernel
    have f3 : decide (V.str "move" = V.str "move") = true := by decide +kernel
    have f4 : decide (V.str "get" = V.str "put") = false := by decide +kernel
    have f5 : decide (V.str "get" = V.str "move") = false := by decide +kernel
    have f6 : decide (V.str "get" = V.str "get") = true := by decide +kernel
    rcases cls with ⟨b, n, rfl⟩ | ⟨b, c, rfl⟩ | ⟨b, c, rfl⟩ | ⟨u, b, c, d, hv, hw, hc, hd, hu, hrk⟩
    · exact if_t f1 ⟨_, rfl, a, _, _, .int n, rfl, rfl, hT, atI_nat (j := 2) rfl, k⟩
    · refine if_f f2 ⟨_, rfl, rfl, _, rfl, if_t f3 ?_⟩
      exact ⟨_, rfl, p, C, dx, _, _, rfl, ho, M.cl, M.nBoxes, mf_boxes, _, rfl, a, _, _, .int c, rfl, rfl, hT, atI_nat (j := 2) rfl, lb, _, _, _, rfl, rfl, SqL.of hM.hb, box_at Hb hok.2, k⟩
    · refine if_f f4 ⟨_, rfl, rfl, _, rfl, if_f f5 ⟨_, rfl, rfl, _, rfl, if_t f6 ?_⟩⟩
      exact ⟨_, rfl, p, C, dx, _, _, rfl, ho, M.cl, M.nCells, mf_cells, _, rfl, p, dx, _, rfl, ho, no, _, rfl, a, _, _, .int c, rfl, rfl, hT, atI_nat (j := 2) rfl,
        H0, p, lb, lc, ls, dw, dg, t, _, s, st, c, rfl, hM, Hb, hok.2, lc, _, _, _, rfl, rfl, SqL.of hM.hc, cell_at Hc _, k⟩
    · obtain ⟨g1, g2, g3⟩ := three u hu
      rw [hw]
      refine if_f g1 ⟨_, rfl, rfl, _, rfl, if_f g2 ⟨_, rfl, rfl, _, rfl, if_f g3 ?_⟩⟩
      rw [hv] at hT
      refine ⟨_, rfl, _, rfl, p, C, dx, _, _, rfl, ho, M.cl, M.nBoxes, mf_boxes, _, rfl, a, _, _, .int c, rfl, rfl, hT, atI_nat (j := 2) rfl, lb, _, _, _, rfl, rfl, SqL.of hM.hb, box_at Hb hc,
        _, rfl, p, C, dx, _, _, rfl, ho, M.cl, M.nBoxes, mf_boxes, _, rfl, a, _, _, .int d, rfl, rfl, hT, atI_nat (j := 3) rfl, lb, _, _, _, rfl, rfl, SqL.of hM.hb, box_at Hb hd, u, _, _, rfl, (Hb.bx hc).1, (Hb.bx hd).1, ?_⟩
      rw [hrk]
      exact k
def spSend (C am : Addr) : Sp := fun vs H Q _ => ∃ (H0 : Hp) (p lb lc ls dw dg : Addr) (t : Int) (n : Nat) (s : Ms) (st : Bool) (b z key : Int), vs = [.ref p, .int b, .int z, .int key] ∧ Six H0 p lb lc ls dw dg ∧ MAt C am H0 H p lb lc ls dw dg t n s st ∧ t < key ∧ n ≤ 2000 ∧
  ∀ H', MAt C am H0 H' p lb lc ls dw dg t (n + 1) { s with due := fun j => if j = key then s.due key ++ [(b, z)] else s.due j } st → Q .non H'
theorem scSend : FnScope ["self", "box", "worth", "beat"] ["self", "box", "worth", "beat"] (defScope sSend) := ⟨rfl, rfl, rfl, by decide +kernel, rfl, by decide +kernel, by decide +kernel⟩
theorem small2 {n : Nat} (h : n ≤ 5000) : n < sizeLine := Nat.lt_of_le_of_lt h (by decide)
theorem ok_send {am f : Addr} {fd : FuncData} (F : Fun K "send" "Machine.send" sSend f fd) (M : Mc K mg C) : FnOk P w K mg base CX0 1 f fd ["self", "box", "worth", "beat"] (spSend C am) := by
  refine F.ok scSend (fun vs H Q E h => ?_) (fun cdv A outer s H vs Q E hr h => ?_)
  · obtain ⟨H0, p, lb, lc, ls, dw, dg, t, n, s, st, b, z, key, rfl, _⟩ := h
    rfl
  · obtain ⟨H0, p, lb, lc, ls, dw, dg, t, n, s, st, b, z, key, rfl, FV, hM, ht, hn, k⟩ := h
    obtain ⟨dx, ho⟩ := hM.ob
    obtain ⟨kvs, k1, k2, k3, k4⟩ := hM.kv
    refine ⟨_, (pss_one (ps_expr (pe_bm PySem.F.plainAttrs_list PySem.F.slot_list_append PySem.F.type_list_append mt_append (pe_dsetd (pe_fld (pv 0) rfl) (pv 3) (pe_lst pa_nil) ⟨by rfl, by rfl, by rfl, by rfl⟩) (pa_cons (pe_tup (pa_cons (pv 1) (pa_cons (pv 2) pa_nil))) pa_nil)))), ?_⟩
    refine ⟨_, rfl, p, C, dx, _, _, rfl, ho, M.cl, M.nWorths, mf_worths, dw, rfl, .inl ⟨kvs, .inl k1⟩, _, rfl, by show 0 ≤ sizeLine; decide, fun q0 hq0 => ?_⟩
    have sm := same_new hq0 (.lst [])
    -- the list at the key
    have go : ∀ (H4 : Hp) (kv4 : List (Key × V)) (l : Addr) (ws : List V), MAt C am H0 H4 p lb lc ls dw dg t (n + 1) s st → H4 dw = some (.dK kv4) → valV kv4 (Sum.inl key) = some (.ref l) → ¬ Bad6 H0 lb lc ls l → H4 l = some (.lst ws) → PairsAt H4 ws (s.due key) →
        ∀ T, H4 T = none → ∃ l' xs y, V.ref l = .ref l' ∧ [V.ref T] = [y] ∧ (upd H4 T (.tup [.int b, .int z])) l' = some (.lst xs) ∧ xs.length < sizeLine ∧ Q .non (upd (upd H4 T (.tup [.int b, .int z])) l' (.lst (xs ++ [y]))) := by
      intro H4 kv4 l ws h4 hk4 hv4 nb hl hp T hT
      have s4 := same_new hT (.tup [.int b, .int z])
      have h5 := h4.new (o := .tup [.int b, .int z]) hT
      have hp5 : PairsAt _ (ws ++ [.ref T]) (s.due key ++ [(b, z)]) := (hp.keep (Same.tups s4)).snoc upd_same
      have hdl := hM.dl key
      have hpl := hp.length
      exact ⟨l, ws, .ref T, rfl, rfl, s4 _ _ hl, small2 (by omega), k _ (h5.append FV (s4 _ _ hk4) hv4 nb (s4 _ _ hl) hp5 ht (Nat.succ_le_succ hdl))⟩
    refine ⟨kvs, Sum.inl key, sm _ _ k1, rfl, small2 (by omega), fun v hv => ?_, fun hv => ?_⟩
    · rcases k2 key with ⟨e, _⟩ | ⟨l, ws, e1, e2, e3, e4⟩
      · rw [e] at hv; cases hv
      · rw [e1] at hv
        cases hv
        have e4' : PairsAt H ws (s.due key) := by
          unfold cut at e4
          rw [if_neg (by omega)] at e4
          exact e4
        refine ⟨.inl ⟨rfl, _, SqL.of (sm _ _ e3)⟩, _, rfl, _, rfl, by show 2 ≤ sizeLine; decide, fun T hT => ?_⟩
        exact go _ kvs l ws ((hM.new hq0).more (Nat.le_succ _)) (sm _ _ k1) e1 e2 (sm _ _ e3) (e4'.keep (Same.tups sm)) T hT
    · obtain ⟨h4, e0, nb⟩ := hM.slot FV k1 hq0 hv ht
      have nq : q0 ≠ dw := fun e => by rw [e, k1] at hq0; cases hq0
      have hl4 : (upd (upd H q0 (.lst [])) dw (.dK (putK kvs (Sum.inl key) (.ref q0)))) q0 = some (.lst []) := by rw [upd_ne nq, upd_same]
      refine ⟨.inl ⟨rfl, _, SqL.of hl4⟩, _, rfl, _, rfl, by show 2 ≤ sizeLine; decide, fun T hT => ?_⟩
      exact go _ _ q0 [] h4 upd_same (by rw [valV_put, if_pos rfl]) nb hl4 (by rw [e0]; exact .nil) T hT
end
end LB
namespace LB
open PySem L2
theorem upd_id {H : Hp} {a : Addr} {o : HO} (h : H a = some o) : upd H a o = H := by
  funext b
  by_cases e : b = a
  · rw [e, upd_same, h]
  · rw [upd_ne e]
theorem upd_upd {H : Hp} {a : Addr} {o o' : HO} : upd (upd H a o) a o' = upd H a o' := by
  funext b
  by_cases e : b = a
  · rw [e, upd_same, upd_same]
  · rw [upd_ne e, upd_ne e, upd_ne e]
theorem drop_none {kvs : List (Key × V)} {k : Key} (h : valV kvs k = none) : dropK kvs k = kvs := by
  induction kvs with
  | nil => rfl
  | cons p r ih =>
    by_cases e : p.1 = k
    · rw [valV_pos e] at h; cases h
    · rw [valV_neg e] at h
      have q : dropK (p :: r) k = p :: dropK r k := by simp [dropK, e]
      rw [q, ih h]
theorem MAt.begun {C am : Addr} {H0 H Hf : Hp} {p lb lc ls dw dg dx : Addr} {t at' : Int} {n : Nat} {s : Ms} {st : Bool} {bl' : List Int} {kvs gs : List (Key × V)} (h : MAt C am H0 H p lb lc ls dw dg t n s st) (sm : Same H0 Hf)
    (ho : Hf p = some (.ins C dx (mf am lb lc ls (t + 1) at' st dw dg))) (hb : Hf lb = some (.lst (bl'.map V.int))) (hc : Hf lc = some (.lst (s.cells.map V.int))) (hs : Hf ls = some (.lst (s.said.map V.int)))
    (k1 : H dw = some (.dK kvs)) (hk : Hf dw = some (.dK (dropK kvs (Sum.inl (t + 1))))) (g1 : H dg = some (.dK gs)) (hg : Hf dg = some (.dK (dropK gs (Sum.inl (t + 1))))) (kl : ∀ l vs, ¬ Bad6 H0 lb lc ls l → H l = some (.lst vs) → Hf l = some (.lst vs)) (tk : TupKeep H Hf) :
    MAt C am H0 Hf p lb lc ls dw dg (t + 1) n { s with boxes := bl', at_ := at' } st := by
  obtain ⟨kvs', k1', k2, k3, k4⟩ := h.kv
  rw [k1] at k1'
  cases k1'
  obtain ⟨gs', g1', g2, g3⟩ := h.gv
  rw [g1] at g1'
  cases g1'
  refine ⟨sm, ⟨dx, ho⟩, hb, hc, hs, h.hl, ⟨_, hk, ?_, k3.drop _, Nat.le_trans (dropK_le _ _) k4⟩, ⟨_, hg, ?_, Nat.le_trans (dropK_le _ _) g3⟩, h.dl⟩
  · intro j
    show (valV (dropK kvs (Sum.inl (t + 1))) (Sum.inl j) = none ∧ cut (t + 1) s.due j = []) ∨ ∃ l vs, valV (dropK kvs (Sum.inl (t + 1))) (Sum.inl j) = some (.ref l) ∧ _ ∧ _ ∧ PairsAt Hf vs (cut (t + 1) s.due j)
    rw [cut_next, valV_drop]
    by_cases e : j = t + 1
    · exact .inl ⟨if_pos (by rw [e]), if_pos e⟩
    · rw [if_neg (fun q => e (Sum.inl.inj q)), if_neg e]
      exact (k2.keep kl tk) j
  · intro j
    show valV (dropK gs (Sum.inl (t + 1))) (Sum.inl j) = (cutg (t + 1) s.goes j).map V.int
    rw [cutg_next, valV_drop]
    by_cases e : j = t + 1
    · rw [if_pos (by rw [e]), if_pos e]
      rfl
    · rw [if_neg (fun q => e (Sum.inl.inj q)), if_neg e]
      exact g2 j
section
variable {P : Program} {w : World} {K : PySem.W.Frag} {mg : Str → Option Value} {base : Heap} {C : Addr}
def spBegin (C am : Addr) : Sp := fun vs H Q _ => ∃ (H0 : Hp) (p lb lc ls dw dg : Addr) (t : Int) (n : Nat) (s : Ms) (st : Bool), vs = [.ref p] ∧ Six H0 p lb lc ls dw dg ∧ MAt C am H0 H p lb lc ls dw dg t n s st ∧ Held 8 s.boxes ∧ (∀ q, q ∈ s.due (t + 1) → Bx q.1 ∧ N3 q.2) ∧
  ∀ H', MAt C am H0 H' p lb lc ls dw dg (t + 1) n { s with boxes := setAll s.boxes (s.due (t + 1)), at_ := (s.goes (t + 1)).getD (s.at_ + 1) } st → Q .non H'
theorem scBegin : FnScope ["self", "come", "box", "worth"] ["self"] (defScope sBegin) := ⟨rfl, rfl, rfl, by decide +kernel, rfl, by decide +kernel, by decide +kernel⟩
theorem ok_begin {am f : Addr} {fd : FuncData} (F : Fun K "begin_beat" "Machine.begin_beat" sBegin f fd) (M : Mc K mg C) : FnOk P w K mg base CX0 1 f fd ["self"] (spBegin C am) := by
  refine F.ok scBegin (fun vs H Q E h => ?_) (fun cdv A outer s H vs Q E hr h => ?_)
  · obtain ⟨H0, p, lb, lc, ls, dw, dg, t, n, s, st, rfl, _⟩ := h
    rfl
  · obtain ⟨H0, p, lb, lc, ls, dw, dg, t, n, s, st, rfl, FV, hM, Hb, hdue, k⟩ := h
    obtain ⟨dx, ho⟩ := hM.ob
    obtain ⟨kvs, k1, k2, k3, k4⟩ := hM.kv
    obtain ⟨gs, g1, g2, g3⟩ := hM.gv
    have nls : p ≠ lb := lst_ne_ins hM.hb ho
    have nlc : p ≠ lc := lst_ne_ins hM.hc ho
    have nlsd : p ≠ ls := lst_ne_ins hM.hs ho
    have ndw : p ≠ dw := dk_ne_ins k1 ho
    have ndg : p ≠ dg := dk_ne_ins g1 ho
    refine ⟨_, (pss_cons (ps_fldaug (pv 0) pe_int in_add) (pss_cons (ps_set (i := 1) scBegin.nd rfl (Or.inl rfl) (pe_dpop2 (pe_fld (pv 0) rfl) (pe_fld (pv 0) rfl) (pe_lst pa_nil) ⟨by rfl, by rfl, by rfl, by rfl⟩)) (pss_cons (ps_for PassesOwn.never rfl (pi_list (pv 1)) (pg_tup rfl (pgs_cons (pg_name (i := 2) scBegin.nd rfl (Or.inl rfl)) (pgs_cons (pg_name (i := 3) scBegin.nd rfl (Or.inl rfl)) pgs_nil))) (pss_one (ps_asg (pv 3) (pg_sub (pe_fld (pv 0) rfl) (pv 2) set_list)))) (pss_one (ps_fld (pv 0) (pe_dpop2 (pe_fld (pv 0) rfl) (pe_fld (pv 0) rfl) (pe_op op_add (pe_fld (pv 0) rfl) pe_int) ⟨by rfl, by rfl, by rfl, by rfl⟩) rfl))))), ?_⟩
    refine ⟨_, rfl, p, C, dx, _, _, rfl, ho, M.cl, M.nBeat, mf_beat, _, _, rfl, rfl, dx, _, ho, by rw [mf_len]; decide, ?_⟩
    rw [mf_pbeat]
    -- H1: the beat is the next one
    have o1 : (upd H p (.ins C dx (mf am lb lc ls (t + 1) s.at_ st dw dg))) p = some (.ins C dx (mf am lb lc ls (t + 1) s.at_ st dw dg)) := upd_same
    have d1 : (upd H p (.ins C dx (mf am lb lc ls (t + 1) s.at_ st dw dg))) dw = some (.dK kvs) := by rw [upd_ne ndw.symm]; exact k1
    refine ⟨_, rfl, p, C, dx, _, _, rfl, o1, M.cl, M.nWorths, mf_worths, dw, rfl, .inl ⟨kvs, .inl d1⟩, _, rfl, p, C, dx, _, _, rfl, o1, M.cl, M.nBeat, mf_beat, by show 0 ≤ sizeLine; decide, fun q0 hq0 => ?_⟩
    have sq := same_new hq0 (.lst [])
    have nqp : q0 ≠ p := fun e => by rw [e, o1] at hq0; cases hq0
    have hq : H q0 = none := by rw [upd_ne nqp] at hq0; exact hq0
    have d2 := sq _ _ d1
    -- what comes
    have come : ∃ l vs, ((∃ v, valV kvs (Sum.inl (t + 1)) = some v) → valV kvs (Sum.inl (t + 1)) = some (.ref l)) ∧ (valV kvs (Sum.inl (t + 1)) = none → l = q0) ∧ (upd (upd H p (.ins C dx (mf am lb lc ls (t + 1) s.at_ st dw dg))) q0 (.lst [])) l = some (.lst vs) ∧
        PairsAt (upd (upd H p (.ins C dx (mf am lb lc ls (t + 1) s.at_ st dw dg))) q0 (.lst [])) vs (s.due (t + 1)) ∧ l ≠ lb := by
      have ec : cut t s.due (t + 1) = s.due (t + 1) := by unfold cut; rw [if_neg (by omega)]
      have tk1 : TupKeep H (upd (upd H p (.ins C dx (mf am lb lc ls (t + 1) s.at_ st dw dg))) q0 (.lst [])) := (TupKeep.upd ho (by intro xs e; cases e)).trans (Same.tups sq)
      rcases k2 (t + 1) with ⟨e1, e2⟩ | ⟨l, vs, e1, e2, e3, e4⟩
      · rw [ec] at e2
        refine ⟨q0, [], fun ⟨v, hv⟩ => (by rw [e1] at hv; cases hv), fun _ => rfl, upd_same, by rw [e2]; exact .nil, fun e => ?_⟩
        rw [e, hM.hb] at hq
        cases hq
      · rw [ec] at e4
        refine ⟨l, vs, fun _ => e1, fun hv => (by rw [e1] at hv; cases hv), ?_, e4.keep tk1, fun e => e2 (.inl (.inl e))⟩
        exact sq _ _ (by rw [upd_ne (lst_ne_ins e3 ho).symm]; exact e3)
    obtain ⟨l, vs, hl1, hl2, hl3, hl4, hl5⟩ := come
    -- H2: it is taken out
    have nqw : q0 ≠ dw := fun e => by rw [e, k1] at hq; cases hq
    have nlw : l ≠ dw := kind_ne hl3 d2
    have h2 : ∀ Q' : V → Hp → Prop, Q' (.ref l) (upd (upd (upd H p (.ins C dx (mf am lb lc ls (t + 1) s.at_ st dw dg))) q0 (.lst [])) dw (.dK (dropK kvs (Sum.inl (t + 1))))) →
        (∀ v, valV kvs (Sum.inl (t + 1)) = some v → Q' v (upd (upd (upd H p (.ins C dx (mf am lb lc ls (t + 1) s.at_ st dw dg))) q0 (.lst [])) dw (.dK (dropK kvs (Sum.inl (t + 1)))))) ∧ (valV kvs (Sum.inl (t + 1)) = none → Q' (.ref q0) (upd (upd H p (.ins C dx (mf am lb lc ls (t + 1) s.at_ st dw dg))) q0 (.lst []))) := by
      intro Q' q
      refine ⟨fun v hv => ?_, fun hv => ?_⟩
      · have e := hl1 ⟨v, hv⟩
        rw [e] at hv
        cases hv
        exact q
      · rw [hl2 hv, drop_none hv, upd_id d2] at q
        exact q
    refine ⟨kvs, Sum.inl (t + 1), d2, rfl, h2 _ ?_⟩
    -- the boxes
    have hlb1 : (upd (upd H p (.ins C dx (mf am lb lc ls (t + 1) s.at_ st dw dg))) q0 (.lst [])) lb = some (.lst (s.boxes.map V.int)) := sq _ _ (by rw [upd_ne nls.symm]; exact hM.hb)
    have nbw : lb ≠ dw := kind_ne hM.hb k1
    have hlb2 : (upd (upd (upd H p (.ins C dx (mf am lb lc ls (t + 1) s.at_ st dw dg))) q0 (.lst [])) dw (.dK (dropK kvs (Sum.inl (t + 1))))) lb = some (.lst (s.boxes.map V.int)) := by rw [upd_ne nbw]; exact hlb1
    have hll2 : (upd (upd (upd H p (.ins C dx (mf am lb lc ls (t + 1) s.at_ st dw dg))) q0 (.lst [])) dw (.dK (dropK kvs (Sum.inl (t + 1))))) l = some (.lst vs) := by rw [upd_ne nlw]; exact hl3
    have hpr2 : PairsAt (upd (upd (upd H p (.ins C dx (mf am lb lc ls (t + 1) s.at_ st dw dg))) q0 (.lst [])) dw (.dK (dropK kvs (Sum.inl (t + 1))))) vs (s.due (t + 1)) := hl4.keep (TupKeep.upd d2 (by intro xs e; cases e))
    have ho2 : (upd (upd (upd H p (.ins C dx (mf am lb lc ls (t + 1) s.at_ st dw dg))) q0 (.lst [])) dw (.dK (dropK kvs (Sum.inl (t + 1))))) p = some (.ins C dx (mf am lb lc ls (t + 1) s.at_ st dw dg)) := by rw [upd_ne ndw]; exact sq _ _ o1
    generalize hH2 : upd (upd (upd H p (.ins C dx (mf am lb lc ls (t + 1) s.at_ st dw dg))) q0 (.lst [])) dw (.dK (dropK kvs (Sum.inl (t + 1)))) = H2 at hlb2 hll2 hpr2 ho2
    refine ⟨_, rfl, l, rfl, ⟨_, SqL.of hll2⟩, for_list (K := K) (a := l) (xs := vs) (fun j σ' H' => ∃ v2 v3 : Option V, σ' = [some (.ref p), some (.ref l), v2, v3] ∧ Held 8 (setAll s.boxes ((s.due (t + 1)).take j)) ∧ H' = upd H2 lb (.lst ((setAll s.boxes ((s.due (t + 1)).take j)).map V.int)))
      ⟨none, none, rfl, Hb, (upd_id hlb2).symm⟩ (fun j σ' H' _ ⟨_, _, _, _, e⟩ => by rw [e]; exact SqL.of (by rw [upd_ne hl5]; exact hll2)) ?_ ?_⟩
    · rintro j y σ' H' hy ⟨v2, v3, rfl, HJ, rfl⟩
      obtain ⟨T, b, z, rfl, hT, hbz⟩ := hpr2.get hy
      obtain ⟨hbx, hz⟩ := hdue _ (List.mem_of_getElem? hbz)
      have nT : T ≠ lb := fun e => by rw [e, hlb2] at hT; cases hT
      refine ⟨T, [.int b, .int z], rfl, tup_of (by rw [upd_ne nT]; exact hT), rfl, .int b, [.int z], rfl, .int z, [], rfl, rfl, ?_⟩
      have oj : (upd H2 lb (.lst ((setAll s.boxes ((s.due (t + 1)).take j)).map V.int))) p = some (.ins C dx (mf am lb lc ls (t + 1) s.at_ st dw dg)) := by rw [upd_ne nls]; exact ho2
      refine ⟨_, rfl, _, rfl, p, C, dx, _, _, rfl, oj, M.cl, M.nBoxes, mf_boxes, _, rfl, lb, _, b, b.toNat, rfl, rfl, upd_same, ?_, ?_⟩
      · unfold ixN
        have hb0 : 0 ≤ b := hbx.1
        have hb1 : b < 8 := hbx.2
        rw [List.length_map, HJ.1, if_pos hb0, if_pos (by omega)]
      · have est : (setAll s.boxes ((s.due (t + 1)).take (j + 1))) = (setAll s.boxes ((s.due (t + 1)).take j)).set b.toNat z := setAll_take hbz
        refine ⟨_, _, rfl, by rw [est]; exact HJ.set _ hz, ?_⟩
        rw [upd_upd, est, set_ints]
    rintro σ' H' ⟨v2, v3, rfl, HB, rfl⟩
    have hfull : setAll s.boxes ((s.due (t + 1)).take vs.length) = setAll s.boxes (s.due (t + 1)) := by rw [hpr2.length, List.take_length]
    rw [hfull] at HB ⊢
    -- the next row
    have nbg : lb ≠ dg := kind_ne hM.hb g1
    have g2' : H2 dg = some (.dK gs) := by
      rw [← hH2, upd_ne FV.dg'.symm]
      exact sq _ _ (by rw [upd_ne ndg.symm]; exact g1)
    have o3 : (upd H2 lb (.lst ((setAll s.boxes (s.due (t + 1))).map V.int))) p = some (.ins C dx (mf am lb lc ls (t + 1) s.at_ st dw dg)) := by rw [upd_ne nls]; exact ho2
    have g3' : (upd H2 lb (.lst ((setAll s.boxes (s.due (t + 1))).map V.int))) dg = some (.dK gs) := by rw [upd_ne nbg.symm]; exact g2'
    have egg : valV gs (Sum.inl (t + 1)) = (s.goes (t + 1)).map V.int := by
      have q := g2 (t + 1)
      unfold cutg at q
      rw [if_neg (by omega)] at q
      exact q
    refine ⟨_, rfl, p, C, dx, _, _, rfl, o3, M.cl, M.nGoings, mf_goings, dg, rfl, .inl ⟨gs, .inl g3'⟩, _, rfl, p, C, dx, _, _, rfl, o3, M.cl, M.nBeat, mf_beat, _, rfl, p, C, dx, _, _, rfl, o3, M.cl, M.nAt, mf_at, _, _, rfl, rfl, ?_⟩
    have o5 : (upd (upd H2 lb (.lst ((setAll s.boxes (s.due (t + 1))).map V.int))) dg (.dK (dropK gs (Sum.inl (t + 1))))) p = some (.ins C dx (mf am lb lc ls (t + 1) s.at_ st dw dg)) := by rw [upd_ne ndg]; exact o3
    have fin : Q .non (upd (upd (upd H2 lb (.lst ((setAll s.boxes (s.due (t + 1))).map V.int))) dg (.dK (dropK gs (Sum.inl (t + 1))))) p (.ins C dx (mf am lb lc ls (t + 1) ((s.goes (t + 1)).getD (s.at_ + 1)) st dw dg))) := by
      refine k _ (hM.begun (dx := dx) (kvs := kvs) (gs := gs) ?_ upd_same ?_ ?_ ?_ k1 ?_ g1 ?_ ?_ ?_)
      · exact same_over (same_over (same_over (by rw [← hH2]; exact same_over ((same_over hM.same FV.p0).trans sq) FV.d0) FV.b0) FV.g0) FV.p0
      · rw [upd_ne nls.symm, upd_ne nbg, upd_same]
      · rw [upd_ne nlc.symm, upd_ne (kind_ne hM.hc g1), upd_ne FV.bc.symm, ← hH2, upd_ne (kind_ne hM.hc k1)]
        exact sq _ _ (by rw [upd_ne nlc.symm]; exact hM.hc)
      · rw [upd_ne nlsd.symm, upd_ne (kind_ne hM.hs g1), upd_ne FV.bs.symm, ← hH2, upd_ne (kind_ne hM.hs k1)]
        exact sq _ _ (by rw [upd_ne nlsd.symm]; exact hM.hs)
      · rw [upd_ne ndw.symm, upd_ne FV.dg', upd_ne nbw.symm, ← hH2, upd_same]
      · rw [upd_ne ndg.symm, upd_same]
      · intro x ws nb e
        rw [upd_ne (lst_ne_ins e ho).symm, upd_ne (kind_ne e g1), upd_ne (fun q => nb (.inl (.inl q))), ← hH2, upd_ne (kind_ne e k1)]
        exact sq _ _ (by rw [upd_ne (lst_ne_ins e ho).symm]; exact e)
      · have t1 : TupKeep H (upd H p (.ins C dx (mf am lb lc ls (t + 1) s.at_ st dw dg))) := TupKeep.upd ho (by intro xs e; cases e)
        have t2 : TupKeep H H2 := by rw [← hH2]; exact (t1.trans (Same.tups sq)).trans (TupKeep.upd d2 (by intro xs e; cases e))
        exact ((t2.trans (TupKeep.upd hlb2 (by intro xs e; cases e))).trans (TupKeep.upd g3' (by intro xs e; cases e))).trans (TupKeep.upd o5 (by intro xs e; cases e))
    refine ⟨gs, Sum.inl (t + 1), g3', rfl, fun v hv => ?_, fun hv => ?_⟩
    · rw [egg] at hv
      cases e : s.goes (t + 1) with
      | none => rw [e] at hv; cases hv
      | some x =>
        rw [e] at hv fin
        cases hv
        refine ⟨_, rfl, p, C, dx, _, rfl, o5, M.cl, M.nAt, by rw [mf_len]; decide, ?_⟩
        rw [mf_pat]
        exact fin
    · have e : s.goes (t + 1) = none := by
        have hv' := hv
        rw [egg] at hv'
        cases e : s.goes (t + 1) with
        | none => rfl
        | some x => rw [e] at hv'; cases hv'
      rw [e, drop_none hv, upd_id g3'] at fin
      refine ⟨_, rfl, p, C, dx, _, rfl, o3, M.cl, M.nAt, by rw [mf_len]; decide, ?_⟩
      rw [mf_pat]
      exact fin
end
end LB
namespace LB
open PySem L2
theorem mid_worth2 {ms : List Int} {t : Int} {r : Rw} {s : Ms} {b : Int} (hb : r.box = some b) : mid ms t r s = { s with due := fun j => if j = t + (lateOf ms r : Int) + 1 then s.due (t + (lateOf ms r : Int) + 1) ++ [(b, worthOf s.boxes s.cells r)] else s.due j } := by
  have hl : lateI ms r = (lateOf ms r : Int) := by
    unfold lateI
    cases e : r.lix with
    | some i => rfl
    | none =>
      have := r.box_lix
      rw [hb, e] at this
      cases this
  rw [mid_worth hb, hl]
def SameP (p : Addr) (H H' : Hp) : Prop := ∀ b o, H b = some o → b ≠ p → H' b = some o
theorem SameP.new {p a : Addr} {H H' : Hp} {o : HO} (h : SameP p H H') (ha : H' a = none) : SameP p H (upd H' a o) := fun b u e n => same_new ha o _ _ (h b u e n)
theorem SameP.upd {p : Addr} {H H' : Hp} {o : HO} (h : SameP p H H') : SameP p H (upd H' p o) := fun b u e n => by
  rw [upd_ne n]
  exact h b u e n
theorem SameP.refl (p : Addr) (H : Hp) : SameP p H H := fun _ _ e _ => e
section
variable {P : Program} {w : World} {K : PySem.W.Frag} {mg : Str → Option Value} {base : Heap} {C : Addr}
def spMInit (K : PySem.W.Frag) (C : Addr) : Sp := fun vs H Q _ => ∃ (H0 : Hp) (p dx am ac : Addr) (cs : List Int), vs = [.ref p, .ref am, .ref ac] ∧ H p = some (.ins C dx []) ∧ Same H0 H ∧ H0 p = none ∧ SqL K H0 ac (cs.map V.int) ∧
  ∀ lb lc ls dw dg H', Six H0 p lb lc ls dw dg → MAt C am H0 H' p lb lc ls dw dg 0 0 (ms0 cs) false → Q .non H'
theorem scMInit : FnScope ["self", "mill", "cells"] ["self", "mill", "cells"] (defScope sMInit) := ⟨rfl, rfl, rfl, by decide +kernel, rfl, by decide +kernel, by decide +kernel⟩
theorem ok_minit {f dS dL tM : Addr} {fd : FuncData} (F : Fun K "__init__" "Machine.__init__" sMInit f fd) (M : Mc K mg C) (G : Gs K w mg dS dL tM) (B : Bl2 mg) : FnOk P w K mg base CX0 1 f fd ["self", "mill", "cells"] (spMInit K C) := by
  refine F.ok scMInit (fun vs H Q E h => ?_) (fun cdv A outer s H vs Q E hr h => ?_)
  · obtain ⟨H0, p, dx, am, ac, cs, rfl, _⟩ := h
    rfl
  · obtain ⟨H0, p, dx, am, ac, cs, rfl, ho, s0, p0, hC, k⟩ := h
    refine ⟨_, (pss_cons (ps_fld (pv 0) (pv 1) rfl) (pss_cons (ps_fld (pv 0) (pe_op op_rep (pe_lst (pa_cons pe_int pa_nil)) (pe_gint G.boxes)) rfl) (pss_cons (ps_fld (pv 0) (pe_callTy call_list_of (by rfl) B.b.list (by decide +kernel) (pa_cons (pv 2) pa_nil)) rfl) (pss_cons (ps_fld (pv 0) (pe_lst pa_nil) rfl) (pss_cons (ps_fld (pv 0) pe_int rfl) (pss_cons (ps_fld (pv 0) pe_int rfl) (pss_cons (ps_fld (pv 0) pe_bl rfl) (pss_cons (ps_fld (pv 0) pe_dnewK rfl) (pss_one (ps_fld (pv 0) pe_dnewK rfl)))))))))), ?_⟩
    have few : ∀ (fs : List (Str × V)), fs.length < 20 → fs.length < 1000 := fun fs h => by omega
    have nC : ∀ H1, Same H0 H1 → SqL K H1 ac (cs.map V.int) := fun H1 s => s.seq hC
    refine ⟨_, rfl, _, rfl, p, C, dx, _, rfl, ho, M.cl, M.nMill, by decide, ?_⟩
    have q1 : Same H0 (upd H p (.ins C dx [("mill", .ref am)])) := same_over s0 p0
    have o1 : (upd H p (.ins C dx [("mill", .ref am)])) p = some (.ins C dx [("mill", .ref am)]) := upd_same
    show tSeq _ _ _ _ (upd H p (.ins C dx [("mill", .ref am)]))
    generalize upd H p (.ins C dx [("mill", .ref am)]) = H1 at q1 o1
    refine ⟨by show 1 ≤ sizeLine; decide, fun z hz => ⟨z, 8, [.int 0], rfl, rfl, upd_same, by decide, by decide, by show 1 * 8 ≤ sizeLine; decide, fun lb hlb => ?_⟩⟩
    have nzp : p ≠ z := ne_of_none o1 hz
    have q2 := (q1.trans (same_new hz (.lst [.int 0]))).trans (same_new hlb (.lst (List.replicate (8 : Int).toNat [V.int 0]).flatten))
    have lb0 : H0 lb = none := (q1.trans (same_new hz (.lst [.int 0]))).free hlb
    have o2 := (same_new hlb (.lst (List.replicate (8 : Int).toNat [V.int 0]).flatten)) _ _ ((same_new hz (.lst [.int 0])) _ _ o1)
    have l2 : (upd (upd H1 z (.lst [.int 0])) lb (.lst (List.replicate (8 : Int).toNat [V.int 0]).flatten)) lb = some (.lst ((List.replicate 8 (0 : Int)).map V.int)) := upd_same
    generalize upd (upd H1 z (.lst [.int 0])) lb (.lst (List.replicate (8 : Int).toNat [V.int 0]).flatten) = H2 at q2 o2 l2
    have nbp : lb ≠ p := fun e => by rw [e, o2] at l2; cases l2
    refine ⟨_, rfl, p, C, dx, _, rfl, o2, M.cl, M.nBoxes, by show 1 < 1000; decide, ?_⟩
    show tSeq _ _ _ _ (upd H2 p (.ins C dx [("mill", .ref am), ("boxes", .ref lb)]))
    have q3 : Same H0 (upd H2 p (.ins C dx [("mill", .ref am), ("boxes", .ref lb)])) := same_over q2 p0
    have o3 : (upd H2 p (.ins C dx [("mill", .ref am), ("boxes", .ref lb)])) p = some (.ins C dx [("mill", .ref am), ("boxes", .ref lb)]) := upd_same
    have l3 : (upd H2 p (.ins C dx [("mill", .ref am), ("boxes", .ref lb)])) lb = some (.lst ((List.replicate 8 (0 : Int)).map V.int)) := by rw [upd_ne nbp]; exact l2
    generalize upd H2 p (.ins C dx [("mill", .ref am), ("boxes", .ref lb)]) = H3 at q3 o3 l3
    refine ⟨_, rfl, ac, _, rfl, .inl (nC _ q3), fun lc hlc => ?_⟩
    have lc0 : H0 lc = none := q3.free hlc
    have nbc : lb ≠ lc := ne_of_none l3 hlc
    have q4 := q3.trans (same_new hlc (.lst (cs.map V.int)))
    have o4 := (same_new hlc (.lst (cs.map V.int))) _ _ o3
    have l4 := (same_new hlc (.lst (cs.map V.int))) _ _ l3
    have c4 : (upd H3 lc (.lst (cs.map V.int))) lc = some (.lst (cs.map V.int)) := upd_same
    generalize upd H3 lc (.lst (cs.map V.int)) = H4 at q4 o4 l4 c4
    have ncp : lc ≠ p := fun e => by rw [e, o4] at c4; cases c4
    refine ⟨_, rfl, p, C, dx, _, rfl, o4, M.cl, M.nCells, by show 2 < 1000; decide, ?_⟩
    show tSeq _ _ _ _ (upd H4 p (.ins C dx [("mill", .ref am), ("boxes", .ref lb), ("cells", .ref lc)]))
    have q5 : Same H0 (upd H4 p (.ins C dx [("mill", .ref am), ("boxes", .ref lb), ("cells", .ref lc)])) := same_over q4 p0
    have o5 : (upd H4 p (.ins C dx [("mill", .ref am), ("boxes", .ref lb), ("cells", .ref lc)])) p = some (.ins C dx [("mill", .ref am), ("boxes", .ref lb), ("cells", .ref lc)]) := upd_same
    have l5 : (upd H4 p (.ins C dx [("mill", .ref am), ("boxes", .ref lb), ("cells", .ref lc)])) lb = some (.lst ((List.replicate 8 (0 : Int)).map V.int)) := by rw [upd_ne nbp]; exact l4
    have c5 : (upd H4 p (.ins C dx [("mill", .ref am), ("boxes", .ref lb), ("cells", .ref lc)])) lc = some (.lst (cs.map V.int)) := by rw [upd_ne ncp]; exact c4
    generalize upd H4 p (.ins C dx [("mill", .ref am), ("boxes", .ref lb), ("cells", .ref lc)]) = H5 at q5 o5 l5 c5
    refine ⟨by show 0 ≤ sizeLine; decide, fun ls hls => ?_⟩
    have ls0 : H0 ls = none := q5.free hls
    have nbs : lb ≠ ls := ne_of_none l5 hls
    have ncs : lc ≠ ls := ne_of_none c5 hls
    have nsp : ls ≠ p := (ne_of_none o5 hls).symm
    have sl := same_new hls (.lst [])
    refine ⟨_, rfl, p, C, dx, _, rfl, sl _ _ o5, M.cl, M.nSaid, by show 3 < 1000; decide, ?_⟩
    refine ⟨_, rfl, p, C, dx, _, rfl, upd_same, M.cl, M.nBeat, by show 4 < 1000; decide, ?_⟩
    rw [upd_upd]
    refine ⟨_, rfl, p, C, dx, _, rfl, upd_same, M.cl, M.nAt, by show 5 < 1000; decide, ?_⟩
    rw [upd_upd]
    refine ⟨_, rfl, p, C, dx, _, rfl, upd_same, M.cl, M.nStopped, by show 6 < 1000; decide, ?_⟩
    rw [upd_upd]
    show tSeq _ _ _ _ (upd (upd H5 ls (.lst [])) p (.ins C dx [("mill", .ref am), ("boxes", .ref lb), ("cells", .ref lc), ("said", .ref ls), ("beat", .int 0), ("at", .int 0), ("stopped", .bl false)]))
    have q6 : Same H0 (upd (upd H5 ls (.lst [])) p (.ins C dx [("mill", .ref am), ("boxes", .ref lb), ("cells", .ref lc), ("said", .ref ls), ("beat", .int 0), ("at", .int 0), ("stopped", .bl false)])) := same_over (q5.trans sl) p0
    have o6 : (upd (upd H5 ls (.lst [])) p (.ins C dx [("mill", .ref am), ("boxes", .ref lb), ("cells", .ref lc), ("said", .ref ls), ("beat", .int 0), ("at", .int 0), ("stopped", .bl false)])) p = some (.ins C dx [("mill", .ref am), ("boxes", .ref lb), ("cells", .ref lc), ("said", .ref ls), ("beat", .int 0), ("at", .int 0), ("stopped", .bl false)]) := upd_same
    have l6 : (upd (upd H5 ls (.lst [])) p (.ins C dx [("mill", .ref am), ("boxes", .ref lb), ("cells", .ref lc), ("said", .ref ls), ("beat", .int 0), ("at", .int 0), ("stopped", .bl false)])) lb = some (.lst ((List.replicate 8 (0 : Int)).map V.int)) := by rw [upd_ne nbp]; exact sl _ _ l5
    have c6 : (upd (upd H5 ls (.lst [])) p (.ins C dx [("mill", .ref am), ("boxes", .ref lb), ("cells", .ref lc), ("said", .ref ls), ("beat", .int 0), ("at", .int 0), ("stopped", .bl false)])) lc = some (.lst (cs.map V.int)) := by rw [upd_ne ncp]; exact sl _ _ c5
    have s6 : (upd (upd H5 ls (.lst [])) p (.ins C dx [("mill", .ref am), ("boxes", .ref lb), ("cells", .ref lc), ("said", .ref ls), ("beat", .int 0), ("at", .int 0), ("stopped", .bl false)])) ls = some (.lst []) := by rw [upd_ne nsp, upd_same]
    generalize upd (upd H5 ls (.lst [])) p (.ins C dx [("mill", .ref am), ("boxes", .ref lb), ("cells", .ref lc), ("said", .ref ls), ("beat", .int 0), ("at", .int 0), ("stopped", .bl false)]) = H6 at q6 o6 l6 c6 s6
    intro dw hdw
    have dw0 : H0 dw = none := q6.free hdw
    have sd := same_new hdw (.dK [])
    have ndp : dw ≠ p := (ne_of_none o6 hdw).symm
    refine ⟨_, rfl, p, C, dx, _, rfl, sd _ _ o6, M.cl, M.nWorths, by show 7 < 1000; decide, ?_⟩
    intro dg hdg
    have o7 : (upd (upd H6 dw (.dK [])) p (.ins C dx [("mill", .ref am), ("boxes", .ref lb), ("cells", .ref lc), ("said", .ref ls), ("beat", .int 0), ("at", .int 0), ("stopped", .bl false), ("worths", .ref dw)])) p = some (.ins C dx [("mill", .ref am), ("boxes", .ref lb), ("cells", .ref lc), ("said", .ref ls), ("beat", .int 0), ("at", .int 0), ("stopped", .bl false), ("worths", .ref dw)]) := upd_same
    have q7 : Same H0 (upd (upd H6 dw (.dK [])) p (.ins C dx [("mill", .ref am), ("boxes", .ref lb), ("cells", .ref lc), ("said", .ref ls), ("beat", .int 0), ("at", .int 0), ("stopped", .bl false), ("worths", .ref dw)])) := same_over (q6.trans sd) p0
    have e7 : upd (upd H6 dw (.dK [])) p (.ins C dx (putF "worths" (.ref dw) [("mill", .ref am), ("boxes", .ref lb), ("cells", .ref lc), ("said", .ref ls), ("beat", .int 0), ("at", .int 0), ("stopped", .bl false)])) = upd (upd H6 dw (.dK [])) p (.ins C dx [("mill", .ref am), ("boxes", .ref lb), ("cells", .ref lc), ("said", .ref ls), ("beat", .int 0), ("at", .int 0), ("stopped", .bl false), ("worths", .ref dw)]) := rfl
    have l7 : (upd (upd H6 dw (.dK [])) p (.ins C dx [("mill", .ref am), ("boxes", .ref lb), ("cells", .ref lc), ("said", .ref ls), ("beat", .int 0), ("at", .int 0), ("stopped", .bl false), ("worths", .ref dw)])) lb = some (.lst ((List.replicate 8 (0 : Int)).map V.int)) := by rw [upd_ne nbp]; exact sd _ _ l6
    have c7 : (upd (upd H6 dw (.dK [])) p (.ins C dx [("mill", .ref am), ("boxes", .ref lb), ("cells", .ref lc), ("said", .ref ls), ("beat", .int 0), ("at", .int 0), ("stopped", .bl false), ("worths", .ref dw)])) lc = some (.lst (cs.map V.int)) := by rw [upd_ne ncp]; exact sd _ _ c6
    have s7 : (upd (upd H6 dw (.dK [])) p (.ins C dx [("mill", .ref am), ("boxes", .ref lb), ("cells", .ref lc), ("said", .ref ls), ("beat", .int 0), ("at", .int 0), ("stopped", .bl false), ("worths", .ref dw)])) ls = some (.lst []) := by rw [upd_ne nsp]; exact sd _ _ s6
    have d7 : (upd (upd H6 dw (.dK [])) p (.ins C dx [("mill", .ref am), ("boxes", .ref lb), ("cells", .ref lc), ("said", .ref ls), ("beat", .int 0), ("at", .int 0), ("stopped", .bl false), ("worths", .ref dw)])) dw = some (.dK []) := by rw [upd_ne ndp, upd_same]
    have hdg' : (upd (upd H6 dw (.dK [])) p (.ins C dx [("mill", .ref am), ("boxes", .ref lb), ("cells", .ref lc), ("said", .ref ls), ("beat", .int 0), ("at", .int 0), ("stopped", .bl false), ("worths", .ref dw)])) dg = none := hdg
    have sg := same_new hdg' (.dK [])
    have ndd : dw ≠ dg := ne_of_none d7 hdg'
    have nng : dg ≠ p := (ne_of_none o7 hdg').symm
    refine ⟨_, rfl, p, C, dx, _, rfl, sg _ _ o7, M.cl, M.nGoings, by show 8 < 1000; decide, ?_⟩
    refine k lb lc ls dw dg _ ⟨p0, lb0, lc0, ls0, dw0, q7.free hdg', nbc, nbs, ncs, ndd⟩ ⟨same_over (q7.trans sg) p0, ⟨dx, upd_same⟩, ?_, ?_, ?_, Nat.le_refl _, ⟨[], ?_, fun j => .inl ⟨rfl, ?_⟩, fun a b l e => ?_, Nat.le_refl _⟩, ⟨[], ?_, fun j => ?_, Nat.le_refl _⟩, fun j => Nat.le_refl _⟩
    · rw [upd_ne nbp]; exact sg _ _ l7
    · rw [upd_ne ncp]; exact sg _ _ c7
    · rw [upd_ne nsp]; exact sg _ _ s7
    · rw [upd_ne ndp]; exact sg _ _ d7
    · show (if j ≤ 0 then [] else []) = ([] : List (Int × Int))
      split <;> rfl
    · cases e
    · rw [upd_ne nng]; exact upd_same
    · show none = (if j ≤ 0 then none else none : Option Int).map V.int
      split <;> rfl
def spDoRow (K : PySem.W.Frag) (C : Addr) : Sp := fun vs H Q _ => ∃ (am : Addr) (ms : List Int) (H0 : Hp) (p lb lc ls dw dg : Addr) (n : Nat) (s : Ms) (v : V) (r : Rw) (many : Int), vs = [.ref p, v] ∧ Six H0 p lb lc ls dw dg ∧ MillAt K H0 am ms ∧ MillOk ms ∧ MAt C am H0 H p lb lc ls dw dg (n : Int) n s false ∧ MsOk many s ∧ s.at_ < many ∧ RowAt K H0 v r ∧ r.ok many ∧ n ≤ 1000 ∧
  ∀ H', MAt C am H0 H' p lb lc ls dw dg ((n : Int) + 1) (n + 1) (step ms n r s) r.stops → Q .non H'
theorem scDoRow : FnScope ["self", "row", "word", "box"] ["self", "row"] (defScope sDoRow) := ⟨rfl, rfl, rfl, by decide +kernel, rfl, by decide +kernel, by decide +kernel⟩
theorem ok_dorow {f : Addr} {fd : FuncData} (F : Fun K "do_row" "Machine.do_row" sDoRow f fd) (M : Mc K mg C) (gJ : GJ mg) (CC : ∀ am, CalM P w K mg base C 1 "cell_of" ["self", "box"] (spCellOf C am)) (CW : ∀ am, CalM P w K mg base C 2 "worth" ["self", "row"] (spWorth K C am))
    (CS : ∀ am, CalM P w K mg base C 1 "send" ["self", "box", "worth", "beat"] (spSend C am)) (CB : ∀ am, CalM P w K mg base C 1 "begin_beat" ["self"] (spBegin C am)) (L : Cal P w K mg base 1 "lateness" ["row", "mill"] (spLate K)) (MI : Cal P w K mg base 1 "made_in" ["row"] (spMade K)) :
    FnOk P w K mg base CX0 3 f fd ["self", "row"] (spDoRow K C) := by
  refine F.ok scDoRow (fun vs H Q E h => ?_) (fun cdv A outer s H vs Q E hr h => ?_)
  · obtain ⟨am, ms, H0, p, lb, lc, ls, dw, dg, n, s, v, r, many, rfl, _⟩ := h
    rfl
  · obtain ⟨am, ms, H0, p, lb, lc, ls, dw, dg, n, s, v, r, many, rfl, FV, hMl, hMo, hM, hMs, hat, hrow, hro, hn, k⟩ := h
    obtain ⟨fC, fdC, GC, mC, bC⟩ := (CC am).ex
    obtain ⟨fW, fdW, GW, mW, bW⟩ := (CW am).ex
    obtain ⟨fS, fdS, GS, mS, bS⟩ := (CS am).ex
    obtain ⟨fB, fdB, GB, mB, bB⟩ := (CB am).ex
    have hr1 : Room 1 _ := hr.mono (by decide)
    have hrC := hr1
    have hrW := hr
    have hrS := hr1
    have hrB := hr1
    have hu := hu_of hr
    refine ⟨_, (pss_cons (ps_set (i := 2) scDoRow.nd rfl (Or.inl rfl) (pe_ix ix_tup (pv 1) pe_int (fun _ _ => rfl))) (pss_cons (ps_set (i := 3) scDoRow.nd rfl (Or.inl rfl) (pe_cal MI hr1 (pa_cons (pv 1) pa_nil))) (pss_cons (ps_if (pt_cmpR op_notN (pv 3) pe_non (nomark _)) (pss_one (ps_expr (pe_meth (pv 0) M.cl mS GS hrS bS .nil pass0 (pa_cons (pv 3) (pa_cons (pe_meth (pv 0) M.cl mW GW hrW bW .nil pass0 (pa_cons (pv 1) pa_nil)) (pa_cons (pe_op op_add (pe_op op_add (pe_fld (pv 0) rfl) (pe_cal L hr1 (pa_cons (pv 1) (pa_cons (pe_fld (pv 0) rfl) pa_nil)))) pe_int) pa_nil)))))) (pss_one (ps_if (pt_cmpR op_eq (pv 2) pe_str (nomark _)) (pss_one (ps_asg (pe_ix ix_list (pe_fld (pv 0) rfl) (pe_ix ix_tup (pv 1) pe_int (fun _ _ => rfl)) (fun _ _ => rfl)) (pg_sub (pe_fld (pv 0) rfl) (pe_meth (pv 0) M.cl mC GC hrC bC .nil pass0 (pa_cons (pe_ix ix_tup (pv 1) pe_int (fun _ _ => rfl)) pa_nil)) set_list))) (pss_one (ps_if (pt_cmpR op_eq (pv 2) pe_str (nomark _)) (pss_one (ps_expr (pe_bm PySem.F.plainAttrs_list PySem.F.slot_list_append PySem.F.type_list_append mt_append (pe_fld (pv 0) rfl) (pa_cons (pe_ix ix_list (pe_fld (pv 0) rfl) (pe_ix ix_tup (pv 1) pe_int (fun _ _ => rfl)) (fun _ _ => rfl)) pa_nil)))) (pss_one (ps_if (pt_cmpR op_eq (pv 2) pe_str (nomark _)) (pss_one (ps_fld (pv 0) pe_bl rfl)) (pss_one (ps_if (PW.pt (pw_or (pt_cmpR op_eq (pv 2) pe_str (nomark _)) (pw_or1 (PW.pt (pw_and (pt_cmpR op_eq (pv 2) pe_str (nomark _)) (pw_and1 (pt_cmpR op_ne (pe_ix ix_list (pe_fld (pv 0) rfl) (pe_ix ix_tup (pv 1) pe_int (fun _ _ => rfl)) (fun _ _ => rfl)) pe_int (nomark _)))))))) (pss_one (ps_dput hu (pe_fld (pv 0) rfl) (pe_op op_add (pe_op op_add (pe_fld (pv 0) rfl) (pe_ix ix_tup (pe_fld (pv 0) rfl) (pe_gint gJ) (fun _ _ => rfl))) pe_int) (pe_ix ix_tup (pv 1) (pe_un un_neg pe_int) (fun _ _ => rfl)) rfl)) pss_nil))))))))) (pss_one (ps_expr (pe_meth0 (pv 0) M.cl mB GB hrB bB .nil pass0)))))), ?_⟩
    obtain ⟨ra, rfl, hrT0⟩ := hrow
    have hT := same_tup hM.same hrT0
    have h0 : atI r.vals 0 = some (.str r.word) := by rw [r.vals_eq]; exact atI_nat (j := 0) rfl
    obtain ⟨dx, ho⟩ := hM.ob
    have hMl' : SqT K H am (ms.map V.int) := same_tup hM.same hMl
    refine ⟨_, rfl, ra, _, _, _, rfl, rfl, hT, h0, _, rfl, .ref ra, r, rfl, ⟨ra, rfl, hT⟩, ?_⟩
    refine ⟨_, rfl, rfl, _, rfl, ?_⟩
    refine ifs_cut (fun σ' H' => (∃ v3 : Option V, σ' = [some (.ref p), some (.ref ra), some (.str r.word), v3]) ∧ MAt C am H0 H' p lb lc ls dw dg (n : Int) (n + 1) (mid ms n r s) r.stops) (fun e D' _ k' => ?_) (fun e D' _ k' => ?_) ?_
    · obtain ⟨b, hb⟩ : ∃ b, r.box = some b := by
        cases q : r.box with
        | some b => exact ⟨b, rfl⟩
        | none =>
          rw [q] at e
          exact absurd e (by decide)
      have hx : r.lix.isSome = true := by rw [← r.box_lix, hb]; rfl
      have hs0 : r.stops = false := by cases r <;> first | rfl | cases hb
      rw [hb]
      refine ⟨_, rfl, p, dx, _, rfl, ho, rfl, _, rfl, _, rfl, p, dx, _, rfl, ho, rfl, _, rfl, H0, p, lb, lc, ls, dw, dg, (n : Int), n, s, false, .ref ra, r, many, rfl, hM, hMs.boxes, hMs.cells, ⟨ra, rfl, hT⟩, hx, hro, ?_⟩
      refine ⟨_, rfl, p, C, dx, _, _, rfl, ho, M.cl, M.nBeat, mf_beat, _, rfl, _, rfl, p, C, dx, _, _, rfl, ho, M.cl, M.nMill, mf_mill, .ref ra, r, am, ms, rfl, ⟨ra, rfl, hT⟩, hMl', hMo, _, _, rfl, rfl, _, _, rfl, rfl, ?_⟩
      refine ⟨H0, p, lb, lc, ls, dw, dg, (n : Int), n, s, false, b, worthOf s.boxes s.cells r, (n : Int) + (lateOf ms r : Int) + 1, rfl, FV, hM, by omega, by omega, fun H' h' => ?_⟩
      refine k' _ _ ⟨⟨_, rfl⟩, ?_⟩
      rw [mid_worth2 hb, hs0]
      exact h'
    · have hx : r.box = none := by
        cases q : r.box with
        | none => rfl
        | some b =>
          rw [q] at e
          have e2 : (!decide (V.int b = V.non)) = false := e
          rw [decide_eq_false (by intro z; cases z)] at e2
          cases e2
      rw [mid_none hx] at k'
      have hj3 : atI (ms.map V.int) 3 = some (.int (jumpOf ms)) := by
        obtain ⟨p, g, t, j, rfl, _⟩ := hMo
        rfl
      have hj0 : 0 ≤ jumpOf ms := by
        obtain ⟨p, g, t, j, rfl, _, _, _, hj, _⟩ := hMo
        exact hj
      obtain ⟨gs, hgs, hgo, hgl⟩ := hM.gv
      cases r with
      | put b m => cases hx
      | move b m => cases hx
      | add b m c => cases hx
      | take b m c => cases hx
      | times b m c => cases hx
      | get b m => cases hx
      | set c d =>
        refine ⟨_, rfl, rfl, _, rfl, if_t (by show decide (V.str "set" = V.str "set") = true; decide +kernel) ?_⟩
        refine ⟨_, rfl, p, C, dx, _, _, rfl, ho, M.cl, M.nBoxes, mf_boxes, _, rfl, ra, _, _, .int d, rfl, rfl, hT, atI_nat (j := 2) rfl, lb, _, _, _, rfl, rfl, SqL.of hM.hb, box_at hMs.boxes hro.2, _, rfl, p, C, dx, _, _, rfl, ho, M.cl, M.nCells, mf_cells, _, rfl, p, dx, _, rfl, ho, rfl, _, rfl, ra, _, _, .int c, rfl, rfl, hT, atI_nat (j := 1) rfl, H0, p, lb, lc, ls, dw, dg, (n : Int), n, s, false, c, rfl, hM, hMs.boxes, hro.1, lc, _, _, (bx s.boxes c % 16).toNat, rfl, rfl, hM.hc, ?_, ?_⟩
        · have h16 := mod16 (bx s.boxes c)
          show ixN (s.cells.map V.int).length (bx s.boxes c % 16) = _
          unfold ixN
          rw [List.length_map, hMs.cells.1, if_pos h16.1, if_pos (by omega)]
        · rw [set_ints]
          exact k' _ _ ⟨⟨_, rfl⟩, (hM.cells FV).more (Nat.le_succ _)⟩
      | say c =>
        refine ⟨_, rfl, rfl, _, rfl, if_f (by show decide (V.str "say" = V.str "set") = false; decide +kernel) ⟨_, rfl, rfl, _, rfl, if_t (by show decide (V.str "say" = V.str "say") = true; decide +kernel) ?_⟩⟩
        refine ⟨_, rfl, p, C, dx, _, _, rfl, ho, M.cl, M.nSaid, mf_said, .inl ⟨rfl, _, SqL.of hM.hs⟩, _, rfl, p, C, dx, _, _, rfl, ho, M.cl, M.nBoxes, mf_boxes, _, rfl, ra, _, _, .int c, rfl, rfl, hT, atI_nat (j := 1) rfl, lb, _, _, _, rfl, rfl, SqL.of hM.hb, box_at hMs.boxes hro, ls, _, _, rfl, rfl, hM.hs, small2 (by rw [List.length_map]; have := hM.hl; omega), ?_⟩
        have em : s.said.map V.int ++ [V.int (bx s.boxes c)] = (s.said ++ [bx s.boxes c]).map V.int := by
          rw [List.map_append]
          rfl
        rw [em]
        refine k' _ _ ⟨⟨_, rfl⟩, (hM.more (Nat.le_succ _)).says FV ?_⟩
        rw [List.length_append]
        exact Nat.succ_le_succ hM.hl
      | rest =>
        refine ⟨_, rfl, rfl, _, rfl, if_f (by show decide (V.str "rest" = V.str "set") = false; decide +kernel) ⟨_, rfl, rfl, _, rfl, if_f (by show decide (V.str "rest" = V.str "say") = false; decide +kernel) ⟨_, rfl, rfl, _, rfl, if_f (by show decide (V.str "rest" = V.str "stop") = false; decide +kernel) ⟨_, rfl, rfl, _, rfl, if_f (by show decide (V.str "rest" = V.str "go") = false; decide +kernel) ⟨_, rfl, rfl, _, rfl, if_f (by show decide (V.str "rest" = V.str "if") = false; decide +kernel) (iteF ?_)⟩⟩⟩⟩⟩
        exact k' _ _ ⟨⟨_, rfl⟩, hM.more (Nat.le_succ _)⟩
      | stop =>
        refine ⟨_, rfl, rfl, _, rfl, if_f (by show decide (V.str "stop" = V.str "set") = false; decide +kernel) ⟨_, rfl, rfl, _, rfl, if_f (by show decide (V.str "stop" = V.str "say") = false; decide +kernel) ⟨_, rfl, rfl, _, rfl, if_t (by show decide (V.str "stop" = V.str "stop") = true; decide +kernel) ?_⟩⟩⟩
        refine ⟨_, rfl, p, C, dx, _, rfl, ho, M.cl, M.nStopped, by rw [mf_len]; decide, ?_⟩
        rw [mf_pstop]
        exact k' _ _ ⟨⟨_, rfl⟩, (hM.attr FV ho (fun _ h _ => h) (fun _ h _ => h)).more (Nat.le_succ _)⟩
      | go q =>
        refine ⟨_, rfl, rfl, _, rfl, if_f (by show decide (V.str "go" = V.str "set") = false; decide +kernel) ⟨_, rfl, rfl, _, rfl, if_f (by show decide (V.str "go" = V.str "say") = false; decide +kernel) ⟨_, rfl, rfl, _, rfl, if_f (by show decide (V.str "go" = V.str "stop") = false; decide +kernel) ⟨_, rfl, rfl, _, rfl, if_t (by show decide (V.str "go" = V.str "go") = true; decide +kernel) (iteT ?_)⟩⟩⟩⟩
        refine ⟨_, rfl, 1, rfl, ra, _, _, .int q, rfl, rfl, hT, rfl, _, rfl, p, C, dx, _, _, rfl, ho, M.cl, M.nGoings, mf_goings, _, rfl, p, C, dx, _, _, rfl, ho, M.cl, M.nBeat, mf_beat, _, rfl, p, C, dx, _, _, rfl, ho, M.cl, M.nMill, mf_mill, am, _, _, _, rfl, rfl, hMl', hj3, _, _, rfl, rfl, _, _, rfl, rfl, dg, _, rfl, DPut.k (k := Sum.inl ((n : Int) + jumpOf ms + 1)) hgs (small2 (by omega)), ?_⟩
        exact k' _ _ ⟨⟨_, rfl⟩, hM.going FV (by omega) hgs⟩
      | iff c q =>
        refine ⟨_, rfl, rfl, _, rfl, if_f (by show decide (V.str "if" = V.str "set") = false; decide +kernel) ⟨_, rfl, rfl, _, rfl, if_f (by show decide (V.str "if" = V.str "say") = false; decide +kernel) ⟨_, rfl, rfl, _, rfl, if_f (by show decide (V.str "if" = V.str "stop") = false; decide +kernel) ⟨_, rfl, rfl, _, rfl, if_f (by show decide (V.str "if" = V.str "go") = false; decide +kernel) ⟨_, rfl, rfl, _, rfl, if_t (by show decide (V.str "if" = V.str "if") = true; decide +kernel) ?_⟩⟩⟩⟩⟩
        refine ⟨_, rfl, p, C, dx, _, _, rfl, ho, M.cl, M.nBoxes, mf_boxes, _, rfl, ra, _, _, .int c, rfl, rfl, hT, atI_nat (j := 1) rfl, lb, _, _, _, rfl, rfl, SqL.of hM.hb, box_at hMs.boxes hro.1, rfl, _, rfl, ?_⟩
        by_cases hz : bx s.boxes c = 0
        · have e0 : (!decide (V.int (bx s.boxes c) = V.int 0)) = false := by rw [hz]; rfl
          refine if_f e0 ?_
          have eg : goes1 ms (n : Int) (.iff c q) s = s.goes := by
            have eq0 : goal s (.iff c q) = none := if_pos hz
            unfold goes1
            rw [eq0]
          rw [eg] at k'
          exact k' _ _ ⟨⟨_, rfl⟩, hM.more (Nat.le_succ _)⟩
        · have e0 : (!decide (V.int (bx s.boxes c) = V.int 0)) = true := by
            rw [decide_eq_false (fun z => hz (by injection z))]
            rfl
          refine if_t e0 ?_
          refine ⟨_, rfl, 1, rfl, ra, _, _, .int q, rfl, rfl, hT, rfl, _, rfl, p, C, dx, _, _, rfl, ho, M.cl, M.nGoings, mf_goings, _, rfl, p, C, dx, _, _, rfl, ho, M.cl, M.nBeat, mf_beat, _, rfl, p, C, dx, _, _, rfl, ho, M.cl, M.nMill, mf_mill, am, _, _, _, rfl, rfl, hMl', hj3, _, _, rfl, rfl, _, _, rfl, rfl, dg, _, rfl, DPut.k (k := Sum.inl ((n : Int) + jumpOf ms + 1)) hgs (small2 (by omega)), ?_⟩
          have eg : goes1 ms (n : Int) (.iff c q) s = fun j => if j = (n : Int) + jumpOf ms + 1 then some q else s.goes j := by
            have eq0 : goal s (.iff c q) = some q := if_neg hz
            unfold goes1
            rw [eq0]
          rw [eg] at k'
          exact k' _ _ ⟨⟨_, rfl⟩, hM.going FV (by omega) hgs⟩
    · rintro σ' H1 ⟨⟨v3, rfl⟩, h1⟩
      obtain ⟨dx1, ho1⟩ := h1.ob
      refine ⟨_, rfl, p, dx1, _, rfl, ho1, rfl, H0, p, lb, lc, ls, dw, dg, (n : Int), n + 1, mid ms n r s, r.stops, rfl, FV, h1, hMs.boxes, due1_ok hMs hro _, fun H' h' => ?_⟩
      exact k H' h'
end
end LB
namespace LB
open PySem L2
section
variable {P : Program} {w : World} {K : PySem.W.Frag} {mg : Str → Option Value} {base : Heap} {C : Addr}
/-- how a run has ended, or None -/
def endV (st : Bool) (at_ many t fuel : Int) : V := if st = true then .str "stop" else if at_ = many then .str "end" else if t = fuel then .str "long" else .non
def spEnding (C : Addr) : Sp := fun vs H Q _ => ∃ (am : Addr) (H0 : Hp) (p lb lc ls dw dg : Addr) (t : Int) (n : Nat) (s : Ms) (st : Bool) (many fuel : Int), vs = [.ref p, .int many, .int fuel] ∧ MAt C am H0 H p lb lc ls dw dg t n s st ∧ Q (endV st s.at_ many t fuel) H
theorem scEnding : FnScope ["machine", "many", "fuel"] ["machine", "many", "fuel"] (defScope sEnding) := ⟨rfl, rfl, rfl, by decide +kernel, rfl, by decide +kernel, by decide +kernel⟩
theorem ok_ending {f : Addr} {fd : FuncData} (F : Fun K "ending" "ending" sEnding f fd) (M : Mc K mg C) : FnOk P w K mg base CX0 1 f fd ["machine", "many", "fuel"] (spEnding C) := by
  refine F.ok scEnding (fun vs H Q E h => ?_) (fun cdv A outer s H vs Q E hr h => ?_)
  · obtain ⟨am, H0, p, lb, lc, ls, dw, dg, t, n, s, st, many, fuel, rfl, _⟩ := h
    rfl
  · obtain ⟨am, H0, p, lb, lc, ls, dw, dg, t, n, s, st, many, fuel, rfl, hM, k⟩ := h
    obtain ⟨dx, ho⟩ := hM.ob
    unfold endV at k
    refine ⟨_, (pss_cons (ps_if (pt_val (pe_fld (pv 0) rfl)) (pss_one (ps_ret pe_str)) pss_nil) (pss_cons (ps_if (pt_cmpR op_eq (pe_fld (pv 0) rfl) (pv 1) (nomark _)) (pss_one (ps_ret pe_str)) pss_nil) (pss_cons (ps_if (pt_cmpR op_eq (pe_fld (pv 0) rfl) (pv 2) (nomark _)) (pss_one (ps_ret pe_str)) pss_nil) (pss_one (ps_ret pe_non))))), ?_⟩
    refine ⟨_, rfl, p, C, dx, _, _, rfl, ho, M.cl, M.nStopped, mf_stopped, st, rfl, if_both (fun e => ?_) (fun e => ?_)⟩
    · rw [if_pos e] at k
      exact k
    · rw [if_neg (by rw [e]; decide)] at k
      refine ⟨_, rfl, p, C, dx, _, _, rfl, ho, M.cl, M.nAt, mf_at, _, rfl, rfl, _, rfl, if_both (fun e => ?_) (fun e => ?_)⟩
      · have e' : s.at_ = many := by have := of_decide_eq_true e; injection this
        rw [if_pos e'] at k
        exact k
      · have e' : ¬ s.at_ = many := fun z => of_decide_eq_false e (congrArg V.int z)
        rw [if_neg e'] at k
        refine ⟨_, rfl, p, C, dx, _, _, rfl, ho, M.cl, M.nBeat, mf_beat, _, rfl, rfl, _, rfl, if_both (fun e => ?_) (fun e => ?_)⟩
        · have e' : t = fuel := by have := of_decide_eq_true e; injection this
          rw [if_pos e'] at k
          exact k
        · have e' : ¬ t = fuel := fun z => of_decide_eq_false e (congrArg V.int z)
          rw [if_neg e'] at k
          exact k
def spRun (K : PySem.W.Frag) : Sp := fun vs H Q _ => ∃ (ap am ac : Addr) (rs : List Rw) (ms cs : List Int) (fuel : Nat), vs = [.ref ap, .ref am, .ref ac, .int fuel] ∧ ProgAt K H ap rs ∧ RsOk rs ∧ MillAt K H am ms ∧ MillOk ms ∧ SqL K H ac (cs.map V.int) ∧ CsOk cs ∧ fuel ≤ 1000 ∧
  ∀ t H', Same H H' → ResAt H H' t (runM ms rs fuel 0 (ms0 cs)) → Q (.ref t) H'
abbrev psRun : List Str := ["program", "mill", "cells", "fuel"]
theorem scRun : FnScope ["program", "mill", "cells", "fuel", "machine", "end"] psRun (defScope sRun) := ⟨rfl, rfl, rfl, by decide +kernel, rfl, by decide +kernel, by decide +kernel⟩
theorem ok_run {f : Addr} {fd : FuncData} (F : Fun K "run" "run" sRun f fd) (M : Mc K mg C) (B : Bl2 mg) (CP : Cal P w K mg base 4 "check_program" ["program"] (spChkP K)) (CM : Cal P w K mg base 2 "check_mill" ["mill"] (spChkM K)) (CC : Cal P w K mg base 2 "check_cells" ["cells"] (spChkC K)) (CF : Cal P w K mg base 2 "check_fuel" ["fuel"] spChkF)
    {fI : Addr} {fdI : FuncData} (MK : Mk K C fI) (GI : FnOk P w K mg base CX0 1 fI fdI ["self", "mill", "cells"] (spMInit K C)) (bI : Binds K fdI ["self", "mill", "cells"] []) (DR : CalM P w K mg base C 3 "do_row" ["self", "row"] (spDoRow K C)) (EN : Cal P w K mg base 1 "ending" ["machine", "many", "fuel"] (spEnding C)) :
    FnOk P w K mg base CX0 5 f fd psRun (spRun K) := by
  obtain ⟨fD, fdD, GD, mD, bD⟩ := DR.ex
  refine F.ok scRun (fun vs H Q E h => ?_) (fun cdv A outer s H vs Q E hr h => ?_)
  · obtain ⟨ap, am, ac, rs, ms, cs, fuel, rfl, _⟩ := h
    rfl
  · obtain ⟨ap, am, ac, rs, ms, cs, fuel, rfl, hP, hRs, hMl, hMo, hC, hCo, hf, k⟩ := h
    have hr1 : Room 1 _ := hr.mono (by decide)
    have hr2 : Room 2 _ := hr.mono (by decide)
    have hrD := hr.mono (show 3 ≤ 4 by decide)
    refine ⟨_, (pss_cons (ps_expr (pe_cal CP hr (pa_cons (pv 0) pa_nil))) (pss_cons (ps_expr (pe_cal CM hr2 (pa_cons (pv 1) pa_nil))) (pss_cons (ps_expr (pe_cal CC hr2 (pa_cons (pv 2) pa_nil))) (pss_cons (ps_expr (pe_cal CF hr2 (pa_cons (pv 3) pa_nil))) (pss_cons (ps_set (i := 4) scRun.nd rfl (Or.inl rfl) (pe_make MK GI hr2 rfl M.mgC bI .nil pass0 (pa_cons (pv 1) (pa_cons (pv 2) pa_nil)))) (pss_cons (ps_set (i := 5) scRun.nd rfl (Or.inl rfl) (pe_cal EN hr1 (pa_cons (pv 4) (pa_cons (pe_callB call_len_seq (by rfl) B.b.len PySem.boot_len (pa_cons (pv 0) pa_nil)) (pa_cons (pv 3) pa_nil))))) (pss_cons (ps_while PassesOwn.never (pt_cmpR op_isN (pv 5) pe_non (nomark _)) (pss_cons (ps_expr (pe_meth (pv 4) M.cl mD GD hrD bD .nil pass0 (pa_cons (pe_ix ix_tup (pv 0) (pe_fld (pv 4) rfl) (fun _ _ => rfl)) pa_nil))) (pss_one (ps_set (i := 5) scRun.nd rfl (Or.inl rfl) (pe_cal EN hr1 (pa_cons (pv 4) (pa_cons (pe_callB call_len_seq (by rfl) B.b.len PySem.boot_len (pa_cons (pv 0) pa_nil)) (pa_cons (pv 3) pa_nil)))))))) (pss_one (ps_ret (pe_tup (pa_cons (pe_fld (pv 4) rfl) (pa_cons (pv 5) (pa_cons (pe_fld (pv 4) rfl) (pa_cons (pe_fld (pv 4) rfl) pa_nil)))))))))))))), ?_⟩
    obtain ⟨l0, l1, hok⟩ := id hRs
    refine ⟨_, rfl, ap, rs, rfl, hP, hRs, fun H1 s1 => ?_⟩
    refine ⟨_, rfl, am, ms, rfl, same_tup s1 hMl, hMo, fun H2 s2 => ?_⟩
    refine ⟨_, rfl, ac, cs, rfl, (s1.trans s2).seq hC, hCo, fun H3 s3 => ?_⟩
    have sm := (s1.trans s2).trans s3
    refine ⟨_, rfl, (fuel : Int), rfl, by omega, by omega, ?_⟩
    refine ⟨_, rfl, _, rfl, fun p dx0 hx hdx hne => ?_⟩
    have sI : Same H3 (upd (upd H3 dx0 (.own p)) p (.ins C dx0 [])) := fun b o e => by
      rw [upd_ne (ne_of_none e hx), upd_ne (ne_of_none e hdx)]
      exact e
    refine ⟨H3, p, dx0, am, ac, cs, rfl, upd_same, sI, hx, sm.seq hC, fun lb lc ls dw dg H4 FV hM4 => ⟨rfl, ?_⟩⟩
    obtain ⟨vsP, hTP, hlP, hgP⟩ := hP
    have hTP3 : SqT K H3 ap vsP := same_tup sm hTP
    have hMl3 : MillAt K H3 am ms := same_tup sm hMl
    have hM0 : MsOk (rs.length : Int) (ms0 cs) := ms0_ok hCo (by omega)
    have hA0 : (ms0 cs).at_ < (rs.length : Int) := by show (0 : Int) < (rs.length : Int); omega
    have elen : (vsP.length : Int) = (rs.length : Int) := by rw [hlP]
    refine ⟨_, rfl, _, rfl, ap, _, rfl, .inr (same_tup hM4.same hTP3), _, rfl, am, H3, p, lb, lc, ls, dw, dg, (0 : Int), 0, ms0 cs, false, (vsP.length : Int), (fuel : Int), rfl, hM4, ?_⟩
    rw [elen]
    refine ⟨fun m σ H5 => ∃ (i : Nat) (s : Ms) (st : Bool), σ = [some (.ref ap), some (.ref am), some (.ref ac), some (.int fuel), some (.ref p), some (endV st s.at_ rs.length i fuel)] ∧ MAt C am H3 H5 p lb lc ls dw dg (i : Int) i s st ∧ MsOk (rs.length : Int) s ∧ m = fuel - i ∧ i ≤ fuel ∧
        (st = false → ¬ s.at_ = (rs.length : Int) → runM ms rs (fuel - i) i s = runM ms rs fuel 0 (ms0 cs)) ∧ (st = true → runM ms rs fuel 0 (ms0 cs) = ⟨s.said, "stop", i, s.cells⟩) ∧ (st = false → s.at_ = (rs.length : Int) → runM ms rs fuel 0 (ms0 cs) = ⟨s.said, "end", i, s.cells⟩),
      ⟨fuel, 0, ms0 cs, false, rfl, hM4, hM0, rfl, Nat.zero_le _, fun _ _ => rfl, fun e => (by cases e), fun _ e => absurd e (by show ¬ (0 : Int) = (rs.length : Int); omega)⟩, ?_⟩
    rintro m σ H5 ⟨i, s, st, rfl, hM, hMs, rfl, hi, r1, r2, r3⟩
    obtain ⟨dx, ho⟩ := hM.ob
    refine ⟨_, rfl, rfl, _, rfl, if_both (fun e => ?_) (fun e => ?_)⟩
    · have e' : endV st s.at_ rs.length i fuel = .non := of_decide_eq_true e
      have n1 : st = false := by
        cases st with
        | false => rfl
        | true => unfold endV at e'; rw [if_pos rfl] at e'; cases e'
      have n2 : ¬ s.at_ = (rs.length : Int) := fun z => by
        unfold endV at e'
        rw [if_neg (by rw [n1]; decide), if_pos z] at e'
        cases e'
      have n3 : ¬ (i : Int) = (fuel : Int) := fun z => by
        unfold endV at e'
        rw [if_neg (by rw [n1]; decide), if_neg n2, if_pos z] at e'
        cases e'
      have hif : i < fuel := by omega
      have hat : s.at_ < (rs.length : Int) := by have := hMs.at1; omega
      have hj : s.at_.toNat < rs.length := by have := hMs.at0; omega
      obtain ⟨v, hv, hrow⟩ := hgP s.at_.toNat rs[s.at_.toNat] (List.getElem?_eq_getElem hj)
      have er : rs.getD s.at_.toNat .stop = rs[s.at_.toNat] := by rw [List.getD_eq_getElem?_getD, List.getElem?_eq_getElem hj]; rfl
      have hro : (rs[s.at_.toNat]).ok rs.length := hok _ (List.getElem_mem hj)
      generalize rs[s.at_.toNat] = r at hrow er hro
      have hrun := r1 n1 n2
      have efu : fuel - i = (fuel - (i + 1)) + 1 := by omega
      rw [efu, runM_succ, er] at hrun
      have hMs' := step_ok (ms := ms) (t := (i : Int)) hMs hro hat
      subst n1
      refine ⟨fun σ' H' => ∃ (j : Nat) (s' : Ms) (st' : Bool), j = i + 1 ∧ σ' = [some (.ref ap), some (.ref am), some (.ref ac), some (.int fuel), some (.ref p), some (endV st' s'.at_ rs.length j fuel)] ∧ MAt C am H3 H' p lb lc ls dw dg (j : Int) j s' st' ∧ MsOk (rs.length : Int) s' ∧
          (st' = false → ¬ s'.at_ = (rs.length : Int) → runM ms rs (fuel - j) j s' = runM ms rs fuel 0 (ms0 cs)) ∧ (st' = true → runM ms rs fuel 0 (ms0 cs) = ⟨s'.said, "stop", j, s'.cells⟩) ∧ (st' = false → s'.at_ = (rs.length : Int) → runM ms rs fuel 0 (ms0 cs) = ⟨s'.said, "end", j, s'.cells⟩),
        fun σ' H' ⟨j, s', st', ej, a1, a2, a3, a4, a5, a6⟩ => ⟨fuel - j, by omega, j, s', st', a1, a2, a3, rfl, by omega, a4, a5, a6⟩, ?_⟩
      refine ⟨_, rfl, p, dx, _, rfl, ho, rfl, _, rfl, _, rfl, p, C, dx, _, _, rfl, ho, M.cl, M.nAt, mf_at, ap, _, _, v, rfl, rfl, same_tup hM.same hTP3, at_of (j := s.at_.toNat) (by have := hMs.at0; omega) hv, ?_⟩
      refine ⟨am, ms, H3, p, lb, lc, ls, dw, dg, i, s, v, r, rs.length, rfl, FV, hMl3, hMo, hM, hMs, hat, ?_, hro, by omega, fun H6 h6 => ?_⟩
      · obtain ⟨a, ea, q⟩ := hrow
        exact ⟨a, ea, same_tup sm q⟩
      refine ⟨_, rfl, _, rfl, ap, _, rfl, .inr (same_tup h6.same hTP3), _, rfl, am, H3, p, lb, lc, ls, dw, dg, (i : Int) + 1, i + 1, step ms i r s, r.stops, (vsP.length : Int), (fuel : Int), rfl, h6, ?_⟩
      rw [elen]
      refine ⟨i + 1, step ms i r s, r.stops, rfl, rfl, h6, hMs', fun q1 q2 => ?_, fun q1 => ?_, fun q1 q2 => ?_⟩
      · rw [q1, if_neg (by decide), if_neg q2] at hrun
        exact hrun
      · rw [if_pos q1] at hrun
        exact hrun.symm
      · rw [q1, if_neg (by decide), if_pos q2] at hrun
        exact hrun.symm
    · have e' : ¬ endV st s.at_ rs.length i fuel = .non := of_decide_eq_false e
      refine ⟨_, rfl, p, C, dx, _, _, rfl, ho, M.cl, M.nSaid, mf_said, _, rfl, _, rfl, p, C, dx, _, _, rfl, ho, M.cl, M.nBeat, mf_beat, _, rfl, p, C, dx, _, _, rfl, ho, M.cl, M.nCells, mf_cells, by show 4 ≤ sizeLine; decide, fun T hT => ?_⟩
      have sT := same_new hT (.tup [.ref ls, endV st s.at_ rs.length i fuel, .int (i : Int), .ref lc])
      have sA := (sm.trans hM.same)
      have fin : ∀ R : Res, runM ms rs fuel 0 (ms0 cs) = R → endV st s.at_ rs.length i fuel = .str R.fin → R.said = s.said → R.cells = s.cells → R.beats = (i : Int) → Q (.ref T) (upd H5 T (.tup [.ref ls, endV st s.at_ rs.length i fuel, .int (i : Int), .ref lc])) := by
        intro R hR h1 h2 h3 h4
        refine k T _ (sA.trans sT) ?_
        rw [hR]
        refine ⟨ls, lc, by rw [h4, ← h1]; exact upd_same, by rw [h2]; exact sT _ _ hM.hs, by rw [h3]; exact sT _ _ hM.hc, sm.free FV.s0, sm.free FV.c0, sA.free hT, FV.cs.symm⟩
      cases hst : st with
      | true =>
        subst hst
        exact fin _ (r2 rfl) rfl rfl rfl rfl
      | false =>
        subst hst
        by_cases q2 : s.at_ = (rs.length : Int)
        · refine fin _ (r3 rfl q2) ?_ rfl rfl rfl
          unfold endV
          rw [if_neg (by decide), if_pos q2]
        · have q3 : (i : Int) = (fuel : Int) := by
            by_cases q3 : (i : Int) = (fuel : Int)
            · exact q3
            · exfalso
              apply e'
              unfold endV
              rw [if_neg (by decide), if_neg q2, if_neg q3]
          have q4 : fuel - i = 0 := by omega
          have hrun := r1 rfl q2
          rw [q4] at hrun
          refine fin ⟨s.said, "long", i, s.cells⟩ hrun.symm ?_ rfl rfl rfl
          unfold endV
          rw [if_neg (by decide), if_neg q2, if_pos q3]
end
end LB
namespace LB
open PySem L2
section
variable {P : Program} {w : World} {K : PySem.W.Frag} {mg : Str → Option Value} {base : Heap}
/-- what a run tells, as data -/
def resD (R : Res) : PyData := .tuple [.list (R.said.map PyData.int), .str R.fin, .int R.beats, .list (R.cells.map PyData.int)]
theorem dp_res {H0 H : Hp} {t : Addr} {R : Res} (h : ResAt H0 H t R) : Dp K H (.ref t) (resD R) := by
  obtain ⟨ls, lc, h1, h2, h3, _⟩ := h
  exact .tup (tup_of h1) (.cons (Dp.ints (SqL.of h2)) (.cons (.str _) (.cons (.int _) (.cons (Dp.ints (SqL.of h3)) .nil))))
theorem sm_ints (n : Nat) {ns : List Int} (h : ns.length ≤ 5000) : Sm (n + 1) (.list (ns.map PyData.int)) := by
  refine .lst (by rw [List.length_map]; exact h) fun e he => ?_
  obtain ⟨z, _, rfl⟩ := List.mem_map.mp he
  exact .int _ _
theorem sm_res {R : Res} (h : ResOk R) : Sm 2 (resD R) := by
  refine .tup (by show 4 ≤ 5000; decide) fun e he => ?_
  have h1 := h.1
  have h2 := h.2
  simp only [List.mem_cons, List.not_mem_nil, or_false] at he
  rcases he with rfl | rfl | rfl | rfl
  · exact sm_ints 0 (by omega)
  · exact .str _ _
  · exact .int _ _
  · exact sm_ints 0 (by omega)
theorem keep_lst {H H' : Hp} {p l a : Addr} {xs : List V} (s : Keep p l H H') (h : H a = some (.lst xs)) (n1 : a ≠ p) (n2 : a ≠ l) : H' a = some (.lst xs) := s _ _ h n1 n2
def spLaw (K : PySem.W.Frag) : Sp := fun vs H Q _ => ∃ (a : Addr) (ns : List Int), vs = [.ref a] ∧ SqL K H a (ns.map V.int) ∧ ns.length ≤ 63 ∧ ∀ H', Q (.bl true) H'
abbrev nsLaw : List Str := ["_law_script", "_law_h", "_law_turn", "_law_program", "_law_mill_here", "_law_cells_here", "_law_fuel", "_law_due", "_law_handed", "_law_again", "_law_found"]
theorem scLaw : FnScope nsLaw ["_law_script"] (defScope sLaw) := ⟨rfl, rfl, rfl, by decide +kernel, rfl, by decide +kernel, by decide +kernel⟩
theorem ok_law {f : Addr} {fd : FuncData} (F : Fun K "law" "law" sLaw f fd) (B : Bl2 mg) (MX : Cal P w K mg base 1 "_law_mix" ["_law_script", "_law_seed"] (spMix K)) (NX : Cal P w K mg base 1 "_law_next" psN spNext) (PL : Cal P w K mg base 4 "_law_plain" ["_law_h", "_law_most"] (spPlain K)) (MI : Cal P w K mg base 2 "_law_mill" ["_law_h"] (spMill K))
    (CE : Cal P w K mg base 3 "_law_cells" ["_law_h"] (spCells K)) (LR : Cal P w K mg base 2 "_law_run" psLRun (spLRun K)) (RU : Cal P w K mg base 5 "run" psRun (spRun K)) (AL : Cal P w K mg base 3 "_law_alike" psAlike (spA K 3)) : FnOk P w K mg base CX0 6 f fd ["_law_script"] (spLaw K) := by
  refine F.ok scLaw (fun vs H Q E h => ?_) (fun cdv A outer s H vs Q E hr h => ?_)
  · obtain ⟨a, ns, rfl, _⟩ := h
    rfl
  · obtain ⟨a, ns, rfl, hS, hlen, k⟩ := h
    have hr1 : Room 1 _ := hr.mono (by decide)
    have hr2 : Room 2 _ := hr.mono (by decide)
    have hr3 : Room 3 _ := hr.mono (by decide)
    have hr4 : Room 4 _ := hr.mono (by decide)
    refine ⟨_, (pss_cons (ps_set (i := 1) scLaw.nd rfl (Or.inl rfl) (pe_cal MX hr1 (pa_cons (pv 0) (pa_cons pe_int pa_nil)))) (pss_cons (ps_for PassesOwn.never rfl (pi_range1 (by rfl) B.b.range (pa_cons pe_int pa_nil)) (pg_name (i := 2) scLaw.nd rfl (Or.inl rfl)) (pss_cons (ps_set (i := 3) scLaw.nd rfl (Or.inl rfl) (pe_cal PL hr4 (pa_cons (pv 1) (pa_cons (pe_ix ix_list (pe_lst (pa_cons pe_int (pa_cons pe_int (pa_cons pe_int (pa_cons pe_int pa_nil))))) (pe_cal NX hr1 (pa_cons (pv 1) (pa_cons pe_int pa_nil))) (fun _ _ => rfl)) pa_nil)))) (pss_cons (ps_set (i := 4) scLaw.nd rfl (Or.inl rfl) (pe_cal MI hr2 (pa_cons (pv 1) pa_nil))) (pss_cons (ps_set (i := 5) scLaw.nd rfl (Or.inl rfl) (pe_cal CE hr3 (pa_cons (pv 1) pa_nil))) (pss_cons (ps_set (i := 6) scLaw.nd rfl (Or.inl rfl) (pe_ix ix_list (pe_lst (pa_cons pe_int (pa_cons pe_int (pa_cons (pe_cal NX hr1 (pa_cons (pv 1) (pa_cons pe_int pa_nil))) (pa_cons (pe_cal NX hr1 (pa_cons (pv 1) (pa_cons pe_int pa_nil))) pa_nil))))) (pe_cal NX hr1 (pa_cons (pv 1) (pa_cons pe_int pa_nil))) (fun _ _ => rfl))) (pss_cons (ps_set (i := 7) scLaw.nd rfl (Or.inl rfl) (pe_cal LR hr2 (pa_cons (pv 3) (pa_cons (pv 4) (pa_cons (pv 5) (pa_cons (pv 6) pa_nil)))))) (pss_cons (ps_set (i := 8) scLaw.nd rfl (Or.inl rfl) (pe_callTy call_list_of (by rfl) B.b.list (by decide +kernel) (pa_cons (pv 5) pa_nil))) (pss_one (ps_for PassesOwn.never rfl (pi_range1 (by rfl) B.b.range (pa_cons pe_int pa_nil)) (pg_name (i := 9) scLaw.nd rfl (Or.inl rfl)) (pss_cons (ps_set (i := 10) scLaw.nd rfl (Or.inl rfl) (pe_cal RU hr (pa_cons (pv 3) (pa_cons (pv 4) (pa_cons (pv 8) (pa_cons (pv 6) pa_nil)))))) (pss_cons (ps_if (PW.pt (pw_or (pt_not (pt_val (pe_cal AL hr3 (pa_cons (pv 10) (pa_cons (pv 7) pa_nil))))) (pw_or1 (pt_cmpR (op_neD hr.units) (pv 8) (pv 5) (nomark _))))) (pss_one (ps_ret pe_bl)) pss_nil) (pss_cons (ps_expr (pe_bm PySem.F.plainAttrs_list PySem.F.slot_list_append PySem.F.type_list_append mt_append (pe_ix ix_tup (pv 10) pe_int (fun _ _ => rfl)) (pa_cons (pe_un un_neg pe_int) pa_nil))) (pss_one (ps_expr (pe_bm0 PySem.F.plainAttrs_list PySem.F.slot_list_clear PySem.F.type_list_clear mt_clear (pe_ix ix_tup (pv 10) pe_int (fun _ _ => rfl))))))))))))))))) (pss_one (ps_ret pe_bl)))), ?_⟩
    refine ⟨_, rfl, a, ns, 7, rfl, hS, hlen, by decide, by decide, fun p l H1 s1 hp0 hl0 h1 => ?_⟩
    refine ⟨8, rfl, by decide, by decide, for_range (lo := 0) (n := 8) (fun i σ H2 => HAt H2 p l ∧ ∃ v2 v3 v4 v5 v6 v7 v8 v9 v10 : Option V, σ = [some (.ref a), some (.ref p), v2, v3, v4, v5, v6, v7, v8, v9, v10])
      ⟨h1, none, none, none, none, none, none, none, none, none, rfl⟩ ?_ ?_⟩
    · rintro i σ H2 hi ⟨h2, v2, v3, v4, v5, v6, v7, v8, v9, v10, rfl⟩
      -- the program
      refine ⟨_, rfl, by show 4 ≤ sizeLine; decide, fun d hd => ⟨_, rfl, p, l, 4, rfl, h2.new hd, by decide, by decide, fun c H3 c0 c1 h3 k3 => ?_⟩⟩
      have hd3 : H3 d = some (.lst [.int 6, .int 14, .int 40, .int 200]) := k3 _ _ upd_same (h2.nep hd) (h2.nel hd)
      obtain ⟨v, hv, hat⟩ := at4 (a0 := V.int 6) (a1 := V.int 14) (a2 := V.int 40) (a3 := V.int 200) c0 c1
      obtain ⟨o, rfl, o0, o1⟩ : ∃ o : Int, v = .int o ∧ 0 < o ∧ o ≤ 200 := by
        rcases hv with rfl | rfl | rfl | rfl
        · exact ⟨6, rfl, by decide, by decide⟩
        · exact ⟨14, rfl, by decide, by decide⟩
        · exact ⟨40, rfl, by decide, by decide⟩
        · exact ⟨200, rfl, by decide, by decide⟩
      refine ⟨d, _, _, _, rfl, rfl, SqL.of hd3, hat, p, l, o, rfl, h3, o0, o1, fun ap rs H4 hP l0 l1 hok h4 k4 => ?_⟩
      -- the mill, the cells
      refine ⟨_, rfl, p, l, rfl, h4, fun am ms H5 hM hMo h5 k5 => ?_⟩
      refine ⟨_, rfl, p, l, rfl, h5, fun ac cs H6 hac0 hac hcl hc h6 k6 => ?_⟩
      -- the fuel
      refine ⟨_, rfl, p, l, 30, rfl, h6, by decide, by decide, fun f1 H7 f10 f11 h7 k7 => ?_⟩
      refine ⟨_, rfl, p, l, 1001, rfl, h7, by decide, by decide, fun f2 H8 f20 f21 h8 k8 => ?_⟩
      refine ⟨by show 4 ≤ sizeLine; decide, fun e he => ⟨_, rfl, p, l, 4, rfl, h8.new he, by decide, by decide, fun c' H9 c0' c1' h9 k9 => ?_⟩⟩
      have he9 : H9 e = some (.lst [.int 1000, .int 300, .int f1, .int f2]) := k9 _ _ upd_same (h8.nep he) (h8.nel he)
      obtain ⟨v', hv', hat'⟩ := at4 (a0 := V.int 1000) (a1 := V.int 300) (a2 := V.int f1) (a3 := V.int f2) c0' c1'
      obtain ⟨fu, rfl, fu1⟩ : ∃ fu : Nat, v' = .int (fu : Int) ∧ fu ≤ 1000 := by
        rcases hv' with rfl | rfl | rfl | rfl
        · exact ⟨1000, rfl, by decide⟩
        · exact ⟨300, rfl, by decide⟩
        · exact ⟨f1.toNat, by rw [Int.toNat_of_nonneg f10], by omega⟩
        · exact ⟨f2.toNat, by rw [Int.toNat_of_nonneg f20], by omega⟩
      refine ⟨e, _, _, _, rfl, rfl, SqL.of he9, hat', ?_⟩
      have k69 : Keep p l H6 H9 := (k7.trans k8).trans ((Keep.of_same (same_new he _)).trans k9)
      have k59 := k6.trans k69
      have k49 := k5.trans k59
      have hP9 := keep_prog h4 k49 hP
      have hM9 : MillAt K H9 am ms := keep_tup h5 k59 hM
      have hac9 : H9 ac = some (.lst (cs.map V.int)) := k69 _ _ hac (h5.nep hac0) (h5.nel hac0)
      have hRs : RsOk rs := ⟨l0, l1, hok⟩
      have hCs : CsOk cs := ⟨hcl, hc⟩
      have hRo : ResOk (runM ms rs fu 0 (ms0 cs)) := by
        have q := runM_ok (ms := ms) hok fu 0 (ms0 cs) (ms0_ok hCs (by omega)) (by show (0 : Int) < (rs.length : Int); omega)
        exact ⟨Nat.le_trans q.1 (by show 0 + fu ≤ 1000; omega), q.2⟩
      generalize hR : runM ms rs fu 0 (ms0 cs) = R at hRo
      -- what is due
      refine ⟨_, rfl, _, rfl, _, rfl, _, rfl, ap, am, ac, rs, ms, cs, fu, rfl, hP9, hRs, hM9, hMo, SqL.of hac9, hCs, fu1, fun td HA sA rA => ?_⟩
      rw [hR] at rA
      refine ⟨_, rfl, ac, _, rfl, .inl (SqL.of (sA _ _ hac9)), fun ah hah => ?_⟩
      have sB := same_new hah (.lst (cs.map V.int))
      have sAB := sA.trans sB
      have hdue : Dp K (upd HA ah (.lst (cs.map V.int))) (.ref td) (resD R) := dp_same sB (dp_res rA)
      have hah2 : (upd HA ah (.lst (cs.map V.int))) ah = some (.lst (cs.map V.int)) := upd_same
      have hac2 := sAB _ _ hac9
      have hP2 : ProgAt K (upd HA ah (.lst (cs.map V.int))) ap rs := same_prog sAB hP9
      have hM2 : MillAt K (upd HA ah (.lst (cs.map V.int))) am ms := same_tup sAB hM9
      have h10 : HAt (upd HA ah (.lst (cs.map V.int))) p l := h9.same sAB
      generalize upd HA ah (.lst (cs.map V.int)) = HB at hdue hah2 hac2 hP2 hM2 h10
      refine ⟨2, rfl, by decide, by decide, for_range (lo := 0) (n := 2) (fun j σ' H' => Same HB H' ∧ ∃ w2 w9 w10 : Option V, σ' = [some (.ref a), some (.ref p), w2, some (.ref ap), some (.ref am), some (.ref ac), some (.int (fu : Int)), some (.ref td), some (.ref ah), w9, w10])
        ⟨Same.refl _, _, _, _, rfl⟩ ?_ ?_⟩
      · rintro j σ' HC hj ⟨sC, w2, w9, w10, rfl⟩
        refine ⟨_, rfl, _, rfl, _, rfl, _, rfl, ap, am, ah, rs, ms, cs, fu, rfl, same_prog sC hP2, hRs, same_tup sC hM2, hMo, SqL.of (sC _ _ hah2), hCs, fu1, fun tf HD sD rD => ?_⟩
        rw [hR] at rD
        refine ⟨_, rfl, _, rfl, .ref tf, .ref td, resD R, rfl, dp_res rD, dp_same (sC.trans sD) hdue, sm_res hRo, fun HE sE => ⟨true, rfl, iteF ?_⟩⟩
        have sCE := (sC.trans sD).trans sE
        refine ⟨_, rfl, _, rfl, _, _, Dp.ints (SqL.of (sCE _ _ hah2)), Dp.ints (SqL.of (sCE _ _ hac2)), shaped_ints cs, shaped_ints cs, _, rfl, ?_⟩
        rw [eqv_lists, decide_eq_true rfl]
        refine iteF ?_
        obtain ⟨ls, lc, r1, r2, r3, r4, r5, r6, r7⟩ := rD
        have r1' := sE _ _ r1
        refine ⟨_, rfl, tf, _, _, .ref ls, rfl, rfl, tup_of r1', rfl, .inl ⟨rfl, _, SqL.of (sE _ _ r2)⟩, 1, rfl, ls, _, _, rfl, rfl, sE _ _ r2, small1000 (by rw [List.length_map]; exact hRo.1), ?_⟩
        have ntl : tf ≠ ls := fun z => by
          rw [z, r2] at r1
          cases r1
        refine ⟨_, rfl, tf, _, _, .ref lc, rfl, rfl, tup_of (by rw [upd_ne ntl]; exact r1'), rfl, .inl ⟨rfl, _, SqL.of (by rw [upd_ne r7.symm]; exact sE _ _ r3)⟩, lc, _, rfl, rfl, by rw [upd_ne r7.symm]; exact sE _ _ r3, ?_⟩
        exact ⟨fun b u z => by
          rw [upd_ne (ne_of_none (sC _ _ z) r5), upd_ne (ne_of_none (sC _ _ z) r4)]
          exact sCE b u z, _, _, _, rfl⟩
      · rintro σ' HC ⟨sC, w2, w9, w10, rfl⟩
        exact ⟨h10.same sC, _, _, _, _, _, _, _, _, _, rfl⟩
    · rintro σ H2 ⟨h2, v2, v3, v4, v5, v6, v7, v8, v9, v10, rfl⟩
      exact k _
end
end LB
namespace LB
open PySem L2
theorem all_mk {l : PySem.W.OpenLaw} {w : World} {K : PySem.W.Frag} {h : Heap} {mg : Str → Option Value} {fa f1 f2 f3 f4 f5 f6 f7 f8 f9 f10 f11 f12 f13 f14 f15 f16 f17 f18 f19 f20 f21 f22 f23 f24 f25 f26 f27 f28 f29 f30 f31 f32 f33 C dS dL tM : Addr} {od1 an1 od2 an2 od3 an3 od4 an4 od5 an5 od6 an6 od7 an7 od8 an8 od9 an9 od10 an10 od11 an11 od12 an12 od13 an13 od14 an14 od15 an15 od16 an16 od17 an17 od18 an18 od19 an19 od20 an20 od21 an21 od22 an22 od23 an23 od24 an24 od25 an25 od26 an26 od27 an27 od28 an28 od29 an29 od30 an30 od31 an31 od32 an32 od33 an33 : Option Addr} {sl1 sl2 sl3 sl4 sl5 sl6 sl7 sl8 sl9 sl10 sl11 sl12 sl13 sl14 sl15 sl16 sl17 sl18 sl19 sl20 sl21 sl22 sl23 sl24 sl25 sl26 sl27 sl28 sl29 sl30 sl31 sl32 sl33 : Array (Option Value)} {oc1 kV1 dc1 pm1 cd1 ct1 oc2 kV2 dc2 pm2 cd2 ct2 oc3 kV3 dc3 pm3 cd3 ct3 oc4 kV4 dc4 pm4 cd4 ct4 oc5 kV5 dc5 pm5 cd5 ct5 oc6 kV6 dc6 pm6 cd6 ct6 oc7 kV7 dc7 pm7 cd7 ct7 oc8 kV8 dc8 pm8 cd8 ct8 oc9 kV9 dc9 pm9 cd9 ct9 oc10 kV10 dc10 pm10 cd10 ct10 oc11 kV11 dc11 pm11 cd11 ct11 oc12 kV12 dc12 pm12 cd12 ct12 oc13 kV13 dc13 pm13 cd13 ct13 oc14 kV14 dc14 pm14 cd14 ct14 oc15 kV15 dc15 pm15 cd15 ct15 oc16 kV16 dc16 pm16 cd16 ct16 oc17 kV17 dc17 pm17 cd17 ct17 oc18 kV18 dc18 pm18 cd18 ct18 oc19 kV19 dc19 pm19 cd19 ct19 oc20 kV20 dc20 pm20 cd20 ct20 oc21 kV21 dc21 pm21 cd21 ct21 oc22 kV22 dc22 pm22 cd22 ct22 oc23 kV23 dc23 pm23 cd23 ct23 oc24 kV24 dc24 pm24 cd24 ct24 oc25 kV25 dc25 pm25 cd25 ct25 oc26 kV26 dc26 pm26 cd26 ct26 oc27 kV27 dc27 pm27 cd27 ct27 oc28 kV28 dc28 pm28 cd28 ct28 oc29 kV29 dc29 pm29 cd29 ct29 oc30 kV30 dc30 pm30 cd30 ct30 oc31 kV31 dc31 pm31 cd31 ct31 oc32 kV32 dc32 pm32 cd32 ct32 oc33 kV33 dc33 pm33 cd33 ct33 : Value} {tBOXES tCELLS tMOST_HELD tMOST_ROWS tJUMP_AT tMOST_FUEL : Tok} {esdS esdL : Array DictEntry} {ndS ndL ntM : Nat} {otM : Obj} {ittM : Array Value}  (X : K.In h) (G : h.Ns mainGlobals mg) (hfa : mg "law" = some (.ref fa))
    (aC : PySem.W.nsIn K mainGlobals "Machine" = some (some (.ref C)))
    (a1 : PySem.W.nsIn K mainGlobals "_law_mix" = some (some (.ref f1)))
    (l1 : K.lookup f1 = some ⟨oc1, od1, .func (PySem.W.fnOf "_law_mix" "_law_mix" (defArgs sMix) (defBody sMix) (defScope sMix) .none kV1 dc1 pm1 an1 cd1 ct1), sl1⟩)
    (c1 : PySem.W.codeIn K cd1 "_law_mix" = true)
    (k1 : PySem.W.keepIn K (.ref f1) = true)
    (a2 : PySem.W.nsIn K mainGlobals "_law_next" = some (some (.ref f2)))
    (l2 : K.lookup f2 = some ⟨oc2, od2, .func (PySem.W.fnOf "_law_next" "_law_next" (defArgs sNext) (defBody sNext) (defScope sNext) .none kV2 dc2 pm2 an2 cd2 ct2), sl2⟩)
    (c2 : PySem.W.codeIn K cd2 "_law_next" = true)
    (k2 : PySem.W.keepIn K (.ref f2) = true)
    (a3 : PySem.W.nsIn K mainGlobals "_law_number" = some (some (.ref f3)))
    (l3 : K.lookup f3 = some ⟨oc3, od3, .func (PySem.W.fnOf "_law_number" "_law_number" (defArgs sNumber) (defBody sNumber) (defScope sNumber) .none kV3 dc3 pm3 an3 cd3 ct3), sl3⟩)
    (c3 : PySem.W.codeIn K cd3 "_law_number" = true)
    (k3 : PySem.W.keepIn K (.ref f3) = true)
    (a4 : PySem.W.nsIn K mainGlobals "_law_mill" = some (some (.ref f4)))
    (l4 : K.lookup f4 = some ⟨oc4, od4, .func (PySem.W.fnOf "_law_mill" "_law_mill" (defArgs sMill) (defBody sMill) (defScope sMill) .none kV4 dc4 pm4 an4 cd4 ct4), sl4⟩)
    (c4 : PySem.W.codeIn K cd4 "_law_mill" = true)
    (k4 : PySem.W.keepIn K (.ref f4) = true)
    (a5 : PySem.W.nsIn K mainGlobals "_law_boxes" = some (some (.ref f5)))
    (l5 : K.lookup f5 = some ⟨oc5, od5, .func (PySem.W.fnOf "_law_boxes" "_law_boxes" (defArgs sBoxes) (defBody sBoxes) (defScope sBoxes) .none kV5 dc5 pm5 an5 cd5 ct5), sl5⟩)
    (c5 : PySem.W.codeIn K cd5 "_law_boxes" = true)
    (k5 : PySem.W.keepIn K (.ref f5) = true)
    (a6 : PySem.W.nsIn K mainGlobals "_law_cells" = some (some (.ref f6)))
    (l6 : K.lookup f6 = some ⟨oc6, od6, .func (PySem.W.fnOf "_law_cells" "_law_cells" (defArgs sCells) (defBody sCells) (defScope sCells) .none kV6 dc6 pm6 an6 cd6 ct6), sl6⟩)
    (c6 : PySem.W.codeIn K cd6 "_law_cells" = true)
    (k6 : PySem.W.keepIn K (.ref f6) = true)
    (a7 : PySem.W.nsIn K mainGlobals "_law_deed" = some (some (.ref f7)))
    (l7 : K.lookup f7 = some ⟨oc7, od7, .func (PySem.W.fnOf "_law_deed" "_law_deed" (defArgs sDeed) (defBody sDeed) (defScope sDeed) .none kV7 dc7 pm7 an7 cd7 ct7), sl7⟩)
    (c7 : PySem.W.codeIn K cd7 "_law_deed" = true)
    (k7 : PySem.W.keepIn K (.ref f7) = true)
    (a8 : PySem.W.nsIn K mainGlobals "_law_jump" = some (some (.ref f8)))
    (l8 : K.lookup f8 = some ⟨oc8, od8, .func (PySem.W.fnOf "_law_jump" "_law_jump" (defArgs sJump) (defBody sJump) (defScope sJump) .none kV8 dc8 pm8 an8 cd8 ct8), sl8⟩)
    (c8 : PySem.W.codeIn K cd8 "_law_jump" = true)
    (k8 : PySem.W.keepIn K (.ref f8) = true)
    (a9 : PySem.W.nsIn K mainGlobals "_law_plain" = some (some (.ref f9)))
    (l9 : K.lookup f9 = some ⟨oc9, od9, .func (PySem.W.fnOf "_law_plain" "_law_plain" (defArgs sPlain) (defBody sPlain) (defScope sPlain) .none kV9 dc9 pm9 an9 cd9 ct9), sl9⟩)
    (c9 : PySem.W.codeIn K cd9 "_law_plain" = true)
    (k9 : PySem.W.keepIn K (.ref f9) = true)
    (a10 : PySem.W.nsIn K mainGlobals "is_whole" = some (some (.ref f10)))
    (l10 : K.lookup f10 = some ⟨oc10, od10, .func (PySem.W.fnOf "is_whole" "is_whole" (defArgs sWhole) (defBody sWhole) (defScope sWhole) .none kV10 dc10 pm10 an10 cd10 ct10), sl10⟩)
    (c10 : PySem.W.codeIn K cd10 "is_whole" = true)
    (k10 : PySem.W.keepIn K (.ref f10) = true)
    (a11 : PySem.W.nsIn K mainGlobals "most_for" = some (some (.ref f11)))
    (l11 : K.lookup f11 = some ⟨oc11, od11, .func (PySem.W.fnOf "most_for" "most_for" (defArgs sMost) (defBody sMost) (defScope sMost) .none kV11 dc11 pm11 an11 cd11 ct11), sl11⟩)
    (c11 : PySem.W.codeIn K cd11 "most_for" = true)
    (k11 : PySem.W.keepIn K (.ref f11) = true)
    (a12 : PySem.W.nsIn K mainGlobals "is_row" = some (some (.ref f12)))
    (l12 : K.lookup f12 = some ⟨oc12, od12, .func (PySem.W.fnOf "is_row" "is_row" (defArgs sRow) (defBody sRow) (defScope sRow) .none kV12 dc12 pm12 an12 cd12 ct12), sl12⟩)
    (c12 : PySem.W.codeIn K cd12 "is_row" = true)
    (k12 : PySem.W.keepIn K (.ref f12) = true)
    (a13 : PySem.W.nsIn K mainGlobals "first_flaw" = some (some (.ref f13)))
    (l13 : K.lookup f13 = some ⟨oc13, od13, .func (PySem.W.fnOf "first_flaw" "first_flaw" (defArgs s_first_flaw) (defBody s_first_flaw) (defScope s_first_flaw) .none kV13 dc13 pm13 an13 cd13 ct13), sl13⟩)
    (c13 : PySem.W.codeIn K cd13 "first_flaw" = true)
    (k13 : PySem.W.keepIn K (.ref f13) = true)
    (a14 : PySem.W.nsIn K mainGlobals "check_program" = some (some (.ref f14)))
    (l14 : K.lookup f14 = some ⟨oc14, od14, .func (PySem.W.fnOf "check_program" "check_program" (defArgs sChkP) (defBody sChkP) (defScope sChkP) .none kV14 dc14 pm14 an14 cd14 ct14), sl14⟩)
    (c14 : PySem.W.codeIn K cd14 "check_program" = true)
    (k14 : PySem.W.keepIn K (.ref f14) = true)
    (a15 : PySem.W.nsIn K mainGlobals "check_mill" = some (some (.ref f15)))
    (l15 : K.lookup f15 = some ⟨oc15, od15, .func (PySem.W.fnOf "check_mill" "check_mill" (defArgs sChkM) (defBody sChkM) (defScope sChkM) .none kV15 dc15 pm15 an15 cd15 ct15), sl15⟩)
    (c15 : PySem.W.codeIn K cd15 "check_mill" = true)
    (k15 : PySem.W.keepIn K (.ref f15) = true)
    (a16 : PySem.W.nsIn K mainGlobals "check_cells" = some (some (.ref f16)))
    (l16 : K.lookup f16 = some ⟨oc16, od16, .func (PySem.W.fnOf "check_cells" "check_cells" (defArgs sChkC) (defBody sChkC) (defScope sChkC) .none kV16 dc16 pm16 an16 cd16 ct16), sl16⟩)
    (c16 : PySem.W.codeIn K cd16 "check_cells" = true)
    (k16 : PySem.W.keepIn K (.ref f16) = true)
    (a17 : PySem.W.nsIn K mainGlobals "check_fuel" = some (some (.ref f17)))
    (l17 : K.lookup f17 = some ⟨oc17, od17, .func (PySem.W.fnOf "check_fuel" "check_fuel" (defArgs sChkF) (defBody sChkF) (defScope sChkF) .none kV17 dc17 pm17 an17 cd17 ct17), sl17⟩)
    (c17 : PySem.W.codeIn K cd17 "check_fuel" = true)
    (k17 : PySem.W.keepIn K (.ref f17) = true)
    (a18 : PySem.W.nsIn K mainGlobals "made_in" = some (some (.ref f18)))
    (l18 : K.lookup f18 = some ⟨oc18, od18, .func (PySem.W.fnOf "made_in" "made_in" (defArgs sMade) (defBody sMade) (defScope sMade) .none kV18 dc18 pm18 an18 cd18 ct18), sl18⟩)
    (c18 : PySem.W.codeIn K cd18 "made_in" = true)
    (k18 : PySem.W.keepIn K (.ref f18) = true)
    (a19 : PySem.W.nsIn K mainGlobals "lateness" = some (some (.ref f19)))
    (l19 : K.lookup f19 = some ⟨oc19, od19, .func (PySem.W.fnOf "lateness" "lateness" (defArgs sLate) (defBody sLate) (defScope sLate) .none kV19 dc19 pm19 an19 cd19 ct19), sl19⟩)
    (c19 : PySem.W.codeIn K cd19 "lateness" = true)
    (k19 : PySem.W.keepIn K (.ref f19) = true)
    (a20 : PySem.W.nsIn K mainGlobals "reckoned" = some (some (.ref f20)))
    (l20 : K.lookup f20 = some ⟨oc20, od20, .func (PySem.W.fnOf "reckoned" "reckoned" (defArgs sReck) (defBody sReck) (defScope sReck) .none kV20 dc20 pm20 an20 cd20 ct20), sl20⟩)
    (c20 : PySem.W.codeIn K cd20 "reckoned" = true)
    (k20 : PySem.W.keepIn K (.ref f20) = true)
    (a21 : PySem.W.nsIn K mainGlobals "ending" = some (some (.ref f21)))
    (l21 : K.lookup f21 = some ⟨oc21, od21, .func (PySem.W.fnOf "ending" "ending" (defArgs sEnding) (defBody sEnding) (defScope sEnding) .none kV21 dc21 pm21 an21 cd21 ct21), sl21⟩)
    (c21 : PySem.W.codeIn K cd21 "ending" = true)
    (k21 : PySem.W.keepIn K (.ref f21) = true)
    (a22 : PySem.W.nsIn K mainGlobals "_law_late" = some (some (.ref f22)))
    (l22 : K.lookup f22 = some ⟨oc22, od22, .func (PySem.W.fnOf "_law_late" "_law_late" (defArgs sLLate) (defBody sLLate) (defScope sLLate) .none kV22 dc22 pm22 an22 cd22 ct22), sl22⟩)
    (c22 : PySem.W.codeIn K cd22 "_law_late" = true)
    (k22 : PySem.W.keepIn K (.ref f22) = true)
    (a23 : PySem.W.nsIn K mainGlobals "_law_comes" = some (some (.ref f23)))
    (l23 : K.lookup f23 = some ⟨oc23, od23, .func (PySem.W.fnOf "_law_comes" "_law_comes" (defArgs sComes) (defBody sComes) (defScope sComes) .none kV23 dc23 pm23 an23 cd23 ct23), sl23⟩)
    (c23 : PySem.W.codeIn K cd23 "_law_comes" = true)
    (k23 : PySem.W.keepIn K (.ref f23) = true)
    (a24 : PySem.W.nsIn K mainGlobals "_law_run" = some (some (.ref f24)))
    (l24 : K.lookup f24 = some ⟨oc24, od24, .func (PySem.W.fnOf "_law_run" "_law_run" (defArgs sLRun) (defBody sLRun) (defScope sLRun) .none kV24 dc24 pm24 an24 cd24 ct24), sl24⟩)
    (c24 : PySem.W.codeIn K cd24 "_law_run" = true)
    (k24 : PySem.W.keepIn K (.ref f24) = true)
    (a25 : PySem.W.nsIn K mainGlobals "run" = some (some (.ref f25)))
    (l25 : K.lookup f25 = some ⟨oc25, od25, .func (PySem.W.fnOf "run" "run" (defArgs sRun) (defBody sRun) (defScope sRun) .none kV25 dc25 pm25 an25 cd25 ct25), sl25⟩)
    (c25 : PySem.W.codeIn K cd25 "run" = true)
    (k25 : PySem.W.keepIn K (.ref f25) = true)
    (a26 : PySem.W.nsIn K mainGlobals "_law_alike" = some (some (.ref f26)))
    (l26 : K.lookup f26 = some ⟨oc26, od26, .func (PySem.W.fnOf "_law_alike" "_law_alike" (defArgs sAlike) (defBody sAlike) (defScope sAlike) .none kV26 dc26 pm26 an26 cd26 ct26), sl26⟩)
    (c26 : PySem.W.codeIn K cd26 "_law_alike" = true)
    (k26 : PySem.W.keepIn K (.ref f26) = true)
    (a27 : PySem.W.nsIn K mainGlobals "law" = some (some (.ref f27)))
    (l27 : K.lookup f27 = some ⟨oc27, od27, .func (PySem.W.fnOf "law" "law" (defArgs sLaw) (defBody sLaw) (defScope sLaw) .none kV27 dc27 pm27 an27 cd27 ct27), sl27⟩)
    (c27 : PySem.W.codeIn K cd27 "law" = true)
    (k27 : PySem.W.keepIn K (.ref f27) = true)
    (a28 : PySem.W.findIn K (.ref C) "__init__" = some (some (.ref f28)))
    (i28 : PySem.W.isFn K (.ref f28) = true)
    (l28 : K.lookup f28 = some ⟨oc28, od28, .func (PySem.W.fnOf "__init__" "Machine.__init__" (defArgs sMInit) (defBody sMInit) (defScope sMInit) .none kV28 dc28 pm28 an28 cd28 ct28), sl28⟩)
    (c28 : PySem.W.codeIn K cd28 "Machine.__init__" = true)
    (k28 : PySem.W.keepIn K (.ref f28) = true)
    (a29 : PySem.W.findIn K (.ref C) "do_row" = some (some (.ref f29)))
    (i29 : PySem.W.isFn K (.ref f29) = true)
    (l29 : K.lookup f29 = some ⟨oc29, od29, .func (PySem.W.fnOf "do_row" "Machine.do_row" (defArgs sDoRow) (defBody sDoRow) (defScope sDoRow) .none kV29 dc29 pm29 an29 cd29 ct29), sl29⟩)
    (c29 : PySem.W.codeIn K cd29 "Machine.do_row" = true)
    (k29 : PySem.W.keepIn K (.ref f29) = true)
    (a30 : PySem.W.findIn K (.ref C) "begin_beat" = some (some (.ref f30)))
    (i30 : PySem.W.isFn K (.ref f30) = true)
    (l30 : K.lookup f30 = some ⟨oc30, od30, .func (PySem.W.fnOf "begin_beat" "Machine.begin_beat" (defArgs sBegin) (defBody sBegin) (defScope sBegin) .none kV30 dc30 pm30 an30 cd30 ct30), sl30⟩)
    (c30 : PySem.W.codeIn K cd30 "Machine.begin_beat" = true)
    (k30 : PySem.W.keepIn K (.ref f30) = true)
    (a31 : PySem.W.findIn K (.ref C) "send" = some (some (.ref f31)))
    (i31 : PySem.W.isFn K (.ref f31) = true)
    (l31 : K.lookup f31 = some ⟨oc31, od31, .func (PySem.W.fnOf "send" "Machine.send" (defArgs sSend) (defBody sSend) (defScope sSend) .none kV31 dc31 pm31 an31 cd31 ct31), sl31⟩)
    (c31 : PySem.W.codeIn K cd31 "Machine.send" = true)
    (k31 : PySem.W.keepIn K (.ref f31) = true)
    (a32 : PySem.W.findIn K (.ref C) "cell_of" = some (some (.ref f32)))
    (i32 : PySem.W.isFn K (.ref f32) = true)
    (l32 : K.lookup f32 = some ⟨oc32, od32, .func (PySem.W.fnOf "cell_of" "Machine.cell_of" (defArgs sCellOf) (defBody sCellOf) (defScope sCellOf) .none kV32 dc32 pm32 an32 cd32 ct32), sl32⟩)
    (c32 : PySem.W.codeIn K cd32 "Machine.cell_of" = true)
    (k32 : PySem.W.keepIn K (.ref f32) = true)
    (a33 : PySem.W.findIn K (.ref C) "worth" = some (some (.ref f33)))
    (i33 : PySem.W.isFn K (.ref f33) = true)
    (l33 : K.lookup f33 = some ⟨oc33, od33, .func (PySem.W.fnOf "worth" "Machine.worth" (defArgs sWorth) (defBody sWorth) (defScope sWorth) .none kV33 dc33 pm33 an33 cd33 ct33), sl33⟩)
    (c33 : PySem.W.codeIn K cd33 "Machine.worth" = true)
    (k33 : PySem.W.keepIn K (.ref f33) = true)
    (pg : PySem.W.plainGet K C Str.empty = true)
    (hd : PySem.W.hasDictIn K C = true)
    (po : PySem.W.plainOver K C = true)
    (sa : PySem.W.findIn K (.ref C) "__setattr__" = some (some (.builtin "object.__setattr__")))
    (mk : PySem.W.makesIn K C = true)
    (kc : PySem.W.keepIn K (.ref C) = true)
    (nmill : PySem.W.findIn K (.ref C) "mill" = some none)
    (nboxes : PySem.W.findIn K (.ref C) "boxes" = some none)
    (ncells : PySem.W.findIn K (.ref C) "cells" = some none)
    (nsaid : PySem.W.findIn K (.ref C) "said" = some none)
    (nbeat : PySem.W.findIn K (.ref C) "beat" = some none)
    (nat : PySem.W.findIn K (.ref C) "at" = some none)
    (nstopped : PySem.W.findIn K (.ref C) "stopped" = some none)
    (nworths : PySem.W.findIn K (.ref C) "worths" = some none)
    (ngoings : PySem.W.findIn K (.ref C) "goings" = some none)
    (zlen : PySem.W.nsIn K mainGlobals "len" = some none)
    (zlist : PySem.W.nsIn K mainGlobals "list" = some none)
    (zmax : PySem.W.nsIn K mainGlobals "max" = some none)
    (zmin : PySem.W.nsIn K mainGlobals "min" = some none)
    (ztuple : PySem.W.nsIn K mainGlobals "tuple" = some none)
    (zrange : PySem.W.nsIn K mainGlobals "range" = some none)
    (zisinstance : PySem.W.nsIn K mainGlobals "isinstance" = some none)
    (zint : PySem.W.nsIn K mainGlobals "int" = some none)
    (zbool : PySem.W.nsIn K mainGlobals "bool" = some none)
    (zstr : PySem.W.nsIn K mainGlobals "str" = some none)
    (zall : PySem.W.nsIn K mainGlobals "all" = some none)
    (zzip : PySem.W.nsIn K mainGlobals "zip" = some none)
    (zenumerate : PySem.W.nsIn K mainGlobals "enumerate" = some none)
    (gBOXES : PySem.W.nsIn K mainGlobals "BOXES" = some (some (.int 8 tBOXES)))
    (gCELLS : PySem.W.nsIn K mainGlobals "CELLS" = some (some (.int 16 tCELLS)))
    (gMOST_HELD : PySem.W.nsIn K mainGlobals "MOST_HELD" = some (some (.int 999 tMOST_HELD)))
    (gMOST_ROWS : PySem.W.nsIn K mainGlobals "MOST_ROWS" = some (some (.int 200 tMOST_ROWS)))
    (gJUMP_AT : PySem.W.nsIn K mainGlobals "JUMP_AT" = some (some (.int 3 tJUMP_AT)))
    (gMOST_FUEL : PySem.W.nsIn K mainGlobals "MOST_FUEL" = some (some (.int 1000 tMOST_FUEL)))
    (rdS : PySem.W.nsIn K mainGlobals "SIGNS" = some (some (.ref dS)))
    (ldS : K.lookup dS = some ⟨.type "dict", none, .dict esdS ndS, #[]⟩)
    (litdS : PySem.W.KeysLit w.params esdS.toList)
    (lowdS : (dS == sysModules) = false)
    (entdS : EntsAt esdS.toList signsTab)
    (rdL : PySem.W.nsIn K mainGlobals "LATE_AT" = some (some (.ref dL)))
    (ldL : K.lookup dL = some ⟨.type "dict", none, .dict esdL ndL, #[]⟩)
    (litdL : PySem.W.KeysLit w.params esdL.toList)
    (lowdL : (dL == sysModules) = false)
    (entdL : EntsAt esdL.toList lateTab)
    (rtM : PySem.W.nsIn K mainGlobals "MOST_LATE" = some (some (.ref tM)))
    (lttM : K.lookup tM = some otM)
    (lctM : otM.cls = .type "tuple")
    (ldtM : otM.data = .seq ittM ntM)
    (lstM : ittM.size ≤ sizeLine)
    (lvtM : Vals [.int 2, .int 4, .int 4, .int 3] ittM.toList) :
    ∃ fd : FuncData, (∀ (s : Shared) (v : Value), BindsTo s fd ⟨[v], []⟩ [("_law_script", v)]) ∧ ∀ base : Heap, K.In base → base.Ns mainGlobals mg → FnOk l.prog w K mg base CX0 6 fa fd ["_law_script"] (spLaw K) := by
  have e := hfa.symm.trans (PySem.W.mg_of X G a27)
  cases e
  have B : Bl2 mg := ⟨⟨PySem.W.mg_none_of X G zlen, PySem.W.mg_none_of X G zlist, PySem.W.mg_none_of X G zmax, PySem.W.mg_none_of X G zmin, PySem.W.mg_none_of X G ztuple, PySem.W.mg_none_of X G zrange⟩, PySem.W.mg_none_of X G zisinstance, PySem.W.mg_none_of X G zint, PySem.W.mg_none_of X G zbool, PySem.W.mg_none_of X G zstr, PySem.W.mg_none_of X G zall, PySem.W.mg_none_of X G zzip, PySem.W.mg_none_of X G zenumerate⟩
  have hBOXES : ∃ t, mg "BOXES" = some (.int 8 t) := ⟨_, PySem.W.mg_of X G gBOXES⟩
  have hCELLS : ∃ t, mg "CELLS" = some (.int 16 t) := ⟨_, PySem.W.mg_of X G gCELLS⟩
  have hMOST_HELD : ∃ t, mg "MOST_HELD" = some (.int 999 t) := ⟨_, PySem.W.mg_of X G gMOST_HELD⟩
  have hMOST_ROWS : ∃ t, mg "MOST_ROWS" = some (.int 200 t) := ⟨_, PySem.W.mg_of X G gMOST_ROWS⟩
  have hJUMP_AT : ∃ t, mg "JUMP_AT" = some (.int 3 t) := ⟨_, PySem.W.mg_of X G gJUMP_AT⟩
  have hMOST_FUEL : ∃ t, mg "MOST_FUEL" = some (.int 1000 t) := ⟨_, PySem.W.mg_of X G gMOST_FUEL⟩
  have GB : Gb K w mg dS := ⟨hBOXES, hMOST_HELD, hMOST_ROWS, PySem.W.mg_of X G rdS, ⟨esdS, ndS, ⟨ldS, litdS, lowdS⟩, entdS⟩⟩
  have GG : Gs K w mg dS dL tM := ⟨GB, PySem.W.mg_of X G rdL, ⟨esdL, ndL, ⟨ldL, litdL, lowdL⟩, entdL⟩, PySem.W.mg_of X G rtM, ⟨otM, ittM, ntM, lttM, lctM, ldtM, lstM, lvtM⟩⟩
  have M : Mc K mg C := ⟨⟨pg, hd, po, sa⟩, nmill, nboxes, ncells, nsaid, nbeat, nat, nstopped, nworths, ngoings, PySem.W.mg_of X G aC⟩
  have F1 := fun_mk (st := sMix) l1 c1 k1
  have b1 := F1.binds (ps := ["_law_script", "_law_seed"]) fun _ _ _ _ _ _ us hl => match us, hl with | [_, _], _ => rfl
  have m1 := PySem.W.mg_of X G a1
  have F2 := fun_mk (st := sNext) l2 c2 k2
  have b2 := F2.binds (ps := ["_law_h", "_law_many"]) fun _ _ _ _ _ _ us hl => match us, hl with | [_, _], _ => rfl
  have m2 := PySem.W.mg_of X G a2
  have F3 := fun_mk (st := sNumber) l3 c3 k3
  have b3 := F3.binds (ps := ["_law_h"]) fun _ _ _ _ _ _ us hl => match us, hl with | [_], _ => rfl
  have m3 := PySem.W.mg_of X G a3
  have F4 := fun_mk (st := sMill) l4 c4 k4
  have b4 := F4.binds (ps := ["_law_h"]) fun _ _ _ _ _ _ us hl => match us, hl with | [_], _ => rfl
  have m4 := PySem.W.mg_of X G a4
  have F5 := fun_mk (st := sBoxes) l5 c5 k5
  have b5 := F5.binds (ps := ["_law_h"]) fun _ _ _ _ _ _ us hl => match us, hl with | [_], _ => rfl
  have m5 := PySem.W.mg_of X G a5
  have F6 := fun_mk (st := sCells) l6 c6 k6
  have b6 := F6.binds (ps := ["_law_h"]) fun _ _ _ _ _ _ us hl => match us, hl with | [_], _ => rfl
  have m6 := PySem.W.mg_of X G a6
  have F7 := fun_mk (st := sDeed) l7 c7 k7
  have b7 := F7.binds (ps := ["_law_h", "_law_e"]) fun _ _ _ _ _ _ us hl => match us, hl with | [_, _], _ => rfl
  have m7 := PySem.W.mg_of X G a7
  have F8 := fun_mk (st := sJump) l8 c8 k8
  have b8 := F8.binds (ps := ["_law_h", "_law_e", "_law_at", "_law_rows"]) fun _ _ _ _ _ _ us hl => match us, hl with | [_, _, _, _], _ => rfl
  have m8 := PySem.W.mg_of X G a8
  have F9 := fun_mk (st := sPlain) l9 c9 k9
  have b9 := F9.binds (ps := ["_law_h", "_law_most"]) fun _ _ _ _ _ _ us hl => match us, hl with | [_, _], _ => rfl
  have m9 := PySem.W.mg_of X G a9
  have F10 := fun_mk (st := sWhole) l10 c10 k10
  have b10 := F10.binds (ps := ["x", "most"]) fun _ _ _ _ _ _ us hl => match us, hl with | [_, _], _ => rfl
  have m10 := PySem.W.mg_of X G a10
  have F11 := fun_mk (st := sMost) l11 c11 k11
  have b11 := F11.binds (ps := ["sign", "many"]) fun _ _ _ _ _ _ us hl => match us, hl with | [_, _], _ => rfl
  have m11 := PySem.W.mg_of X G a11
  have F12 := fun_mk (st := sRow) l12 c12 k12
  have b12 := F12.binds (ps := ["row", "many"]) fun _ _ _ _ _ _ us hl => match us, hl with | [_, _], _ => rfl
  have m12 := PySem.W.mg_of X G a12
  have F13 := fun_mk (st := s_first_flaw) l13 c13 k13
  have b13 := F13.binds (ps := ["rows", "many"]) fun _ _ _ _ _ _ us hl => match us, hl with | [_, _], _ => rfl
  have m13 := PySem.W.mg_of X G a13
  have F14 := fun_mk (st := sChkP) l14 c14 k14
  have b14 := F14.binds (ps := ["program"]) fun _ _ _ _ _ _ us hl => match us, hl with | [_], _ => rfl
  have m14 := PySem.W.mg_of X G a14
  have F15 := fun_mk (st := sChkM) l15 c15 k15
  have b15 := F15.binds (ps := ["mill"]) fun _ _ _ _ _ _ us hl => match us, hl with | [_], _ => rfl
  have m15 := PySem.W.mg_of X G a15
  have F16 := fun_mk (st := sChkC) l16 c16 k16
  have b16 := F16.binds (ps := ["cells"]) fun _ _ _ _ _ _ us hl => match us, hl with | [_], _ => rfl
  have m16 := PySem.W.mg_of X G a16
  have F17 := fun_mk (st := sChkF) l17 c17 k17
  have b17 := F17.binds (ps := ["fuel"]) fun _ _ _ _ _ _ us hl => match us, hl with | [_], _ => rfl
  have m17 := PySem.W.mg_of X G a17
  have F18 := fun_mk (st := sMade) l18 c18 k18
  have b18 := F18.binds (ps := ["row"]) fun _ _ _ _ _ _ us hl => match us, hl with | [_], _ => rfl
  have m18 := PySem.W.mg_of X G a18
  have F19 := fun_mk (st := sLate) l19 c19 k19
  have b19 := F19.binds (ps := ["row", "mill"]) fun _ _ _ _ _ _ us hl => match us, hl with | [_, _], _ => rfl
  have m19 := PySem.W.mg_of X G a19
  have F20 := fun_mk (st := sReck) l20 c20 k20
  have b20 := F20.binds (ps := ["word", "one", "other"]) fun _ _ _ _ _ _ us hl => match us, hl with | [_, _, _], _ => rfl
  have m20 := PySem.W.mg_of X G a20
  have F21 := fun_mk (st := sEnding) l21 c21 k21
  have b21 := F21.binds (ps := ["machine", "many", "fuel"]) fun _ _ _ _ _ _ us hl => match us, hl with | [_, _, _], _ => rfl
  have m21 := PySem.W.mg_of X G a21
  have F22 := fun_mk (st := sLLate) l22 c22 k22
  have b22 := F22.binds (ps := ["_law_row", "_law_mill_here"]) fun _ _ _ _ _ _ us hl => match us, hl with | [_, _], _ => rfl
  have m22 := PySem.W.mg_of X G a22
  have F23 := fun_mk (st := sComes) l23 c23 k23
  have b23 := F23.binds (ps := ["_law_row", "_law_boxes_here", "_law_cells_here"]) fun _ _ _ _ _ _ us hl => match us, hl with | [_, _, _], _ => rfl
  have m23 := PySem.W.mg_of X G a23
  have F24 := fun_mk (st := sLRun) l24 c24 k24
  have b24 := F24.binds (ps := ["_law_program", "_law_mill_here", "_law_cells_here", "_law_fuel"]) fun _ _ _ _ _ _ us hl => match us, hl with | [_, _, _, _], _ => rfl
  have m24 := PySem.W.mg_of X G a24
  have F25 := fun_mk (st := sRun) l25 c25 k25
  have b25 := F25.binds (ps := ["program", "mill", "cells", "fuel"]) fun _ _ _ _ _ _ us hl => match us, hl with | [_, _, _, _], _ => rfl
  have m25 := PySem.W.mg_of X G a25
  have F26 := fun_mk (st := sAlike) l26 c26 k26
  have b26 := F26.binds (ps := ["_law_found", "_law_due"]) fun _ _ _ _ _ _ us hl => match us, hl with | [_, _], _ => rfl
  have m26 := PySem.W.mg_of X G a26
  have F27 := fun_mk (st := sLaw) l27 c27 k27
  have b27 := F27.binds (ps := ["_law_script"]) fun _ _ _ _ _ _ us hl => match us, hl with | [_], _ => rfl
  have m27 := PySem.W.mg_of X G a27
  have F28 := fun_mk (st := sMInit) l28 c28 k28
  have b28 := F28.binds (ps := ["self", "mill", "cells"]) fun _ _ _ _ _ _ us hl => match us, hl with | [_, _, _], _ => rfl
  have F29 := fun_mk (st := sDoRow) l29 c29 k29
  have b29 := F29.binds (ps := ["self", "row"]) fun _ _ _ _ _ _ us hl => match us, hl with | [_, _], _ => rfl
  have F30 := fun_mk (st := sBegin) l30 c30 k30
  have b30 := F30.binds (ps := ["self"]) fun _ _ _ _ _ _ us hl => match us, hl with | [_], _ => rfl
  have F31 := fun_mk (st := sSend) l31 c31 k31
  have b31 := F31.binds (ps := ["self", "box", "worth", "beat"]) fun _ _ _ _ _ _ us hl => match us, hl with | [_, _, _, _], _ => rfl
  have F32 := fun_mk (st := sCellOf) l32 c32 k32
  have b32 := F32.binds (ps := ["self", "box"]) fun _ _ _ _ _ _ us hl => match us, hl with | [_, _], _ => rfl
  have F33 := fun_mk (st := sWorth) l33 c33 k33
  have b33 := F33.binds (ps := ["self", "row"]) fun _ _ _ _ _ _ us hl => match us, hl with | [_, _], _ => rfl
  refine ⟨PySem.W.fnOf "law" "law" (defArgs sLaw) (defBody sLaw) (defScope sLaw) .none kV27 dc27 pm27 an27 cd27 ct27, fun s v => .of_eq rfl, fun base _ _ => ?_⟩
  · skip
    have MX := Cal.mk' (P := l.prog) (w := w) (base := base) (ok_mix F1 B.b.list) m1 F1.kp b1
    have NX := Cal.mk' (P := l.prog) (w := w) (base := base) (ok_next F2 B.b.max B.b.len) m2 F2.kp b2
    have NU := Cal.mk' (P := l.prog) (w := w) (base := base) (ok_number F3 NX) m3 F3.kp b3
    have MI := Cal.mk' (P := l.prog) (w := w) (base := base) (ok_mill F4 NX B.b) m4 F4.kp b4
    have BO := Cal.mk' (P := l.prog) (w := w) (base := base) (ok_boxes F5 NX) m5 F5.kp b5
    have CE := Cal.mk' (P := l.prog) (w := w) (base := base) (ok_cells F6 NU B.b) m6 F6.kp b6
    have DE := Cal.mk' (P := l.prog) (w := w) (base := base) (ok_deed F7 NX NU B.b) m7 F7.kp b7
    have JU := Cal.mk' (P := l.prog) (w := w) (base := base) (ok_jump F8 NX B.b) m8 F8.kp b8
    have PL := Cal.mk' (P := l.prog) (w := w) (base := base) (ok_plain F9 NX BO DE JU B.b) m9 F9.kp b9
    have WH := Cal.mk' (P := l.prog) (w := w) (base := base) (ok_whole F10 B) m10 F10.kp b10
    have MO := Cal.mk' (P := l.prog) (w := w) (base := base) (ok_most F11 GB) m11 F11.kp b11
    have RW := row_d (Cal.mk' (P := l.prog) (w := w) (base := base) (ok_row F12 WH MO B GB) m12 F12.kp b12)
    have FF := Cal.mk' (P := l.prog) (w := w) (base := base) (ok_flaw F13 RW B hMOST_ROWS) m13 F13.kp b13
    have KP := chkP_old (Cal.mk' (P := l.prog) (w := w) (base := base) (ok_chkPn F14 FF B hMOST_ROWS) m14 F14.kp b14)
    have KM := Cal.mk' (P := l.prog) (w := w) (base := base) (ok_chkM F15 WH B GG) m15 F15.kp b15
    have KC := Cal.mk' (P := l.prog) (w := w) (base := base) (ok_chkC F16 WH B GG hCELLS) m16 F16.kp b16
    have KF := Cal.mk' (P := l.prog) (w := w) (base := base) (ok_chkF F17 WH hMOST_FUEL) m17 F17.kp b17
    have MD := Cal.mk' (P := l.prog) (w := w) (base := base) (ok_made F18 GG) m18 F18.kp b18
    have LT := Cal.mk' (P := l.prog) (w := w) (base := base) (ok_late F19 GG) m19 F19.kp b19
    have RE := Cal.mk' (P := l.prog) (w := w) (base := base) (ok_reck F20 GG) m20 F20.kp b20
    have EN := Cal.mk' (P := l.prog) (w := w) (base := base) (ok_ending F21 M) m21 F21.kp b21
    have LL := Cal.mk' (P := l.prog) (w := w) (base := base) (ok_llate F22) m22 F22.kp b22
    have CO := Cal.mk' (P := l.prog) (w := w) (base := base) (ok_comes F23) m23 F23.kp b23
    have LR := Cal.mk' (P := l.prog) (w := w) (base := base) (ok_lrun F24 LL CO B) m24 F24.kp b24
    have CC : ∀ am, CalM l.prog w K mg base C _ _ _ _ := fun am => ⟨f32, _, ok_cellOf (am := am) F32 M hCELLS, ⟨a32, i32, k32⟩, b32⟩
    have CW : ∀ am, CalM l.prog w K mg base C _ _ _ _ := fun am => ⟨f33, _, ok_worth (am := am) F33 M (CC am) RE, ⟨a33, i33, k33⟩, b33⟩
    have CS : ∀ am, CalM l.prog w K mg base C _ _ _ _ := fun am => ⟨f31, _, ok_send (am := am) F31 M, ⟨a31, i31, k31⟩, b31⟩
    have CB : ∀ am, CalM l.prog w K mg base C _ _ _ _ := fun am => ⟨f30, _, ok_begin (am := am) F30 M, ⟨a30, i30, k30⟩, b30⟩
    have DR : CalM l.prog w K mg base C _ _ _ _ := ⟨f29, _, ok_dorow F29 M hJUMP_AT CC CW CS CB LT MD, ⟨a29, i29, k29⟩, b29⟩
    have RU := Cal.mk' (P := l.prog) (w := w) (base := base) (ok_run F25 M B KP KM KC KF ⟨mk, a28, i28, kc⟩ (ok_minit F28 M GG B) b28 DR EN) m25 F25.kp b25
    have AL := Cal.mk' (P := l.prog) (w := w) (base := base) (alike_all F26 m26 b26 B 3) m26 F26.kp b26
    exact ok_law F27 B MX NX PL MI CE LR RU AL
end LB
open PySem PySem.W PyProof.Rows
set_option maxRecDepth 100000 in
set_option maxHeartbeats 0 in
theorem PySem.Challenge.cw_lateboxes_k03_runs_beat_by_beat_holds : PySem.Challenge.rw_lateboxes_k03_runs_beat_by_beat.Holds := by
  w_on; o_law; k_head; (case hw => w_witness2)
  k_fill
  refine L2.walk_of (l := PySem.Challenge.rw_lateboxes_k03_runs_beat_by_beat) (n := 63) (k := 6) (x := "_law_script") (CX := fun _ => L2.CX0) (sp := fun w => LB.spLaw _) rfl (by decide) rfl ⟨rfl, by decide, by decide⟩ (fun w h Y => PySem.W.kIn_of Y) ?F (fun _ _ a ns hl _ hS => ⟨a, ns, rfl, hS, hl, fun _ => rfl⟩) (fun _ _ _ _ _ h => h)
  case F =>
    intro w mg fa h KX G hmg
    refine' LB.all_mk KX G hmg ?aC ?a1 ?l1 ?c1 ?k1 ?a2 ?l2 ?c2 ?k2 ?a3 ?l3 ?c3 ?k3 ?a4 ?l4 ?c4 ?k4 ?a5 ?l5 ?c5 ?k5 ?a6 ?l6 ?c6 ?k6 ?a7 ?l7 ?c7 ?k7 ?a8 ?l8 ?c8 ?k8 ?a9 ?l9 ?c9 ?k9 ?a10 ?l10 ?c10 ?k10 ?a11 ?l11 ?c11 ?k11 ?a12 ?l12 ?c12 ?k12 ?a13 ?l13 ?c13 ?k13 ?a14 ?l14 ?c14 ?k14 ?a15 ?l15 ?c15 ?k15 ?a16 ?l16 ?c16 ?k16 ?a17 ?l17 ?c17 ?k17 ?a18 ?l18 ?c18 ?k18 ?a19 ?l19 ?c19 ?k19 ?a20 ?l20 ?c20 ?k20 ?a21 ?l21 ?c21 ?k21 ?a22 ?l22 ?c22 ?k22 ?a23 ?l23 ?c23 ?k23 ?a24 ?l24 ?c24 ?k24 ?a25 ?l25 ?c25 ?k25 ?a26 ?l26 ?c26 ?k26 ?a27 ?l27 ?c27 ?k27 ?a28 ?i28 ?l28 ?c28 ?k28 ?a29 ?i29 ?l29 ?c29 ?k29 ?a30 ?i30 ?l30 ?c30 ?k30 ?a31 ?i31 ?l31 ?c31 ?k31 ?a32 ?i32 ?l32 ?c32 ?k32 ?a33 ?i33 ?l33 ?c33 ?k33 ?pg ?hd ?po ?sa ?mk ?kc ?nmill ?nboxes ?ncells ?nsaid ?nbeat ?nat ?nstopped ?nworths ?ngoings ?zlen ?zlist ?zmax ?zmin ?ztuple ?zrange ?zisinstance ?zint ?zbool ?zstr ?zall ?zzip ?zenumerate ?gBOXES ?gCELLS ?gMOST_HELD ?gMOST_ROWS ?gJUMP_AT ?gMOST_FUEL ?rdS ?ldS ?litdS ?lowdS ?entdS ?rdL ?ldL ?litdL ?lowdL ?entdL ?rtM ?lttM ?lctM ?ldtM ?lstM ?lvtM
    (case aC => k_is)
    (case a1 => k_is)
    (case l1 => k_is)
    (case c1 => k_is)
    (case k1 => k_is)
    (case a2 => k_is)
    (case l2 => k_is)
    (case c2 => k_is)
    (case k2 => k_is)
    (case a3 => k_is)
    (case l3 => k_is)
    (case c3 => k_is)
    (case k3 => k_is)
    (case a4 => k_is)
    (case l4 => k_is)
    (case c4 => k_is)
    (case k4 => k_is)
    (case a5 => k_is)
    (case l5 => k_is)
    (case c5 => k_is)
    (case k5 => k_is)
    (case a6 => k_is)
    (case l6 => k_is)
    (case c6 => k_is)
    (case k6 => k_is)
    (case a7 => k_is)
    (case l7 => k_is)
    (case c7 => k_is)
    (case k7 => k_is)
    (case a8 => k_is)
    (case l8 => k_is)
    (case c8 => k_is)
    (case k8 => k_is)
    (case a9 => k_is)
    (case l9 => k_is)
    (case c9 => k_is)
    (case k9 => k_is)
    (case a10 => k_is)
    (case l10 => k_is)
    (case c10 => k_is)
    (case k10 => k_is)
    (case a11 => k_is)
    (case l11 => k_is)
    (case c11 => k_is)
    (case k11 => k_is)
    (case a12 => k_is)
    (case l12 => k_is)
    (case c12 => k_is)
    (case k12 => k_is)
    (case a13 => k_is)
    (case l13 => k_is)
    (case c13 => k_is)
    (case k13 => k_is)
    (case a14 => k_is)
    (case l14 => k_is)
    (case c14 => k_is)
    (case k14 => k_is)
    (case a15 => k_is)
    (case l15 => k_is)
    (case c15 => k_is)
    (case k15 => k_is)
    (case a16 => k_is)
    (case l16 => k_is)
    (case c16 => k_is)
    (case k16 => k_is)
    (case a17 => k_is)
    (case l17 => k_is)
    (case c17 => k_is)
    (case k17 => k_is)
    (case a18 => k_is)
    (case l18 => k_is)
    (case c18 => k_is)
    (case k18 => k_is)
    (case a19 => k_is)
    (case l19 => k_is)
    (case c19 => k_is)
    (case k19 => k_is)
    (case a20 => k_is)
    (case l20 => k_is)
    (case c20 => k_is)
    (case k20 => k_is)
    (case a21 => k_is)
    (case l21 => k_is)
    (case c21 => k_is)
    (case k21 => k_is)
    (case a22 => k_is)
    (case l22 => k_is)
    (case c22 => k_is)
    (case k22 => k_is)
    (case a23 => k_is)
    (case l23 => k_is)
    (case c23 => k_is)
    (case k23 => k_is)
    (case a24 => k_is)
    (case l24 => k_is)
    (case c24 => k_is)
    (case k24 => k_is)
    (case a25 => k_is)
    (case l25 => k_is)
    (case c25 => k_is)
    (case k25 => k_is)
    (case a26 => k_is)
    (case l26 => k_is)
    (case c26 => k_is)
    (case k26 => k_is)
    (case a27 => k_is)
    (case l27 => k_is)
    (case c27 => k_is)
    (case k27 => k_is)
    (case a28 => k_is)
    (case i28 => k_is)
    (case l28 => k_is)
    (case c28 => k_is)
    (case k28 => k_is)
    (case a29 => k_is)
    (case i29 => k_is)
    (case l29 => k_is)
    (case c29 => k_is)
    (case k29 => k_is)
    (case a30 => k_is)
    (case i30 => k_is)
    (case l30 => k_is)
    (case c30 => k_is)
    (case k30 => k_is)
    (case a31 => k_is)
    (case i31 => k_is)
    (case l31 => k_is)
    (case c31 => k_is)
    (case k31 => k_is)
    (case a32 => k_is)
    (case i32 => k_is)
    (case l32 => k_is)
    (case c32 => k_is)
    (case k32 => k_is)
    (case a33 => k_is)
    (case i33 => k_is)
    (case l33 => k_is)
    (case c33 => k_is)
    (case k33 => k_is)
    (case pg => k_is)
    (case hd => k_is)
    (case po => k_is)
    (case sa => k_is)
    (case mk => k_is)
    (case kc => k_is)
    (case nmill => k_is)
    (case nboxes => k_is)
    (case ncells => k_is)
    (case nsaid => k_is)
    (case nbeat => k_is)
    (case nat => k_is)
    (case nstopped => k_is)
    (case nworths => k_is)
    (case ngoings => k_is)
    (case zlen => k_is)
    (case zlist => k_is)
    (case zmax => k_is)
    (case zmin => k_is)
    (case ztuple => k_is)
    (case zrange => k_is)
    (case zisinstance => k_is)
    (case zint => k_is)
    (case zbool => k_is)
    (case zstr => k_is)
    (case zall => k_is)
    (case zzip => k_is)
    (case zenumerate => k_is)
    (case gBOXES => k_is)
    (case gCELLS => k_is)
    (case gMOST_HELD => k_is)
    (case gMOST_ROWS => k_is)
    (case gJUMP_AT => k_is)
    (case gMOST_FUEL => k_is)
    (case rdS => k_is)
    (case ldS => k_is)
    (case litdS => exact ⟨⟨_, _, rfl, rfl⟩, ⟨_, _, rfl, rfl⟩, ⟨_, _, rfl, rfl⟩, ⟨_, _, rfl, rfl⟩, ⟨_, _, rfl, rfl⟩, ⟨_, _, rfl, rfl⟩, ⟨_, _, rfl, rfl⟩, ⟨_, _, rfl, rfl⟩, ⟨_, _, rfl, rfl⟩, ⟨_, _, rfl, rfl⟩, ⟨_, _, rfl, rfl⟩, ⟨_, _, rfl, rfl⟩, trivial⟩)
    (case lowdS => rfl)
    (case entdS => exact ⟨⟨_, rfl⟩, ⟨_, rfl⟩, ⟨_, rfl⟩, ⟨_, rfl⟩, ⟨_, rfl⟩, ⟨_, rfl⟩, ⟨_, rfl⟩, ⟨_, rfl⟩, ⟨_, rfl⟩, ⟨_, rfl⟩, ⟨_, rfl⟩, ⟨_, rfl⟩, ⟨_, rfl⟩, ⟨_, rfl⟩, ⟨_, rfl⟩, ⟨_, rfl⟩, ⟨_, rfl⟩, ⟨_, rfl⟩, ⟨_, rfl⟩, ⟨_, rfl⟩, ⟨_, rfl⟩, ⟨_, rfl⟩, ⟨_, rfl⟩, ⟨_, rfl⟩, trivial⟩)
    (case rdL => k_is)
    (case ldL => k_is)
    (case litdL => exact ⟨⟨_, _, rfl, rfl⟩, ⟨_, _, rfl, rfl⟩, ⟨_, _, rfl, rfl⟩, ⟨_, _, rfl, rfl⟩, ⟨_, _, rfl, rfl⟩, ⟨_, _, rfl, rfl⟩, trivial⟩)
    (case lowdL => rfl)
    (case entdL => exact ⟨⟨_, rfl⟩, ⟨_, rfl⟩, ⟨_, rfl⟩, ⟨_, rfl⟩, ⟨_, rfl⟩, ⟨_, rfl⟩, ⟨_, rfl⟩, ⟨_, rfl⟩, ⟨_, rfl⟩, ⟨_, rfl⟩, ⟨_, rfl⟩, ⟨_, rfl⟩, trivial⟩)
    (case rtM => k_is)
    (case lttM => k_is)
    (case lctM => rfl)
    (case ldtM => rfl)
    (case lstM => decide)
    (case lvtM => exact .cons ⟨_, rfl⟩ (.cons ⟨_, rfl⟩ (.cons ⟨_, rfl⟩ (.cons ⟨_, rfl⟩ .nil))))
