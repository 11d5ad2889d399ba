import PyProof.Rows.All
import Wide.All
import OpenK.AllK
import Wide.FinOn
import Open.SpecLaws
import KE.OsGo
import HandS.ForSpec
import HandS.ForMost
import HandS.Zip
import HandS.Walk
import HandS.Deep
import PySem.Challenge.RW_badnet_s01_answers
set_option Elab.async false
set_option linter.all false
set_option maxRecDepth 100000
set_option maxHeartbeats 8000000
namespace Bn
open PySem PySem.Spec PyProof.Rows L2
/-! ### heaps -/
def Keeps (O : Addr → Prop) (H H' : Hp) : Prop := ∀ b o, H b = some o → ¬ O b → H' b = some o
/-- O and what was free -/
def Or (O : Addr → Prop) (H : Hp) : Addr → Prop := fun x => O x ∨ H x = none
theorem Keeps.refl (O : Addr → Prop) (H : Hp) : Keeps O H H := fun _ _ h _ => h
theorem Keeps.of_same {O : Addr → Prop} {H H' : Hp} (s : Same H H') : Keeps O H H' := fun b o h _ => s b o h
theorem Keeps.trans {O : Addr → Prop} {H H1 H2 : Hp} (a : Keeps O H H1) (b : Keeps (Or O H) H1 H2) : Keeps O H H2 := fun c o h n =>
  b c o (a c o h n) (fun z => z.elim n fun e => by rw [e] at h; cases h)
theorem Keeps.mono {O O' : Addr → Prop} {H H' : Hp} (a : Keeps O H H') (h : ∀ x, O x → O' x) : Keeps O' H H' := fun c o e n => a c o e fun z => n (h c z)
theorem Keeps.upd {O : Addr → Prop} {H H' : Hp} {p : Addr} {o : HO} (a : Keeps O H H') (h : O p ∨ H p = none) : Keeps O H (upd H' p o) := fun c u e n => by
  have q : c ≠ p := fun z => by
    subst z
    exact h.elim n fun h => by rw [h] at e; cases e
  rw [upd_ne q]
  exact a c u e n
theorem same_new {H : Hp} {p : Addr} {o : HO} (h : H p = none) : Same H (upd H p o) := fun b u e => by
  rw [upd_ne (ne_of_none e h)]
  exact e
theorem Same.new {H H' : Hp} {p : Addr} {o : HO} (s : Same H H') (h : H' p = none) : Same H (upd H' p o) := s.trans (same_new h)
/-- a list of one's own, made since -/
theorem Same.own {H H' : Hp} {p : Addr} {o : HO} (s : Same H H') (h : H p = none) : Same H (upd H' p o) := fun b u e => by
  rw [upd_ne (ne_of_none e h)]
  exact s b u e
/-! ### fields -/
theorem lk_here {k : Str} {v : V} {r : List (Str × V)} : List.lookup k ((k, v) :: r) = some v := by
  have e : (k == k) = true := beq_self_eq_true k
  simp only [List.lookup, e]
theorem lk_past {k g : Str} {v : V} {r : List (Str × V)} {o : Option V} (h : (k == g) = false) (t : List.lookup k r = o) : List.lookup k ((g, v) :: r) = o := by
  simp only [List.lookup, h]
  exact t
theorem put_here {f : Str} {v x : V} {r : List (Str × V)} : putF f v ((f, x) :: r) = (f, v) :: r := if_pos rfl
theorem put_past {f g : Str} {v x : V} {r r' : List (Str × V)} (h : ¬ g = f) (t : putF f v r = r') : putF f v ((g, x) :: r) = (g, x) :: r' := by
  rw [← t]
  exact if_neg h
/-! ### calls -/
section
variable (P : Program) (w : World) (K : PySem.W.Frag) (mg : Str → Option Value) (base : Heap)
/-- a method that keeps a promise -/
def MethOk (C : Addr) (m : Str) (k : Nat) (ps : List Str) (sp : Sp) : Prop := ∃ (f : Addr) (fd : FuncData), Meth K C m f ∧ FnOk P w K mg base CX0 k f fd ps sp ∧ Binds K fd ps []
/-- a def of the top -/
def DefOk (x : Str) (k : Nat) (ps : List Str) (sp : Sp) : Prop := ∃ (f : Addr) (fd : FuncData), mg x = some (.ref f) ∧ PySem.W.keepIn K (.ref f) = true ∧ FnOk P w K mg base CX0 k f fd ps sp ∧ Binds K fd ps []
/-- a class that makes instances -/
def MakeOk (x : Str) (C : Addr) (k : Nat) (ps : List Str) (sp : Sp) : Prop := ∃ (f : Addr) (fd : FuncData), mg x = some (.ref C) ∧ Mk K C f ∧ FnOk P w K mg base CX0 k f fd ps sp ∧ Binds K fd ps []
end
/-- a[j] of a list, read to be changed (j counted from the front) -/
def rAtL (K : PySem.W.Frag) : V → V → Hp → VK → Prop := fun o i H Q => ∃ (l : Addr) (vs : List V) (j : Nat) (v : V), o = .ref l ∧ i = .int (j : Int) ∧ SqL K H l vs ∧ vs[j]? = some v ∧ Q v H
theorem get_list {X : Cx} : PGet X (rAtL X.K) := by
  rintro pins s σ H _ _ ov iv Q I ro ri ⟨l, vs, j, v, rfl, rfl, stands, there, go⟩
  cases ro
  obtain ⟨t, rfl⟩ := ri
  obtain ⟨us, rel, place, small⟩ := I.list stands
  obtain ⟨u, hu, hrel⟩ := rel.get there
  have hj : j < vs.length := (List.getElem?_eq_some_iff.mp there).1
  have far := line63
  exact wpAny_getItem_list place.isList (Int.natCast_nonneg j) (by omega) (by simpa using hu) ⟨v, H, I, hrel, go⟩
/-! ### lists -/
theorem take_more {α : Type} {l : List α} {i : Nat} {x : α} (h : l[i]? = some x) : l.take (i + 1) = l.take i ++ [x] := by
  rw [List.take_succ, h]
  rfl
theorem if_true_of {c : Bool} {A B : Prop} (hc : c = true) (h : A) : if c = true then A else B := by
  rw [if_pos hc]
  exact h
theorem if_false_of {c : Bool} {A B : Prop} (hc : c = false) (h : B) : if c = true then A else B := by
  rw [hc, if_neg Bool.false_ne_true]
  exact h
theorem yes_of {σ : L2.St} {H : Hp} {A B : Hp → Prop} (h : A H) : tYes σ H (fun b H3 => if b = true then A H3 else B H3) := by
  show (if true = true then A H else B H)
  rw [if_pos rfl]
  exact h
theorem units65 {k : Nat} {A : Around} (r : Room k A) : A.units + 65 < cLine := by
  have := r.un
  omega
theorem nodup_ix {α : Type} {l : List α} {i j : Nat} {x : α} (nd : l.Nodup) (h1 : l[i]? = some x) (h2 : l[j]? = some x) : i = j := by
  obtain ⟨a1, e1⟩ := List.getElem?_eq_some_iff.mp h1
  obtain ⟨a2, e2⟩ := List.getElem?_eq_some_iff.mp h2
  have p := List.pairwise_iff_getElem.mp nd
  rcases Nat.lt_trichotomy i j with h | h | h
  · exact absurd (e1.trans e2.symm) (p i j a1 a2 h)
  · exact h
  · exact absurd (e2.trans e1.symm) (p j i a2 a1 h)
/-- len, over a written part (in a comprehension) -/
def rLenK (K : PySem.W.Frag) : List V → Hp → VK → Prop := fun xs H Q => ∃ p ys, xs = [V.ref p] ∧ (SqL K H p ys ∨ SqT K H p ys) ∧ Q (V.int ys.length) H
def nV (n : Nat) : V := .int (n : Int)
theorem nV_inj {a b : Nat} (h : nV a = nV b) : a = b := by
  unfold nV at h
  injection h with h
  omega
theorem small_size {n : Nat} (h : n ≤ 1000) : n ≤ sizeLine := Nat.le_of_lt (small1000 h)
/-! ### the text -/
def top (i : Nat) : Stmt := PySem.Challenge.pw_badnet_s01_answers.main.body.getD i (.Pass ⟨0, 0, 0, 0⟩)
end Bn

namespace Bn
open PySem PySem.Spec PyProof.Rows L2
abbrev sNextLuck : Stmt := top 5
abbrev sSideOf : Stmt := top 6
abbrev sPlaceBeside : Stmt := top 7
abbrev sWInit : Stmt := inClass (top 8) 0
abbrev sTick : Stmt := inClass (top 8) 1
abbrev sMove : Stmt := inClass (top 8) 2
abbrev sLay : Stmt := inClass (top 8) 3
abbrev sNumbers : Stmt := inClass (top 8) 4
abbrev sWSum : Stmt := inClass (top 8) 5
/-! ### what the top has of it -/
def stX (k : Nat) : Nat := [0, 1, 0, 7, 0].getD k 0
def stY (k : Nat) : Nat := [0, 0, 1, 0, 7].getD k 0
def StepsOk (K : PySem.W.Frag) (mg : Str → Option Value) : Prop := ∃ (aS : Addr) (ss : List Addr), mg "STEPS" = some (.ref aS) ∧ ss.length = 5 ∧ (∀ H, SqT K H aS (ss.map V.ref)) ∧
  ∀ k s, ss[k]? = some s → ∀ H, SqT K H s [nV (stX k), nV (stY k)]
structure TxtW (K : PySem.W.Frag) (mg : Str → Option Value) (CW : Addr) : Prop where
  side : ∃ t, mg "SIDE" = some (.int 8 t)
  lucks : ∃ t, mg "LUCKS" = some (.int 2147483648 t)
  sums : ∃ t, mg "SUMS" = some (.int 1000000007 t)
  steps : StepsOk K mg
  cl : Cls K CW
  nPl : NoAttr K CW "places"
  nPo : NoAttr K CW "points"
  nCo : NoAttr K CW "coin"
  nLu : NoAttr K CW "luck"
  range : mg "range" = none
  enumerate : mg "enumerate" = none
  zip : mg "zip" = none
/-! ### the promises -/
def spNextLuck : Sp := fun vs H Q _ => ∃ n : Nat, vs = [nV n] ∧ Q (nV (Ge14.next n)) H
def spSideOf : Sp := fun vs H Q _ => ∃ n : Nat, vs = [nV n] ∧ Q (nV (n / 65536 % 8)) H
def At2 (H : Hp) (t : Addr) (x y : Nat) : Prop := H t = some (.tup [nV x, nV y])
def spPlaceBeside : Sp := fun vs H Q _ => ∃ (t : Addr) (x y k : Nat), vs = [.ref t, nV k] ∧ At2 H t x y ∧ x < 8 ∧ y < 8 ∧ k ≤ 4 ∧
  ∀ (H' : Hp) (p : Addr), H p = none → Same H H' → At2 H' p (Ge14.goes x y k).1 (Ge14.goes x y k).2 → Q (.ref p) H'
section
variable {P : Program} {w : World} {K : PySem.W.Frag} {mg : Str → Option Value} {base : Heap} {CW : Addr}
theorem scNextLuck : FnScope ["luck"] ["luck"] (defScope sNextLuck) := ⟨rfl, rfl, rfl, by decide +kernel, rfl, by decide +kernel, by decide +kernel⟩
theorem ok_nextLuck {f : Addr} {fd : FuncData} (F : Fun K "next_luck" "next_luck" sNextLuck f fd) (T : TxtW K mg CW) : FnOk P w K mg base CX0 1 f fd ["luck"] spNextLuck := by
  obtain ⟨tL, mL⟩ := T.lucks
  refine F.ok scNextLuck (fun vs H Q E h => ?_) (fun cdv A outer s H vs Q E hr h => ?_)
  · obtain ⟨n, rfl, _⟩ := h
    rfl
  · obtain ⟨n, rfl, k⟩ := h
    refine ⟨_, pss_one (ps_ret (pe_op op_mod (pe_op op_add (pe_op op_mul pe_int (pv 0)) pe_int) (pe_glob (v := .int 2147483648) rfl mL ⟨_, rfl⟩))), ?_⟩
    refine ⟨_, rfl, _, _, rfl, rfl, .inl ⟨by decide, by decide⟩, _, _, rfl, rfl, _, _, rfl, rfl, (by show (0 : Int) < 2147483648; decide), ?_⟩
    have e : (1103515245 * (n : Int) + 12345) % 2147483648 = ((Ge14.next n : Nat) : Int) := by
      unfold Ge14.next
      omega
    show Q (V.int ((1103515245 * (n : Int) + 12345) % 2147483648)) H
    rw [e]
    exact k
theorem scSideOf : FnScope ["luck"] ["luck"] (defScope sSideOf) := ⟨rfl, rfl, rfl, by decide +kernel, rfl, by decide +kernel, by decide +kernel⟩
theorem ok_sideOf {f : Addr} {fd : FuncData} (F : Fun K "side_of" "side_of" sSideOf f fd) (T : TxtW K mg CW) : FnOk P w K mg base CX0 1 f fd ["luck"] spSideOf := by
  obtain ⟨tL, mL⟩ := T.side
  refine F.ok scSideOf (fun vs H Q E h => ?_) (fun cdv A outer s H vs Q E hr h => ?_)
  · obtain ⟨n, rfl, _⟩ := h
    rfl
  · obtain ⟨n, rfl, k⟩ := h
    refine ⟨_, pss_one (ps_ret (pe_op op_mod (pe_op op_fdiv (pv 0) pe_int) (pe_glob (v := .int 8) rfl mL ⟨_, rfl⟩))), ?_⟩
    refine ⟨_, rfl, _, _, rfl, rfl, ⟨by decide, by decide⟩, _, _, rfl, rfl, (by show (0 : Int) < 8; decide), ?_⟩
    have e : ((n : Int) / 65536) % 8 = ((n / 65536 % 8 : Nat) : Int) := by omega
    show Q (V.int (((n : Int) / 65536) % 8)) H
    rw [e]
    exact k
theorem goes_steps {x y k : Nat} (hx : x < 8) (hy : y < 8) (hk : k ≤ 4) : (x + stX k) % 8 = (Ge14.goes x y k).1 ∧ (y + stY k) % 8 = (Ge14.goes x y k).2 := by
  have : k = 0 ∨ k = 1 ∨ k = 2 ∨ k = 3 ∨ k = 4 := by omega
  rcases this with rfl | rfl | rfl | rfl | rfl <;> simp [Ge14.goes, stX, stY, Ge14.SIZE] <;> omega
theorem goes_lt {x y : Nat} (k : Nat) (hx : x < 8) (hy : y < 8) : (Ge14.goes x y k).1 < 8 ∧ (Ge14.goes x y k).2 < 8 := by
  unfold Ge14.goes Ge14.SIZE
  split
  · exact ⟨by omega, by omega⟩
  · split
    · exact ⟨by omega, by omega⟩
    · split
      · exact ⟨by omega, by omega⟩
      · split
        · exact ⟨by omega, by omega⟩
        · exact ⟨hx, hy⟩
theorem scPlaceBeside : FnScope ["place", "key", "step"] ["place", "key"] (defScope sPlaceBeside) := ⟨rfl, rfl, rfl, by decide +kernel, rfl, by decide +kernel, by decide +kernel⟩
theorem ok_placeBeside {f : Addr} {fd : FuncData} (F : Fun K "place_beside" "place_beside" sPlaceBeside f fd) (T : TxtW K mg CW) : FnOk P w K mg base CX0 1 f fd ["place", "key"] spPlaceBeside := by
  obtain ⟨tL, mL⟩ := T.side
  obtain ⟨aS, ss, mS, lS, hS, hs⟩ := T.steps
  refine F.ok scPlaceBeside (fun vs H Q E h => ?_) (fun cdv A outer s H vs Q E hr h => ?_)
  · obtain ⟨t, x, y, k, rfl, _⟩ := h
    rfl
  · obtain ⟨t, x, y, k, rfl, ht, hx, hy, hk, q⟩ := h
    have hkl : k < ss.length := by omega
    have ek : ss[k]? = some ss[k] := List.getElem?_eq_getElem hkl
    have h2 := hs k _ ek
    refine ⟨_, pss_cons (ps_set (i := 2) scPlaceBeside.nd rfl (Or.inl rfl) (pe_ix ix_tup (pe_glob (v := .ref aS) rfl mS rfl) (pv 1) (fun _ _ => rfl)))
      (pss_one (ps_ret (pe_tup (pa_cons (pe_op op_mod (pe_op op_add (pe_ix ix_tup (pv 0) pe_int (fun _ _ => rfl)) (pe_ix ix_tup (pv 2) pe_int (fun _ _ => rfl))) (pe_glob (v := .int 8) rfl mL ⟨_, rfl⟩))
        (pa_cons (pe_op op_mod (pe_op op_add (pe_ix ix_tup (pv 0) pe_int (fun _ _ => rfl)) (pe_ix ix_tup (pv 2) pe_int (fun _ _ => rfl))) (pe_glob (v := .int 8) rfl mL ⟨_, rfl⟩)) pa_nil))))), ?_⟩
    refine ⟨_, rfl, aS, _, _, .ref ss[k], rfl, rfl, hS H, atI_nat (by rw [List.getElem?_map, ek]; rfl), ?_⟩
    refine ⟨_, rfl, t, _, _, nV x, rfl, rfl, SqT.of ht, atI_nat (j := 0) rfl, _, rfl, ss[k], _, _, nV (stX k), rfl, rfl, h2 H, atI_nat (j := 0) rfl, _, _, rfl, rfl, _, _, rfl, rfl, (by show (0 : Int) < 8; decide), ?_⟩
    refine ⟨_, rfl, t, _, _, nV y, rfl, rfl, SqT.of ht, atI_nat (j := 1) rfl, _, rfl, ss[k], _, _, nV (stY k), rfl, rfl, h2 H, atI_nat (j := 1) rfl, _, _, rfl, rfl, _, _, rfl, rfl, (by show (0 : Int) < 8; decide), ?_⟩
    refine ⟨(by show 2 ≤ sizeLine; decide), fun p hp => ?_⟩
    refine q _ p hp (same_new hp) ?_
    obtain ⟨e1, e2⟩ := goes_steps hx hy hk
    unfold At2
    rw [upd_same, ← e1, ← e2]
    have e3 : ((x : Int) + (stX k : Int)) % 8 = (((x + stX k) % 8 : Nat) : Int) := by omega
    have e4 : ((y : Int) + (stY k : Int)) % 8 = (((y + stY k) % 8 : Nat) : Int) := by omega
    show some (HO.tup [V.int (((x : Int) + (stX k : Int)) % 8), V.int (((y : Int) + (stY k : Int)) % 8)]) = _
    rw [e3, e4]
    rfl

/-! ### a world in the heap -/
def wF (lp lq tc : Addr) (luck : Nat) : List (Str × V) := [("places", .ref lp), ("points", .ref lq), ("coin", .ref tc), ("luck", nV luck)]
theorem wF_places {lp lq tc : Addr} {l : Nat} : (wF lp lq tc l).lookup ("places" : Str) = some (.ref lp) := lk_here
theorem wF_points {lp lq tc : Addr} {l : Nat} : (wF lp lq tc l).lookup ("points" : Str) = some (.ref lq) := lk_past (by decide +kernel) lk_here
theorem wF_coin {lp lq tc : Addr} {l : Nat} : (wF lp lq tc l).lookup ("coin" : Str) = some (.ref tc) := lk_past (by decide +kernel) (lk_past (by decide +kernel) lk_here)
theorem wF_luck {lp lq tc : Addr} {l : Nat} : (wF lp lq tc l).lookup ("luck" : Str) = some (nV l) := lk_past (by decide +kernel) (lk_past (by decide +kernel) (lk_past (by decide +kernel) lk_here))
theorem wF_no {lp lq tc : Addr} {l : Nat} {m : Str} (h1 : (m == "places") = false) (h2 : (m == "points") = false) (h3 : (m == "coin") = false) (h4 : (m == "luck") = false) : (wF lp lq tc l).lookup m = none :=
  lk_past h1 (lk_past h2 (lk_past h3 (lk_past h4 rfl)))
theorem wF_put_coin {lp lq tc tc' : Addr} {l : Nat} : putF "coin" (.ref tc') (wF lp lq tc l) = wF lp lq tc' l := put_past (by decide +kernel) (put_past (by decide +kernel) put_here)
theorem wF_put_luck {lp lq tc : Addr} {l l' : Nat} : putF "luck" (nV l') (wF lp lq tc l) = wF lp lq tc l' := put_past (by decide +kernel) (put_past (by decide +kernel) (put_past (by decide +kernel) put_here))
theorem wF_new {lp lq tc : Addr} {l : Nat} : putF "luck" (nV l) (putF "coin" (.ref tc) (putF "points" (.ref lq) (putF "places" (.ref lp) []))) = wF lp lq tc l := by
  have e1 : putF "points" (.ref lq) (putF "places" (.ref lp) []) = [(("places" : Str), V.ref lp), ("points", V.ref lq)] := put_past (by decide +kernel) rfl
  have e2 : putF "coin" (.ref tc) [(("places" : Str), V.ref lp), ("points", V.ref lq)] = [(("places" : Str), V.ref lp), ("points", V.ref lq), ("coin", V.ref tc)] := put_past (by decide +kernel) (put_past (by decide +kernel) rfl)
  rw [e1, e2]
  exact put_past (by decide +kernel) (put_past (by decide +kernel) (put_past (by decide +kernel) rfl))
def PlacesAt (H : Hp) (ts : List Addr) (ps : List (Nat × Nat × Nat)) : Prop := ts.length = ps.length ∧ ∀ (i : Nat) (t : Addr) (p : Nat × Nat × Nat), ts[i]? = some t → ps[i]? = some p → At2 H t p.1 p.2.1
def WorldIn (CW : Addr) (O : Addr → Prop) (H : Hp) (a : Addr) (w : Ge14.World) : Prop := ∃ (dx lp lq tc : Addr) (ts : List Addr), O a ∧ O lp ∧ O lq ∧ lp ≠ lq ∧ H a = some (.ins CW dx (wF lp lq tc w.luck)) ∧
  H lp = some (.lst (ts.map V.ref)) ∧ H lq = some (.lst (w.players.map fun p => nV p.2.2)) ∧ At2 H tc w.coin.1 w.coin.2 ∧ PlacesAt H ts w.players
def WOk (w : Ge14.World) : Prop := w.players.length ≤ 4 ∧ ∀ p ∈ w.players, p.1 < 8 ∧ p.2.1 < 8
theorem turn_ok {w : Ge14.World} {i k : Nat} (h : WOk w) : WOk (Ge14.turn w i k) := by
  unfold Ge14.turn
  cases e : w.players[i]? with
  | none => exact h
  | some p =>
    obtain ⟨x, y, s⟩ := p
    have hp := h.2 _ (List.mem_of_getElem? e)
    have hq := goes_lt k hp.1 hp.2
    simp only
    split
    · exact h
    · split
      · refine ⟨by simpa using h.1, fun p hp => ?_⟩
        rcases List.mem_or_eq_of_mem_set hp with z | z
        · exact h.2 _ z
        · subst z
          exact hq
      · refine ⟨by simpa using h.1, fun p hp => ?_⟩
        rcases List.mem_or_eq_of_mem_set hp with z | z
        · exact h.2 _ z
        · subst z
          exact hq
theorem start_ok {n seed : Nat} (h : n ≤ 4) : WOk (Ge14.start n seed) := by
  refine ⟨by simpa [Ge14.start] using h, fun p hp => ?_⟩
  simp only [Ge14.start, List.mem_map, List.mem_range] at hp
  obtain ⟨i, hi, rfl⟩ := hp
  exact ⟨by show 2 * i < 8; omega, by show 2 * i < 8; omega⟩
theorem WorldIn.same {CW : Addr} {O : Addr → Prop} {H H' : Hp} {a : Addr} {w : Ge14.World} (h : WorldIn CW O H a w) (s : Same H H') : WorldIn CW O H' a w := by
  obtain ⟨dx, lp, lq, tc, ts, o1, o2, o3, n1, h1, h2, h3, h4, h5, h6⟩ := h
  exact ⟨dx, lp, lq, tc, ts, o1, o2, o3, n1, s _ _ h1, s _ _ h2, s _ _ h3, s _ _ h4, h5, fun i t p e1 e2 => s _ _ (h6 i t p e1 e2)⟩
theorem WorldIn.mono {CW : Addr} {O O' : Addr → Prop} {H : Hp} {a : Addr} {w : Ge14.World} (h : WorldIn CW O H a w) (s : ∀ x, O x → O' x) : WorldIn CW O' H a w := by
  obtain ⟨dx, lp, lq, tc, ts, o1, o2, o3, n1, h⟩ := h
  exact ⟨dx, lp, lq, tc, ts, s _ o1, s _ o2, s _ o3, n1, h⟩
/-! ### promises of the methods -/
def spWInit (CW : Addr) : Sp := fun vs H Q _ => ∃ (p dx : Addr) (n seed : Nat), vs = [.ref p, nV n, nV seed] ∧ n ≤ 4 ∧ H p = some (.ins CW dx []) ∧
  ∀ H' : Hp, (∀ b o, H b = some o → b ≠ p → H' b = some o) → WorldIn CW (fun x => x = p ∨ H x = none) H' p (Ge14.start n seed) → Q .non H'
def spLay (CW : Addr) : Sp := fun vs H Q _ => ∃ (O : Addr → Prop) (a : Addr) (w : Ge14.World), vs = [.ref a] ∧ WorldIn CW O H a w ∧
  ∀ H' : Hp, Keeps O H H' → WorldIn CW (Or O H) H' a { w with coin := (Ge14.next w.luck / 65536 % 8, Ge14.next (Ge14.next w.luck) / 65536 % 8), luck := Ge14.next (Ge14.next w.luck) } → Q .non H'
def spMove (CW : Addr) : Sp := fun vs H Q _ => ∃ (O : Addr → Prop) (a : Addr) (w : Ge14.World) (i k : Nat), vs = [.ref a, nV i, nV k] ∧ WorldIn CW O H a w ∧ WOk w ∧ i < w.players.length ∧ k ≤ 4 ∧
  ∀ H' : Hp, Keeps O H H' → WorldIn CW (Or O H) H' a (Ge14.turn w i k) → Q .non H'
def spTick (CW : Addr) : Sp := fun vs H Q _ => ∃ (O : Addr → Prop) (a l : Addr) (w : Ge14.World) (ks : List Nat), vs = [.ref a, .ref l] ∧ WorldIn CW O H a w ∧ WOk w ∧ H l = some (.lst (ks.map nV)) ∧ ¬ O l ∧ ks.length = w.players.length ∧ (∀ k ∈ ks, k ≤ 4) ∧
  ∀ H' : Hp, Keeps O H H' → WorldIn CW (Or O H) H' a (Ge14.tick w ks) → Q .non H'
def spNumbers (CW : Addr) : Sp := fun vs H Q _ => ∃ (O : Addr → Prop) (a : Addr) (w : Ge14.World), vs = [.ref a] ∧ WorldIn CW O H a w ∧ w.players.length ≤ 4 ∧
  ∀ (H' : Hp) (p : Addr), H p = none → Same H H' → H' p = some (.lst ((Ge14.worldRow w).map nV)) → Q (.ref p) H'
theorem scWInit : FnScope ["self", "players", "seed", "player"] ["self", "players", "seed"] (defScope sWInit) := ⟨rfl, rfl, rfl, by decide +kernel, rfl, by decide +kernel, by decide +kernel⟩
theorem ok_wInit {f : Addr} {fd : FuncData} (F : Fun K "__init__" "World.__init__" sWInit f fd) (T : TxtW K mg CW) : FnOk P w K mg base CX0 1 f fd ["self", "players", "seed"] (spWInit CW) := by
  obtain ⟨tL, mL⟩ := T.lucks
  refine F.ok scWInit (fun vs H Q E h => ?_) (fun cdv A outer s H vs Q E hr h => ?_)
  · obtain ⟨p, dx, n, sd, rfl, _⟩ := h
    rfl
  · obtain ⟨p, dx, n, sd, rfl, hn, hp, q⟩ := h
    refine ⟨_, pss_cons (ps_fld (pv 0) (pe_lc (own := [("player", 3)]) (g := gName 3) (tt := tYes) rfl scWInit.nd (pi_range1 rfl T.range (pa_cons (pv 1) pa_nil)) (blkOk_by (own := [("player", 3)]) (N := ["self", "players", "seed", "player"]) (sc := defScope sWInit) (by decide +kernel))
        (fun _ _ _ _ _ => pg_name (i := 3) scWInit.nd rfl (Or.inl rfl)) (fun _ _ _ _ _ => pts_nil) (fun _ _ _ _ _ => pe_tup (pa_cons (pe_op op_mul pe_int (pv 3)) (pa_cons (pe_op op_mul pe_int (pv 3)) pa_nil)))) rfl)
      (pss_cons (ps_fld (pv 0) (pe_op op_rep (pe_lst (pa_cons pe_int pa_nil)) (pv 1)) rfl)
      (pss_cons (ps_fld (pv 0) (pe_tup (pa_cons pe_int (pa_cons pe_int pa_nil))) rfl)
      (pss_one (ps_fld (pv 0) (pe_op op_mod (pv 2) (pe_glob (v := .int 2147483648) rfl mL ⟨_, rfl⟩)) rfl)))), ?_⟩
    -- self.places = [..]
    refine ⟨_, rfl, (n : Int), rfl, by omega, by omega, fun D hD => ?_⟩
    refine lc_range (lo := 0) (n := ((n : Int)).toNat) (fun i H1 => ∃ ts : List Addr, (∀ b o, H b = some o → H1 b = some o) ∧ H1 D = some (.lst (ts.map V.ref)) ∧ ts.length = i ∧ ∀ (j : Nat) (t : Addr), ts[j]? = some t → At2 H1 t (2 * j) (2 * j)) ?_ ?_ ?_
    · exact ⟨[], same_new hD, upd_same, rfl, fun j t e => by simp at e⟩
    · rintro i H1 hi ⟨ts, s1, d1, l1, a1⟩
      refine ⟨rfl, yes_of ?_⟩
      refine ⟨_, rfl, _, _, rfl, rfl, .inl ⟨by decide, by decide⟩, _, rfl, _, _, rfl, rfl, .inl ⟨by decide, by decide⟩, (by show 2 ≤ sizeLine; decide), fun t ht => ?_⟩
      have nDt : D ≠ t := ne_of_none d1 ht
      refine ⟨_, (upd_ne nDt).trans d1, by rw [List.length_map, l1]; exact small1000 (by omega), ts ++ [t], fun b o e => ?_, ?_, by rw [List.length_append, l1]; rfl, fun j u e => ?_⟩
      · rw [upd_ne (ne_of_none e hD), upd_ne (ne_of_none (s1 _ _ e) ht)]
        exact s1 _ _ e
      · rw [upd_same, List.map_append]
        rfl
      · unfold At2
        by_cases hj : j < ts.length
        · rw [List.getElem?_append_left hj] at e
          have q1 := a1 j u e
          have nu : u ≠ D := ne_of q1 d1 (by intro z; cases z)
          rw [upd_ne nu, upd_ne (ne_of_none q1 ht)]
          exact q1
        · have ej : j = ts.length := by
            have := (List.getElem?_eq_some_iff.mp e).1
            simp at this
            omega
          subst ej
          have eu : u = t := by
            have : (ts ++ [t])[ts.length]? = some t := by simp
            rw [this] at e
            exact (Option.some.inj e).symm
          subst eu
          rw [upd_ne nDt.symm, upd_same, l1]
          have e2 : (2 : Int) * (0 + (i : Int)) = ((2 * i : Nat) : Int) := by omega
          show some (HO.tup [V.int ((2 : Int) * (0 + (i : Int))), V.int ((2 : Int) * (0 + (i : Int)))]) = _
          rw [e2]
          rfl
    · rintro H1 ⟨ts, s1, d1, l1, a1⟩
      have p1 := s1 _ _ hp
      refine ⟨_, rfl, p, CW, dx, [], rfl, p1, T.cl, T.nPl, (by show 0 < 1000; decide), ?_⟩
      -- self.points = [0] * players
      refine ⟨(by show 1 ≤ sizeLine; decide), fun l0 hl0 => ?_⟩
      refine ⟨_, rfl, l0, (n : Int), _, rfl, rfl, upd_same, by omega, by omega, (by show 1 * ((n : Int)).toNat ≤ sizeLine; exact small_size (by omega)), fun lq hlq => ?_⟩
      have nDp : D ≠ p := ne_of d1 p1 (by intro z; cases z)
      have np0 : p ≠ l0 := fun z => by rw [← z, upd_same] at hl0; cases hl0
      have h0 : H1 l0 = none := by rw [upd_ne np0.symm] at hl0; exact hl0
      have npq : p ≠ lq := fun z => by rw [← z, upd_ne np0, upd_same] at hlq; cases hlq
      have n0q : l0 ≠ lq := fun z => by rw [← z, upd_same] at hlq; cases hlq
      have hq1 : H1 lq = none := by rw [upd_ne n0q.symm, upd_ne npq.symm] at hlq; exact hlq
      refine ⟨_, rfl, p, CW, dx, _, rfl, (by rw [upd_ne npq, upd_ne np0, upd_same]), T.cl, T.nPo, (by show 1 < 1000; decide), ?_⟩
      -- self.coin = (4, 1)
      refine ⟨(by show 2 ≤ sizeLine; decide), fun tc htc => ?_⟩
      have npt : p ≠ tc := fun z => by rw [← z, upd_same] at htc; cases htc
      have nqt : lq ≠ tc := fun z => by rw [← z, upd_ne npq.symm, upd_same] at htc; cases htc
      have n0t : l0 ≠ tc := fun z => by rw [← z, upd_ne np0.symm, upd_ne n0q, upd_same] at htc; cases htc
      have ht1 : H1 tc = none := by rw [upd_ne npt.symm, upd_ne nqt.symm, upd_ne n0t.symm, upd_ne npt.symm] at htc; exact htc
      refine ⟨_, rfl, p, CW, dx, _, rfl, (by rw [upd_ne npt, upd_same]), T.cl, T.nCo, (by rw [show putF ("points" : Str) (V.ref lq) (putF ("places" : Str) (V.ref D) []) = [(("places" : Str), V.ref D), ("points", V.ref lq)] from put_past (by decide +kernel) rfl]; show 2 < 1000; decide), ?_⟩
      -- self.luck = seed % LUCKS
      refine ⟨_, rfl, _, _, rfl, rfl, (by show (0 : Int) < 2147483648; decide), _, rfl, p, CW, dx, _, rfl, upd_same, T.cl, T.nLu, (by rw [show putF ("coin" : Str) (V.ref tc) (putF ("points" : Str) (V.ref lq) (putF ("places" : Str) (V.ref D) [])) = [(("places" : Str), V.ref D), ("points", V.ref lq), ("coin", V.ref tc)] from by rw [show putF ("points" : Str) (V.ref lq) (putF ("places" : Str) (V.ref D) []) = [(("places" : Str), V.ref D), ("points", V.ref lq)] from put_past (by decide +kernel) rfl]; exact put_past (by decide +kernel) (put_past (by decide +kernel) rfl)]; show 3 < 1000; decide), ?_⟩
      have nDq : D ≠ lq := ne_of_none d1 hq1
      have nDt : D ≠ tc := ne_of_none d1 ht1
      have nD0 : D ≠ l0 := ne_of_none d1 h0
      refine q _ (fun b o e hb => ?_) ⟨dx, D, lq, tc, ts, .inl rfl, .inr hD, .inr ?_, nDq, ?_, ?_, ?_, ?_, ?_, ?_⟩
      · have e1 := s1 _ _ e
        rw [upd_ne hb, upd_ne hb, upd_ne (ne_of_none e1 ht1), upd_ne hb, upd_ne (ne_of_none e1 hq1), upd_ne (ne_of_none e1 h0), upd_ne hb]
        exact e1
      · cases e : H lq with
        | none => rfl
        | some o =>
          rw [s1 _ _ e] at hq1
          cases hq1
      · rw [upd_same]
        have e5 : (sd : Int) % 2147483648 = ((sd % 2147483648 : Nat) : Int) := by omega
        show some (HO.ins CW dx (putF ("luck" : Str) (V.int ((sd : Int) % 2147483648)) _)) = _
        rw [e5]
        exact congrArg (fun z => some (HO.ins CW dx z)) wF_new
      · rw [upd_ne nDp, upd_ne nDp, upd_ne nDt, upd_ne nDp, upd_ne nDq, upd_ne nD0, upd_ne nDp]
        exact d1
      · rw [upd_ne npq.symm, upd_ne npq.symm, upd_ne nqt, upd_ne npq.symm, upd_same]
        congr 2
        rw [Int.toNat_natCast]
        apply List.ext_getElem
        · simp [Ge14.start]
        · intro j h1 h2
          simp [Ge14.start, nV]
      · unfold At2
        rw [upd_ne npt.symm, upd_ne npt.symm, upd_same]
        rfl
      · rw [l1]
        simp [Ge14.start]
      · intro i t pl e1 e2
        have q1 := a1 i t e1
        have n1 : t ≠ p := ne_of q1 p1 (by intro z; cases z)
        unfold At2
        rw [upd_ne n1, upd_ne n1, upd_ne (ne_of_none q1 ht1), upd_ne n1, upd_ne (ne_of_none q1 hq1), upd_ne (ne_of_none q1 h0), upd_ne n1]
        have e3 : pl = (2 * i, 2 * i, 0) := by
          have e4 : ((List.range n).map fun i => ((2 * i, 2 * i, 0) : Nat × Nat × Nat))[i]? = some pl := e2
          rw [List.getElem?_map] at e4
          obtain ⟨a, ha, rfl⟩ := Option.map_eq_some_iff.mp e4
          obtain ⟨h, rfl⟩ := List.getElem?_eq_some_iff.mp ha
          simp
        subst e3
        exact q1

theorem Or.l {O : Addr → Prop} {H : Hp} {x : Addr} (h : O x) : Or O H x := _root_.Or.inl h
theorem Or.r {O : Addr → Prop} {H : Hp} {x : Addr} (h : H x = none) : Or O H x := _root_.Or.inr h
theorem PlacesAt.same {H H' : Hp} {ts : List Addr} {ps : List (Nat × Nat × Nat)} (h : PlacesAt H ts ps) (s : ∀ t x y, At2 H t x y → At2 H' t x y) : PlacesAt H' ts ps := ⟨h.1, fun i t p e1 e2 => s _ _ _ (h.2 i t p e1 e2)⟩
theorem scLay : FnScope ["self", "for_x", "for_y"] ["self"] (defScope sLay) := ⟨rfl, rfl, rfl, by decide +kernel, rfl, by decide +kernel, by decide +kernel⟩
theorem ok_lay {f : Addr} {fd : FuncData} (F : Fun K "lay_coin" "World.lay_coin" sLay f fd) (T : TxtW K mg CW) (GN : DefOk P w K mg base "next_luck" 1 ["luck"] spNextLuck) (GS : DefOk P w K mg base "side_of" 1 ["luck"] spSideOf) :
    FnOk P w K mg base CX0 2 f fd ["self"] (spLay CW) := by
  obtain ⟨fN, fdN, mN, kN, GN, bN⟩ := GN
  obtain ⟨fS, fdS, mS, kS, GS, bS⟩ := GS
  refine F.ok scLay (fun vs H Q E h => ?_) (fun cdv A outer s H vs Q E hr h => ?_)
  · obtain ⟨O, a, w, rfl, _⟩ := h
    rfl
  · obtain ⟨O, a, w, rfl, ⟨dx, lp, lq, tc, ts, o1, o2, o3, n1, h1, h2, h3, h4, h5⟩, q⟩ := h
    refine ⟨_, pss_cons (ps_set (i := 1) scLay.nd rfl (.inl rfl) (pe_call GN hr rfl mN kN bN .nil pass0 (pa_cons (pe_fld (pv 0) rfl) pa_nil)))
      (pss_cons (ps_set (i := 2) scLay.nd rfl (.inl rfl) (pe_call GN hr rfl mN kN bN .nil pass0 (pa_cons (pv 1) pa_nil)))
      (pss_cons (ps_fld (pv 0) (pe_tup (pa_cons (pe_call GS hr rfl mS kS bS .nil pass0 (pa_cons (pv 1) pa_nil)) (pa_cons (pe_call GS hr rfl mS kS bS .nil pass0 (pa_cons (pv 2) pa_nil)) pa_nil))) rfl)
      (pss_one (ps_fld (pv 0) (pv 2) rfl)))), ?_⟩
    refine ⟨_, rfl, a, CW, dx, _, _, rfl, h1, T.cl, T.nLu, wF_luck, w.luck, rfl, ?_⟩
    refine ⟨_, rfl, Ge14.next w.luck, rfl, ?_⟩
    refine ⟨_, rfl, Ge14.next w.luck, rfl, _, rfl, Ge14.next (Ge14.next w.luck), rfl, (by show 2 ≤ sizeLine; decide), fun t ht => ?_⟩
    have nat' : a ≠ t := ne_of_none h1 ht
    refine ⟨_, rfl, a, CW, dx, _, rfl, (upd_ne nat').trans h1, T.cl, T.nCo, (by show 4 < 1000; decide), ?_⟩
    refine ⟨_, rfl, _, rfl, a, CW, dx, _, rfl, upd_same, T.cl, T.nLu, (by rw [wF_put_coin]; show 4 < 1000; decide), ?_⟩
    have npa : lp ≠ a := ne_of h2 h1 (by intro z; cases z)
    have nqa : lq ≠ a := ne_of h3 h1 (by intro z; cases z)
    have npt : lp ≠ t := ne_of_none h2 ht
    have nqt : lq ≠ t := ne_of_none h3 ht
    refine q _ (((Keeps.refl O H).upd (.inr ht)).upd (.inl o1) |>.upd (.inl o1)) ⟨dx, lp, lq, t, ts, Or.l o1, Or.l o2, Or.l o3, n1, ?_, ?_, ?_, ?_, ?_⟩
    · rw [upd_same, wF_put_coin]
      exact congrArg (fun z => some (HO.ins CW dx z)) wF_put_luck
    · rw [upd_ne npa, upd_ne npa, upd_ne npt]
      exact h2
    · rw [upd_ne nqa, upd_ne nqa, upd_ne nqt]
      exact h3
    · unfold At2
      rw [upd_ne nat'.symm, upd_ne nat'.symm, upd_same]
    · refine h5.same fun u x y e => ?_
      have na : u ≠ a := ne_of e h1 (by intro z; cases z)
      unfold At2
      rw [upd_ne na, upd_ne na, upd_ne (ne_of_none e ht)]
      exact e
/-! ### data -/
def prD (x y : Nat) : PyData := .tuple [.int x, .int y]
theorem prD_depth (x y : Nat) : (prD x y).depth ≤ 2 := by simp [prD, PyData.depth, PyData.depthAll]
theorem prD_lay (x y : Nat) : (prD x y).canLay0 = true := by simp [prD, PyData.canLay0, PyData.canLayAll0]
theorem shaped_of {d : PyData} (h : d.canLay0 = true) (k : d.depth ≤ 64) : SeqAt.shaped d = true := Bool.and_eq_true_iff.mpr ⟨h, decide_eq_true k⟩
theorem prD_shaped (x y : Nat) : SeqAt.shaped (prD x y) = true := shaped_of (prD_lay x y) (Nat.le_trans (prD_depth x y) (by decide))
theorem prDs_all (ps : List (Nat × Nat × Nat)) : PyData.canLayAll0 (ps.map fun p => prD p.1 p.2.1) = true ∧ PyData.depthAll (ps.map fun p => prD p.1 p.2.1) ≤ 3 := by
  induction ps with
  | nil => exact ⟨by simp [PyData.canLayAll0], by simp [PyData.depthAll]⟩
  | cons p ps ih =>
    have d := prD_depth p.1 p.2.1
    refine ⟨by simp [PyData.canLayAll0, prD_lay, ih.1], ?_⟩
    have := ih.2
    simp only [PyData.depthAll, List.map_cons]
    omega
theorem prDs_shaped (ps : List (Nat × Nat × Nat)) : SeqAt.shaped (.list (ps.map fun p => prD p.1 p.2.1)) = true := by
  have a := prDs_all ps
  refine shaped_of (by simpa only [PyData.canLay0] using a.1) ?_
  simp only [PyData.depth]
  omega
theorem prD_eqv (x y a b : Nat) : PyData.eqv (prD x y) (prD a b) = (x == a && y == b) := by
  have e : PyData.eqv (prD x y) (prD a b) = (((x : Int) == (a : Int)) && (((y : Int) == (b : Int)) && true)) := by simp only [prD, PyData.eqv, PyData.eqvAll]
  rw [e, Bool.and_true]
  congr 1
  · rw [Bool.eq_iff_iff]
    simp
    omega
  · rw [Bool.eq_iff_iff]
    simp
    omega
theorem dp2 {H : Hp} {t : Addr} {x y : Nat} (h : At2 H t x y) : Dp K H (.ref t) (prD x y) := .tup (SqT.of h) (.cons (.int _) (.cons (.int _) .nil))
theorem dps {H : Hp} : ∀ {ts : List Addr} {ps : List (Nat × Nat × Nat)}, PlacesAt H ts ps → DpAll K H (ts.map V.ref) (ps.map fun p => prD p.1 p.2.1)
  | [], [], _ => .nil
  | [], _ :: _, h => by cases h.1
  | _ :: _, [], h => by cases h.1
  | t :: ts, p :: ps, h => .cons (dp2 (h.2 0 t p rfl rfl)) (dps ⟨by have := h.1; simpa using this, fun i t p e1 e2 => h.2 (i + 1) t p e1 e2⟩)

theorem ixN_at {n j : Nat} (hj : j < n) : ixN n (j : Int) = some j := by
  have h0 : (0 : Int) ≤ (j : Int) := Int.natCast_nonneg j
  have h1 : (j : Int) < (n : Int) := Int.ofNat_lt.mpr hj
  simp only [ixN, if_pos h0, if_pos h1, Int.toNat_natCast]
theorem PlacesAt.set {H : Hp} {ts : List Addr} {ps : List (Nat × Nat × Nat)} {i : Nat} {t : Addr} {p : Nat × Nat × Nat} (h : PlacesAt H ts ps) (e : At2 H t p.1 p.2.1) : PlacesAt H (ts.set i t) (ps.set i p) := by
  refine ⟨by simpa using h.1, fun j u r e1 e2 => ?_⟩
  by_cases hj : i = j
  · subst hj
    rw [List.getElem?_set] at e1 e2
    simp only [if_true] at e1 e2
    split at e1
    · split at e2
      · cases e1
        cases e2
        exact e
      · cases e2
    · cases e1
  · rw [List.getElem?_set_ne hj] at e1 e2
    exact h.2 j u r e1 e2
theorem any_place (ps : List (Nat × Nat × Nat)) (q : Nat × Nat) : ((ps.map fun p => prD p.1 p.2.1).any fun z => PyData.eqv z (prD q.1 q.2)) = ps.any fun p => p.1 == q.1 && p.2.1 == q.2 := by
  rw [List.any_map]
  congr 1
  funext p
  exact prD_eqv _ _ _ _
theorem scMove : FnScope ["self", "player", "key", "place"] ["self", "player", "key"] (defScope sMove) := ⟨rfl, rfl, rfl, by decide +kernel, rfl, by decide +kernel, by decide +kernel⟩
theorem ok_move {f : Addr} {fd : FuncData} (F : Fun K "move" "World.move" sMove f fd) (T : TxtW K mg CW) (GP : DefOk P w K mg base "place_beside" 1 ["place", "key"] spPlaceBeside) (GL : MethOk P w K mg base CW "lay_coin" 2 ["self"] (spLay CW)) :
    FnOk P w K mg base CX0 3 f fd ["self", "player", "key"] (spMove CW) := by
  obtain ⟨fP, fdP, mP, kP, GP, bP⟩ := GP
  obtain ⟨fL, fdL, mL, GL, bL⟩ := GL
  refine F.ok scMove (fun vs H Q E h => ?_) (fun cdv A outer s H vs Q E hr h => ?_)
  · obtain ⟨O, a, w, i, k, rfl, _⟩ := h
    rfl
  · obtain ⟨O, a, w, i, k, rfl, ⟨dx, lp, lq, tc, ts, o1, o2, o3, n1, h1, h2, h3, h4, h5⟩, ok, hi, hk, q⟩ := h
    have hr1 : Room 1 _ := hr.mono (by decide)
    refine ⟨_, pss_cons (ps_set (i := 3) scMove.nd rfl (.inl rfl) (pe_call GP hr1 rfl mP kP bP .nil pass0 (pa_cons (pe_ix ix_list (pe_fld (pv 0) rfl) (pv 1) (fun _ _ => rfl)) (pa_cons (pv 2) pa_nil))))
      (pss_cons (ps_if (pt_cmpR (op_inD (units65 hr)) (pv 3) (pe_fld (pv 0) rfl) (by rfl)) (pss_one ps_retN) pss_nil)
      (pss_cons (ps_asg (pv 3) (pg_sub (pe_fld (pv 0) rfl) (pv 1) set_list))
      (pss_one (ps_if (pt_cmpR (op_eqD hr.units) (pv 3) (pe_fld (pv 0) rfl) (nomark _))
        (pss_cons (ps_augS (pe_fld (pv 0) rfl) (pv 1) get_list pe_int ip_add set_list) (pss_one (ps_expr (pe_meth0 (pv 0) T.cl mL GL hr bL .nil pass0)))) pss_nil)))), ?_⟩
    obtain ⟨pl, epl⟩ : ∃ pl, w.players[i]? = some pl := ⟨_, List.getElem?_eq_getElem hi⟩
    obtain ⟨x, y, sc⟩ := pl
    have hlt : i < ts.length := by rw [h5.1]; exact hi
    obtain ⟨t, et⟩ : ∃ t, ts[i]? = some t := ⟨_, List.getElem?_eq_getElem hlt⟩
    have at_t := h5.2 i t _ et epl
    have bxy := ok.2 _ (List.mem_of_getElem? epl)
    -- place = place_beside(self.places[player], key)
    refine ⟨_, rfl, a, CW, dx, _, _, rfl, h1, T.cl, T.nPl, wF_places, _, rfl, lp, _, _, .ref t, rfl, rfl, SqL.of h2, atI_nat (by rw [List.getElem?_map, et]; rfl), _, rfl, t, x, y, k, rfl, at_t, bxy.1, bxy.2, hk, fun H1 p hp s1 hp1 => ?_⟩
    have h1' := s1 _ _ h1
    have h2' := s1 _ _ h2
    have h3' := s1 _ _ h3
    have h4' := s1 _ _ h4
    have h5' : PlacesAt H1 ts w.players := h5.same fun u x y e => s1 _ _ e
    -- if place in self.places: return
    refine ⟨_, rfl, _, rfl, a, CW, dx, _, _, rfl, h1', T.cl, T.nPl, wF_places, prD _ _, _, dp2 hp1, .lst (SqL.of h2') (dps h5'), prD_shaped _ _, prDs_shaped _, _, rfl, ?_⟩
    rw [any_place w.players (Ge14.goes x y k)]
    cases c : (w.players.any fun p => p.1 == (Ge14.goes x y k).1 && p.2.1 == (Ge14.goes x y k).2) with
    | true =>
      have et : Ge14.turn w i k = w := by
        unfold Ge14.turn
        rw [epl]
        simp only [c, if_true]
      refine iteT ?_
      refine q _ (Keeps.of_same s1) ?_
      rw [et]
      exact ⟨dx, lp, lq, tc, ts, Or.l o1, Or.l o2, Or.l o3, n1, h1', h2', h3', h4', h5'⟩
    | false =>
      refine iteF ?_
      have npa : lp ≠ a := ne_of h2' h1' (by intro z; cases z)
      have nqa : lq ≠ a := ne_of h3' h1' (by intro z; cases z)
      have ncp : tc ≠ lp := ne_of h4' h2' (by intro z; cases z)
      have ncq : tc ≠ lq := ne_of h4' h3' (by intro z; cases z)
      have npp : p ≠ lp := ne_of hp1 h2' (by intro z; cases z)
      have nqp : lq ≠ lp := n1.symm
      have hlt' : i < (ts.map V.ref).length := by rw [List.length_map]; exact hlt
      -- self.places[player] = place
      refine ⟨_, rfl, _, rfl, a, CW, dx, _, _, rfl, h1', T.cl, T.nPl, wF_places, _, rfl, lp, _, _, i, rfl, rfl, h2', ixN_at hlt', ?_⟩
      -- if place == self.coin
      refine ⟨_, rfl, _, rfl, a, CW, dx, _, _, rfl, (upd_ne npa.symm).trans h1', T.cl, T.nCo, wF_coin, prD _ _, prD _ _, dp2 ((upd_ne npp).trans hp1), dp2 ((upd_ne ncp).trans h4'), prD_shaped _ _, prD_shaped _ _, _, rfl, ?_⟩
      rw [prD_eqv]
      have m1 : (ts.map V.ref).set i (V.ref p) = (ts.set i p).map V.ref := by rw [List.map_set]
      have h5'' : PlacesAt (upd H1 lp (.lst ((ts.map V.ref).set i (V.ref p)))) ts w.players := h5'.same fun u x y e => by
        unfold At2
        rw [upd_ne (ne_of e h2' (by intro z; cases z))]
        exact e
      cases c2 : ((Ge14.goes x y k).1 == w.coin.1 && (Ge14.goes x y k).2 == w.coin.2) with
      | true =>
        refine iteT ?_
        have ec : Ge14.goes x y k = w.coin := by
          rw [Bool.and_eq_true, beq_iff_eq, beq_iff_eq] at c2
          exact Prod.ext c2.1 c2.2
        have et : Ge14.turn w i k = { players := w.players.set i ((Ge14.goes x y k).1, (Ge14.goes x y k).2, sc + 1), coin := (Ge14.next w.luck / 65536 % 8, Ge14.next (Ge14.next w.luck) / 65536 % 8), luck := Ge14.next (Ge14.next w.luck) } := by
          unfold Ge14.turn
          rw [epl]
          simp only [c, Bool.false_eq_true, if_false]
          rw [if_pos ec]
          rfl
        have hiq : i < (w.players.map fun p => nV p.2.2).length := by rw [List.length_map]; exact hi
        -- self.points[player] += 1
        refine ⟨_, rfl, a, CW, dx, _, _, rfl, (upd_ne npa.symm).trans h1', T.cl, T.nPo, wF_points, _, rfl, lq, _, i, nV sc, rfl, rfl, SqL.of ((upd_ne nqp).trans h3'), (by rw [List.getElem?_map, epl]; rfl), _, _, rfl, rfl, lq, _, _, i, rfl, rfl, (upd_ne nqp).trans h3', ixN_at hiq, ?_⟩
        -- self.lay_coin()
        refine ⟨_, rfl, a, dx, _, rfl, (upd_ne nqa.symm).trans ((upd_ne npa.symm).trans h1'), wF_no (by decide +kernel) (by decide +kernel) (by decide +kernel) (by decide +kernel), Or O H, a, { w with players := w.players.set i ((Ge14.goes x y k).1, (Ge14.goes x y k).2, sc + 1) }, rfl, ⟨dx, lp, lq, tc, ts.set i p, Or.l o1, Or.l o2, Or.l o3, n1, ?_, ?_, ?_, ?_, ?_⟩, fun H2 k2 w2 => ?_⟩
        · rw [upd_ne nqa.symm, upd_ne npa.symm]
          exact h1'
        · rw [upd_ne nqp.symm, upd_same, m1]
        · rw [upd_same]
          congr 2
          rw [List.map_set]
          rfl
        · unfold At2
          rw [upd_ne ncq, upd_ne ncp]
          exact h4'
        · refine PlacesAt.set (h5''.same fun u x y e => ?_) ?_
          · have z : u ≠ lq := ne_of e ((upd_ne nqp).trans h3') (by intro z; cases z)
            unfold At2
            rw [upd_ne z]
            exact e
          · have z : p ≠ lq := ne_of hp1 h3' (by intro z; cases z)
            unfold At2
            rw [upd_ne z, upd_ne npp]
            exact hp1
        · refine q _ ?_ ?_
          · refine Keeps.trans (((Keeps.of_same s1).upd (.inl o2)).upd (.inl o3)) k2
          · rw [et]
            refine w2.mono fun z hz => ?_
            rcases hz with hz | hz
            · exact hz
            · refine .inr ?_
              cases e : H z with
              | none => rfl
              | some o =>
                exfalso
                have e1 := s1 _ _ e
                by_cases zq : z = lq
                · rw [zq, upd_same] at hz
                  cases hz
                · by_cases zp : z = lp
                  · rw [zp, upd_ne nqp.symm, upd_same] at hz
                    cases hz
                  · rw [upd_ne zq, upd_ne zp, e1] at hz
                    cases hz
      | false =>
        refine iteF ?_
        have ec : ¬ Ge14.goes x y k = w.coin := fun z => by
          rw [z] at c2
          simp at c2
        have et : Ge14.turn w i k = { w with players := w.players.set i ((Ge14.goes x y k).1, (Ge14.goes x y k).2, sc) } := by
          unfold Ge14.turn
          rw [epl]
          simp only [c, ec, Bool.false_eq_true, if_false]
        refine q _ ((Keeps.of_same s1).upd (.inl o2)) ?_
        rw [et]
        refine ⟨dx, lp, lq, tc, ts.set i p, Or.l o1, Or.l o2, Or.l o3, n1, (upd_ne npa.symm).trans h1', ?_, ?_, (upd_ne ncp).trans h4', PlacesAt.set h5'' ((upd_ne npp).trans hp1)⟩
        · rw [upd_same, m1]
        · rw [upd_ne nqp, h3']
          congr 2
          apply List.ext_getElem?
          intro j
          rw [List.getElem?_map, List.getElem?_map, List.getElem?_set]
          split
          · rename_i ej
            subst ej
            rw [epl]
            first | rfl | (rw [if_pos hi]; rfl)
          · rfl

theorem tick_more {w : Ge14.World} {ks : List Nat} {i k : Nat} (h : ks[i]? = some k) : Ge14.tick w (ks.take (i + 1)) = Ge14.turn (Ge14.tick w (ks.take i)) i k := by
  have hl : (ks.take i).length = i := by
    have := (List.getElem?_eq_some_iff.mp h).1
    rw [List.length_take]
    omega
  unfold Ge14.tick
  rw [take_more h, List.zipIdx_append, List.foldl_append, hl]
  simp
theorem turn_len {w : Ge14.World} {i k : Nat} : (Ge14.turn w i k).players.length = w.players.length := by
  unfold Ge14.turn
  cases e : w.players[i]? with
  | none => rfl
  | some p =>
    obtain ⟨x, y, s⟩ := p
    simp only
    split
    · rfl
    · split <;> simp
theorem foldl_turn_ok : ∀ (l : List (Nat × Nat)) (w : Ge14.World), WOk w → WOk (l.foldl (fun w k => Ge14.turn w k.2 k.1) w) ∧ (l.foldl (fun w k => Ge14.turn w k.2 k.1) w).players.length = w.players.length
  | [], w, h => ⟨h, rfl⟩
  | x :: l, w, h => by
    obtain ⟨h1, h2⟩ := foldl_turn_ok l (Ge14.turn w x.2 x.1) (turn_ok h)
    exact ⟨h1, h2.trans turn_len⟩
theorem tick_ok {w : Ge14.World} {ks : List Nat} (h : WOk w) : WOk (Ge14.tick w ks) ∧ (Ge14.tick w ks).players.length = w.players.length := foldl_turn_ok _ _ h
theorem scTick : FnScope ["self", "pressed", "player", "key"] ["self", "pressed"] (defScope sTick) := ⟨rfl, rfl, rfl, by decide +kernel, rfl, by decide +kernel, by decide +kernel⟩
theorem ok_tick {f : Addr} {fd : FuncData} (F : Fun K "tick" "World.tick" sTick f fd) (T : TxtW K mg CW) (GM : MethOk P w K mg base CW "move" 3 ["self", "player", "key"] (spMove CW)) :
    FnOk P w K mg base CX0 4 f fd ["self", "pressed"] (spTick CW) := by
  obtain ⟨fM, fdM, mM, GM, bM⟩ := GM
  refine F.ok scTick (fun vs H Q E h => ?_) (fun cdv A outer s H vs Q E hr h => ?_)
  · obtain ⟨O, a, l, w, ks, rfl, _⟩ := h
    rfl
  · obtain ⟨O, a, l, w, ks, rfl, hw, ok, hl, nO, hk, h4, q⟩ := h
    refine ⟨_, pss_one (ps_for PassesOwn.never rfl (pi_enum (by rfl) T.enumerate (pa_cons (pv 1) pa_nil)) (pg_tup rfl (pgs_cons (pg_name (i := 2) scTick.nd rfl (.inl rfl)) (pgs_cons (pg_name (i := 3) scTick.nd rfl (.inl rfl)) pgs_nil)))
      (pss_one (ps_expr (pe_meth (pv 0) T.cl mM GM hr bM .nil pass0 (pa_cons (pv 2) (pa_cons (pv 3) pa_nil)))))), ?_⟩
    refine ⟨_, rfl, l, ks.map nV, rfl, SqL.of hl, ?_⟩
    refine for_it (walk_enum (xs := ks.map nV)) (fun i σ H1 => ∃ v1 v2 : Option V, σ = [some (.ref a), some (.ref l), v1, v2] ∧ Keeps O H H1 ∧ H1 l = some (.lst (ks.map nV)) ∧ WorldIn CW (Or O H) H1 a (Ge14.tick w (ks.take i))) ?_ ?_ ?_ ?_
    · exact ⟨none, none, rfl, Keeps.refl _ _, hl, hw.mono fun x h => Or.l h⟩
    · rintro i σ H1 _ ⟨_, _, _, _, h, _⟩
      exact SqL.of h
    · rintro i x σ H1 H2 hi ⟨v1, v2, rfl, kp, hl1, hw1⟩ ⟨t, x1, x2, rfl, ht, rfl, e1, e2⟩
      cases e1
      rw [List.length_map] at hi
      have e2 : (ks.map nV)[i]? = some x2 := e2
      rw [List.getElem?_map] at e2
      obtain ⟨k, ek, rfl⟩ := Option.map_eq_some_iff.mp e2
      refine ⟨t, _, rfl, SqT.of upd_same, rfl, _, _, rfl, _, _, rfl, rfl, ?_⟩
      have hw2 := hw1.same (same_new (o := .tup [.int (i : Nat), nV k]) ht)
      obtain ⟨dx, lp, lq, tc, ts, o1, o2, o3, n1, a1, a2⟩ := id hw2
      refine ⟨_, rfl, a, dx, _, rfl, a1, wF_no (by decide +kernel) (by decide +kernel) (by decide +kernel) (by decide +kernel), _, rfl, _, rfl, Or O H, a, Ge14.tick w (ks.take i), i, k, rfl, hw2, (tick_ok ok).1, by rw [(tick_ok ok).2]; omega, h4 k (List.mem_of_getElem? ek), fun H3 k3 w3 => ?_⟩
      refine ⟨_, _, rfl, ?_, ?_, ?_⟩
      · have k12 : Keeps O H (upd H1 t (.tup [.int (i : Nat), nV k])) := fun b o e n => (upd_ne (ne_of_none (kp b o e n) ht)).trans (kp b o e n)
        exact k12.trans k3
      · refine k3 _ _ ((upd_ne (ne_of_none hl1 ht)).trans hl1) fun z => ?_
        rcases z with z | z
        · exact nO z
        · rw [hl] at z
          cases z
      · rw [tick_more ek]
        refine w3.mono fun z hz => ?_
        rcases hz with hz | hz
        · exact hz
        · by_cases hO : O z
          · exact .inl hO
          · refine .inr ?_
            cases e : H z with
            | none => rfl
            | some o =>
              have e1 := kp _ _ e hO
              rw [upd_ne (ne_of_none e1 ht), e1] at hz
              cases hz
    · rintro σ H1 ⟨v1, v2, rfl, kp, hl1, hw1⟩
      rw [List.length_map, List.take_length] at hw1
      exact q _ kp hw1

def row3 (p : Nat × Nat × Nat) : List Nat := [p.1, p.2.1, p.2.2]
theorem row3_len : ∀ l : List (Nat × Nat × Nat), (l.flatMap row3).length = 3 * l.length
  | [] => rfl
  | p :: l => by
    rw [List.flatMap_cons, List.length_append, row3_len l, List.length_cons]
    show 3 + 3 * l.length = _
    omega
theorem scNumbers : FnScope ["self", "told", "place", "points"] ["self"] (defScope sNumbers) := ⟨rfl, rfl, rfl, by decide +kernel, rfl, by decide +kernel, by decide +kernel⟩
theorem ok_numbers {f : Addr} {fd : FuncData} (F : Fun K "numbers" "World.numbers" sNumbers f fd) (T : TxtW K mg CW) :
    FnOk P w K mg base CX0 1 f fd ["self"] (spNumbers CW) := by
  refine F.ok scNumbers (fun vs H Q E h => ?_) (fun cdv A outer s H vs Q E hr h => ?_)
  · obtain ⟨O, a, w, rfl, _⟩ := h
    rfl
  · obtain ⟨O, a, w, rfl, ⟨dx, lp, lq, tc, ts, o1, o2, o3, n1, h1, h2, h3, h4, h5⟩, hl4, q⟩ := h
    refine ⟨_, pss_cons (ps_set (i := 1) scNumbers.nd rfl (.inl rfl) (pe_lst pa_nil))
      (pss_cons (ps_for PassesOwn.never rfl (pi_zip (by rfl) T.zip (pa_cons (pe_fld (pv 0) rfl) (pa_cons (pe_fld (pv 0) rfl) pa_nil))) (pg_tup rfl (pgs_cons (pg_name (i := 2) scNumbers.nd rfl (.inl rfl)) (pgs_cons (pg_name (i := 3) scNumbers.nd rfl (.inl rfl)) pgs_nil)))
        (pss_one (ps_expr (pe_bm PySem.F.plainAttrs_list PySem.F.slot_list_extend PySem.F.type_list_extend mt_extend (pv 1) (pa_cons (pe_lst (pa_cons (pe_ix ix_tup (pv 2) pe_int (fun _ _ => rfl)) (pa_cons (pe_ix ix_tup (pv 2) pe_int (fun _ _ => rfl)) (pa_cons (pv 3) pa_nil)))) pa_nil)))))
      (pss_cons (ps_expr (pe_bm PySem.F.plainAttrs_list PySem.F.slot_list_extend PySem.F.type_list_extend mt_extend (pv 1) (pa_cons (pe_lst (pa_cons (pe_ix ix_tup (pe_fld (pv 0) rfl) pe_int (fun _ _ => rfl)) (pa_cons (pe_ix ix_tup (pe_fld (pv 0) rfl) pe_int (fun _ _ => rfl)) pa_nil))) pa_nil)))
      (pss_one (ps_ret (pv 1))))), ?_⟩
    refine ⟨Nat.zero_le _, fun l hl => ?_⟩
    have s0 : Same H (upd H l (.lst [])) := same_new hl
    refine ⟨_, rfl, a, CW, dx, _, _, rfl, s0 _ _ h1, T.cl, T.nPl, wF_places, _, rfl, a, CW, dx, _, _, rfl, s0 _ _ h1, T.cl, T.nPo, wF_points, lp, lq, _, _, rfl, SqL.of (s0 _ _ h2), SqL.of (s0 _ _ h3), ?_⟩
    refine RZ.for_zipL (xs := ts.map V.ref) (ys := w.players.map fun p => nV p.2.2) (by rw [List.length_map, List.length_map]; exact h5.1) (fun i σ H1 => ∃ v1 v2 : Option V, σ = [some (.ref a), some (.ref l), v1, v2] ∧ Same H H1 ∧ H1 l = some (.lst (((w.players.take i).flatMap row3).map nV))) ?_ ?_ ?_ ?_
    · exact ⟨none, none, rfl, s0, upd_same⟩
    · rintro i σ H1 ⟨_, _, _, s1, _⟩
      exact ⟨SqL.of (s1 _ _ h2), SqL.of (s1 _ _ h3)⟩
    · rintro i x y t σ H1 e1 e2 ⟨v1, v2, rfl, s1, d1⟩ ht
      rw [List.getElem?_map] at e1 e2
      obtain ⟨u, eu, rfl⟩ := Option.map_eq_some_iff.mp e1
      obtain ⟨p, ep, rfl⟩ := Option.map_eq_some_iff.mp e2
      have au := s1 _ _ (h5.2 i u p eu ep)
      have nul : u ≠ t := ne_of_none au ht
      have nlt : l ≠ t := ne_of_none d1 ht
      refine ⟨t, _, rfl, SqT.of upd_same, rfl, _, _, rfl, _, _, rfl, rfl, ?_⟩
      refine ⟨_, rfl, .inl ⟨rfl, _, SqL.of ((upd_ne nlt).trans d1)⟩, ?_⟩
      refine ⟨_, rfl, u, _, _, nV p.1, rfl, rfl, SqT.of ((upd_ne nul).trans au), atI_nat (j := 0) rfl, _, rfl, u, _, _, nV p.2.1, rfl, rfl, SqT.of ((upd_ne nul).trans au), atI_nat (j := 1) rfl, _, rfl, (by show 3 ≤ sizeLine; decide), fun b hb => ?_⟩
      have nlb : l ≠ b := ne_of_none ((upd_ne nlt).trans d1) hb
      have hil : i < w.players.length := (List.getElem?_eq_some_iff.mp ep).1
      refine ⟨l, b, _, _, rfl, rfl, (upd_ne nlb).trans ((upd_ne nlt).trans d1), upd_same, ?_, ?_⟩
      · rw [List.length_map, row3_len, List.length_take]
        show 3 * min i w.players.length + 3 ≤ sizeLine
        exact small_size (by omega)
      · refine ⟨_, _, rfl, ?_, ?_⟩
        · exact Same.own (Same.new (Same.new s1 ht) hb) hl
        · rw [upd_same, take_more ep, List.flatMap_append, List.map_append]
          rfl
    · rintro σ H1 ⟨v1, v2, rfl, s1, d1⟩
      rw [List.length_map, h5.1, List.take_length] at d1
      refine ⟨_, rfl, .inl ⟨rfl, _, SqL.of d1⟩, ?_⟩
      refine ⟨_, rfl, a, CW, dx, _, _, rfl, s1 _ _ h1, T.cl, T.nCo, wF_coin, tc, _, _, nV w.coin.1, rfl, rfl, SqT.of (s1 _ _ h4), atI_nat (j := 0) rfl, _, rfl, a, CW, dx, _, _, rfl, s1 _ _ h1, T.cl, T.nCo, wF_coin, tc, _, _, nV w.coin.2, rfl, rfl, SqT.of (s1 _ _ h4), atI_nat (j := 1) rfl, (by show 2 ≤ sizeLine; decide), fun b hb => ?_⟩
      have nlb : l ≠ b := ne_of_none d1 hb
      refine ⟨l, b, _, _, rfl, rfl, (upd_ne nlb).trans d1, upd_same, ?_, ?_⟩
      · rw [List.length_map, row3_len]
        show 3 * w.players.length + 2 ≤ sizeLine
        exact small_size (by omega)
      · refine ⟨_, rfl, q _ l hl (Same.own (Same.new s1 hb) hl) ?_⟩
        rw [upd_same]
        show _ = some (HO.lst (((w.players.flatMap row3) ++ [w.coin.1, w.coin.2]).map nV))
        rw [List.map_append]
        rfl
end
end Bn

namespace Bn
open PySem PySem.Spec PyProof.Rows L2
def spWSum (CW : Addr) : Sp := fun vs H Q _ => ∃ (O : Addr → Prop) (a : Addr) (w : Ge14.World), vs = [.ref a] ∧ WorldIn CW O H a w ∧ w.players.length ≤ 4 ∧ ∀ H' : Hp, Same H H' → Q (nV (Ge14.sum w)) H'
def sumRow (w : Ge14.World) : List Nat := Ge14.worldRow w ++ [w.luck]
def mix (h x : Nat) : Nat := (h * 31 + x + 1) % 1000000007
theorem sum_row (w : Ge14.World) : Ge14.sum w = (sumRow w).foldl mix 7 := by
  have e : sumRow w = (w.players.flatMap fun p => [p.1, p.2.1, p.2.2]) ++ [w.coin.1, w.coin.2, w.luck] := by
    unfold sumRow Ge14.worldRow
    rw [List.append_assoc]
    rfl
  rw [e]
  rfl
theorem row_len (w : Ge14.World) : (Ge14.worldRow w).length = 3 * w.players.length + 2 := by
  show ((w.players.flatMap row3) ++ [w.coin.1, w.coin.2]).length = _
  rw [List.length_append, row3_len]
  rfl
section
variable {P : Program} {w : World} {K : PySem.W.Frag} {mg : Str → Option Value} {base : Heap} {CW : Addr}
theorem scWSum : FnScope ["self", "so_far", "number"] ["self"] (defScope sWSum) := ⟨rfl, rfl, rfl, by decide +kernel, rfl, by decide +kernel, by decide +kernel⟩
theorem ok_wSum {f : Addr} {fd : FuncData} (F : Fun K "world_sum" "World.world_sum" sWSum f fd) (T : TxtW K mg CW) (GN : MethOk P w K mg base CW "numbers" 1 ["self"] (spNumbers CW)) :
    FnOk P w K mg base CX0 2 f fd ["self"] (spWSum CW) := by
  obtain ⟨fN, fdN, mN, GN, bN⟩ := GN
  obtain ⟨tS, mS⟩ := T.sums
  refine F.ok scWSum (fun vs H Q E h => ?_) (fun cdv A outer s H vs Q E hr h => ?_)
  · obtain ⟨O, a, w, rfl, _⟩ := h
    rfl
  · obtain ⟨O, a, w, rfl, hw, hl4, q⟩ := h
    obtain ⟨dx, lp, lq, tc, ts, o1, o2, o3, n1, h1, h2⟩ := id hw
    refine ⟨_, pss_cons (ps_set (i := 1) scWSum.nd rfl (.inl rfl) pe_int)
      (pss_cons (ps_for PassesOwn.never rfl (pi_list (pe_op op_cat (pe_meth0 (pv 0) T.cl mN GN hr bN .nil pass0) (pe_lst (pa_cons (pe_fld (pv 0) rfl) pa_nil)))) (pg_name (i := 2) scWSum.nd rfl (.inl rfl))
        (pss_one (ps_set (i := 1) scWSum.nd rfl (.inl rfl) (pe_op op_mod (pe_op op_add (pe_op op_add (pe_op op_mul pe_int (pv 1)) (pv 2)) pe_int) (pe_glob (v := .int 1000000007) rfl mS ⟨_, rfl⟩)))))
      (pss_one (ps_ret (pv 1)))), ?_⟩
    refine ⟨_, rfl, a, dx, _, rfl, h1, wF_no (by decide +kernel) (by decide +kernel) (by decide +kernel) (by decide +kernel), O, a, w, rfl, hw, hl4, fun H1 p np s1 hp => ?_⟩
    refine ⟨_, rfl, a, CW, dx, _, _, rfl, s1 _ _ h1, T.cl, T.nLu, wF_luck, (by show 1 ≤ sizeLine; decide), fun b hb => ?_⟩
    have npb : p ≠ b := ne_of_none hp hb
    refine ⟨p, b, _, _, rfl, rfl, (upd_ne npb).trans hp, upd_same, ?_, fun l hl => ?_⟩
    · rw [List.length_map, row_len]
      show 3 * w.players.length + 2 + 1 ≤ sizeLine
      exact small_size (by omega)
    have er : (Ge14.worldRow w).map nV ++ [nV w.luck] = (sumRow w).map nV := by
      unfold sumRow
      rw [List.map_append]
      rfl
    rw [er]
    refine ⟨l, rfl, ⟨_, SqL.of upd_same⟩, ?_⟩
    refine for_list (K := K) (a := l) (xs := (sumRow w).map nV) (fun i σ H2 => ∃ v, σ = [some (.ref a), some (nV (((sumRow w).take i).foldl mix 7)), v] ∧ Same H H2 ∧ H2 l = some (.lst ((sumRow w).map nV))) ?_ ?_ ?_ ?_
    · exact ⟨none, rfl, Same.new (Same.new s1 hb) hl, upd_same⟩
    · rintro i σ H2 _ ⟨v, _, _, h⟩
      exact SqL.of h
    · rintro i x σ H2 hx ⟨v, rfl, s2, hl2⟩
      rw [List.getElem?_map] at hx
      obtain ⟨k, ek, rfl⟩ := Option.map_eq_some_iff.mp hx
      refine ⟨_, rfl, _, _, rfl, rfl, .inl ⟨by decide, by decide⟩, _, rfl, _, _, rfl, rfl, _, _, rfl, rfl, _, _, rfl, rfl, (by show (0 : Int) < 1000000007; decide), ?_⟩
      refine ⟨some (nV k), ?_, s2, hl2⟩
      rw [take_more ek, List.foldl_append]
      have e : ((31 : Int) * (((sumRow w).take i).foldl mix 7 : Nat) + (k : Int) + 1) % 1000000007 = ((mix (((sumRow w).take i).foldl mix 7) k : Nat) : Int) := by
        unfold mix
        omega
      show [_, some (V.int (((31 : Int) * (((sumRow w).take i).foldl mix 7 : Nat) + (k : Int) + 1) % 1000000007)), _] = _
      rw [e]
      rfl
    · rintro σ H2 ⟨v, rfl, s2, hl2⟩
      rw [List.length_map, List.take_length, ← sum_row]
      exact ⟨_, rfl, q _ s2⟩
end
end Bn

namespace Bn
open PySem PySem.Spec PyProof.Rows L2
abbrev sFirstDiff : Stmt := top 10
abbrev sLInit : Stmt := inClass (top 11) 0
abbrev sMInit : Stmt := inClass (top 12) 0
abbrev sMShown : Stmt := inClass (top 12) 1
abbrev sMSure : Stmt := inClass (top 12) 2
abbrev sMPress : Stmt := inClass (top 12) 3
abbrev sMTaken : Stmt := inClass (top 12) 4
abbrev sMWorld : Stmt := inClass (top 12) 5
abbrev sMLetter : Stmt := inClass (top 12) 6
abbrev sMReceive : Stmt := inClass (top 12) 7
abbrev sMWhen : Stmt := inClass (top 12) 8
abbrev sMLearn : Stmt := inClass (top 12) 9
/-! ### fields -/
def lF (l : Ge14.Letter) (lp : Addr) : List (Str × V) := [("sender", nV l.from_), ("receiver", nV l.to), ("first", nV l.start), ("pressed", .ref lp), ("told", nV l.have_)]
section
variable {l : Ge14.Letter} {lp : Addr}
theorem lF_sender : (lF l lp).lookup ("sender" : Str) = some (nV l.from_) := lk_here
theorem lF_receiver : (lF l lp).lookup ("receiver" : Str) = some (nV l.to) := lk_past (by decide +kernel) lk_here
theorem lF_first : (lF l lp).lookup ("first" : Str) = some (nV l.start) := lk_past (by decide +kernel) (lk_past (by decide +kernel) lk_here)
theorem lF_pressed : (lF l lp).lookup ("pressed" : Str) = some (.ref lp) := lk_past (by decide +kernel) (lk_past (by decide +kernel) (lk_past (by decide +kernel) lk_here))
theorem lF_told : (lF l lp).lookup ("told" : Str) = some (nV l.have_) := lk_past (by decide +kernel) (lk_past (by decide +kernel) (lk_past (by decide +kernel) (lk_past (by decide +kernel) lk_here)))
end
def mF (num seed : Nat) (lk lt : Addr) (again : Nat) : List (Str × V) := [("number", nV num), ("seed", nV seed), ("known", .ref lk), ("there", .ref lt), ("again", nV again)]
section
variable {num seed again : Nat} {lk lt : Addr}
theorem mF_number : (mF num seed lk lt again).lookup ("number" : Str) = some (nV num) := lk_here
theorem mF_seed : (mF num seed lk lt again).lookup ("seed" : Str) = some (nV seed) := lk_past (by decide +kernel) lk_here
theorem mF_known : (mF num seed lk lt again).lookup ("known" : Str) = some (.ref lk) := lk_past (by decide +kernel) (lk_past (by decide +kernel) lk_here)
theorem mF_there : (mF num seed lk lt again).lookup ("there" : Str) = some (.ref lt) := lk_past (by decide +kernel) (lk_past (by decide +kernel) (lk_past (by decide +kernel) lk_here))
theorem mF_again : (mF num seed lk lt again).lookup ("again" : Str) = some (nV again) := lk_past (by decide +kernel) (lk_past (by decide +kernel) (lk_past (by decide +kernel) (lk_past (by decide +kernel) lk_here)))
theorem mF_no {m : Str} (h1 : (m == "number") = false) (h2 : (m == "seed") = false) (h3 : (m == "known") = false) (h4 : (m == "there") = false) (h5 : (m == "again") = false) : (mF num seed lk lt again).lookup m = none :=
  lk_past h1 (lk_past h2 (lk_past h3 (lk_past h4 (lk_past h5 rfl))))
theorem mF_put_again {again' : Nat} : putF "again" (nV again') (mF num seed lk lt again) = mF num seed lk lt again' :=
  put_past (by decide +kernel) (put_past (by decide +kernel) (put_past (by decide +kernel) (put_past (by decide +kernel) put_here)))
end
structure TxtM (K : PySem.W.Frag) (mg : Str → Option Value) (CL CM : Addr) : Prop where
  clL : Cls K CL
  cl : Cls K CM
  lSe : NoAttr K CL "sender"
  lRe : NoAttr K CL "receiver"
  lFi : NoAttr K CL "first"
  lPr : NoAttr K CL "pressed"
  lTo : NoAttr K CL "told"
  nNu : NoAttr K CM "number"
  nSe : NoAttr K CM "seed"
  nKn : NoAttr K CM "known"
  nTh : NoAttr K CM "there"
  nAg : NoAttr K CM "again"
  range : mg "range" = none
  len : mg "len" = none
  min : mg "min" = none
  max : mg "max" = none
/-! ### letters and machines in the heap -/
def LetterIn (CL : Addr) (O : Addr → Prop) (H : Hp) (a : Addr) (l : Ge14.Letter) : Prop := ∃ dx lp : Addr, O a ∧ O lp ∧ H a = some (.ins CL dx (lF l lp)) ∧ H lp = some (.lst (l.keys.map nV))
def KeysAt (H : Hp) (ks : List Addr) (keys : List (List Nat)) : Prop := ks.length = keys.length ∧ ∀ (i : Nat) (k : Addr) (l : List Nat), ks[i]? = some k → keys[i]? = some l → H k = some (.lst (l.map nV))
structure MachAt (CM : Addr) (O : Addr → Prop) (H : Hp) (a : Addr) (num seed : Nat) (m : Ge14.Machine) (dx lk lt : Addr) (ks : List Addr) : Prop where
  oa : O a
  ok : O lk
  ot : O lt
  os : ∀ x ∈ ks, O x
  ha : H a = some (.ins CM dx (mF num seed lk lt m.again))
  hk : H lk = some (.lst (ks.map V.ref))
  ht : H lt = some (.lst (m.there.map nV))
  hs : KeysAt H ks m.keys
  kt : lk ≠ lt
  kn : lk ∉ ks
  tn : lt ∉ ks
  nd : ks.Nodup
def MachIn (CM : Addr) (O : Addr → Prop) (H : Hp) (a : Addr) (num seed : Nat) (m : Ge14.Machine) : Prop := ∃ (dx lk lt : Addr) (ks : List Addr), MachAt CM O H a num seed m dx lk lt ks
section
variable {CL CM : Addr} {O O' : Addr → Prop} {H H' : Hp} {a : Addr} {num seed : Nat} {m : Ge14.Machine} {l : Ge14.Letter}
theorem LetterIn.same (h : LetterIn CL O H a l) (s : Same H H') : LetterIn CL O H' a l := by
  obtain ⟨dx, lp, o1, o2, h1, h2⟩ := h
  exact ⟨dx, lp, o1, o2, s _ _ h1, s _ _ h2⟩
theorem LetterIn.mono (h : LetterIn CL O H a l) (s : ∀ x, O x → O' x) : LetterIn CL O' H a l := by
  obtain ⟨dx, lp, o1, o2, h1, h2⟩ := h
  exact ⟨dx, lp, s _ o1, s _ o2, h1, h2⟩
theorem LetterIn.keeps (h : LetterIn CL O H a l) (s : Keeps O' H H') (d : ∀ x, O x → ¬ O' x) : LetterIn CL O H' a l := by
  obtain ⟨dx, lp, o1, o2, h1, h2⟩ := h
  exact ⟨dx, lp, o1, o2, s _ _ h1 (d _ o1), s _ _ h2 (d _ o2)⟩
theorem MachIn.keeps (h : MachIn CM O H a num seed m) (s : Keeps O' H H') (d : ∀ x, O x → ¬ O' x) : MachIn CM O H' a num seed m := by
  obtain ⟨dx, lk, lt, ks, h⟩ := h
  exact ⟨dx, lk, lt, ks, h.oa, h.ok, h.ot, h.os, s _ _ h.ha (d _ h.oa), s _ _ h.hk (d _ h.ok), s _ _ h.ht (d _ h.ot), ⟨h.hs.1, fun i k l e1 e2 => s _ _ (h.hs.2 i k l e1 e2) (d _ (h.os _ (List.mem_of_getElem? e1)))⟩, h.kt, h.kn, h.tn, h.nd⟩
theorem MachIn.same (h : MachIn CM O H a num seed m) (s : Same H H') : MachIn CM O H' a num seed m := h.keeps (O' := fun _ => False) (fun b o e _ => s b o e) fun _ _ z => z
theorem MachIn.mono (h : MachIn CM O H a num seed m) (s : ∀ x, O x → O' x) : MachIn CM O' H a num seed m := by
  obtain ⟨dx, lk, lt, ks, h⟩ := h
  exact ⟨dx, lk, lt, ks, s _ h.oa, s _ h.ok, s _ h.ot, fun x e => s _ (h.os x e), h.ha, h.hk, h.ht, h.hs, h.kt, h.kn, h.tn, h.nd⟩
/-- the list of one player's keys -/
theorem MachAt.keys {dx lk lt : Addr} {ks : List Addr} (h : MachAt CM O H a num seed m dx lk lt ks) {p : Nat} (hp : p < m.keys.length) : ∃ k, ks[p]? = some k ∧ H k = some (.lst ((Ge14.keysOf m p).map nV)) ∧ m.keys[p]? = some (Ge14.keysOf m p) := by
  have e2 : m.keys[p]? = some (Ge14.keysOf m p) := by
    unfold Ge14.keysOf
    rw [List.getD_eq_getElem?_getD, List.getElem?_eq_getElem hp]
    rfl
  have hl : p < ks.length := by rw [h.hs.1]; exact hp
  exact ⟨ks[p], List.getElem?_eq_getElem hl, h.hs.2 p _ _ (List.getElem?_eq_getElem hl) e2, e2⟩
end
/-! ### promises -/
def spMShown (CM : Addr) : Sp := fun vs H Q _ => ∃ (O : Addr → Prop) (a : Addr) (num seed : Nat) (m : Ge14.Machine), vs = [.ref a] ∧ MachIn CM O H a num seed m ∧ num < m.keys.length ∧ Q (nV (Ge14.keysOf m num).length) H
def spMSure (CM : Addr) : Sp := fun vs H Q _ => ∃ (O : Addr → Prop) (a : Addr) (num seed : Nat) (m : Ge14.Machine), vs = [.ref a] ∧ MachIn CM O H a num seed m ∧ 0 < m.keys.length ∧ m.keys.length ≤ 4 ∧ ∀ H', Same H H' → Q (nV (Ge14.sure m)) H'
def spMPress (CM : Addr) : Sp := fun vs H Q _ => ∃ (O : Addr → Prop) (a : Addr) (num seed : Nat) (m : Ge14.Machine) (k : Nat), vs = [.ref a, nV k] ∧ MachIn CM O H a num seed m ∧ num < m.keys.length ∧ (Ge14.keysOf m num).length ≤ 100 ∧
  ∀ H', Keeps O H H' → MachIn CM O H' a num seed { m with keys := m.keys.set num (Ge14.keysOf m num ++ [k]), now := m.now + 1 } → Q .non H'
def spMTaken (CM : Addr) : Sp := fun vs H Q _ => ∃ (O : Addr → Prop) (a : Addr) (num seed : Nat) (m : Ge14.Machine) (p t : Nat), vs = [.ref a, nV p, nV t] ∧ MachIn CM O H a num seed m ∧ p < m.keys.length ∧ Q (nV (Ge14.taken m p t)) H
section
variable {P : Program} {w : World} {K : PySem.W.Frag} {mg : Str → Option Value} {base : Heap} {CW CL CM : Addr}
theorem scMShown : FnScope ["self"] ["self"] (defScope sMShown) := ⟨rfl, rfl, rfl, by decide +kernel, rfl, by decide +kernel, by decide +kernel⟩
theorem ok_mShown {f : Addr} {fd : FuncData} (F : Fun K "shown" "Machine.shown" sMShown f fd) (T : TxtM K mg CL CM) : FnOk P w K mg base CX0 1 f fd ["self"] (spMShown CM) := by
  refine F.ok scMShown (fun vs H Q E h => ?_) (fun cdv A outer s H vs Q E hr h => ?_)
  · obtain ⟨O, a, num, seed, m, rfl, _⟩ := h
    rfl
  · obtain ⟨O, a, num, seed, m, rfl, ⟨dx, lk, lt, ks, h⟩, hn, q⟩ := h
    obtain ⟨k, ek, hk, _⟩ := h.keys hn
    refine ⟨_, pss_one (ps_ret (pe_callB call_len_seq (by rfl) T.len PySem.boot_len (pa_cons (pe_ix ix_list (pe_fld (pv 0) rfl) (pe_fld (pv 0) rfl) (fun _ _ => rfl)) pa_nil))), ?_⟩
    refine ⟨_, rfl, a, CM, dx, _, _, rfl, h.ha, T.cl, T.nKn, mF_known, _, rfl, a, CM, dx, _, _, rfl, h.ha, T.cl, T.nNu, mF_number, lk, _, _, .ref k, rfl, rfl, SqL.of h.hk, atI_nat (by rw [List.getElem?_map, ek]; rfl), k, _, rfl, .inl (SqL.of hk), ?_⟩
    rw [List.length_map]
    exact q
theorem scMTaken : FnScope ["self", "player", "tick", "pressed"] ["self", "player", "tick"] (defScope sMTaken) := ⟨rfl, rfl, rfl, by decide +kernel, rfl, by decide +kernel, by decide +kernel⟩
theorem ok_mTaken {f : Addr} {fd : FuncData} (F : Fun K "taken" "Machine.taken" sMTaken f fd) (T : TxtM K mg CL CM) : FnOk P w K mg base CX0 1 f fd ["self", "player", "tick"] (spMTaken CM) := by
  refine F.ok scMTaken (fun vs H Q E h => ?_) (fun cdv A outer s H vs Q E hr h => ?_)
  · obtain ⟨O, a, num, seed, m, p, t, rfl, _⟩ := h
    rfl
  · obtain ⟨O, a, num, seed, m, p, t, rfl, ⟨dx, lk, lt, ks, h⟩, hp, q⟩ := h
    obtain ⟨k, ek, hk, _⟩ := h.keys hp
    refine ⟨_, pss_cons (ps_set (i := 3) scMTaken.nd rfl (.inl rfl) (pe_ix ix_list (pe_fld (pv 0) rfl) (pv 1) (fun _ _ => rfl)))
      (pss_cons (ps_if (pt_cmpR op_lt (pv 2) (pe_callB call_len_seq (by rfl) T.len PySem.boot_len (pa_cons (pv 3) pa_nil)) (nomark _)) (pss_one (ps_ret (pe_ix ix_list (pv 3) (pv 2) (fun _ _ => rfl)))) pss_nil)
      (pss_cons (ps_if (pt_cmpR op_gt (pe_callB call_len_seq (by rfl) T.len PySem.boot_len (pa_cons (pv 3) pa_nil)) pe_int (nomark _)) (pss_one (ps_ret (pe_ix ix_list (pv 3) (pe_op op_sub (pe_callB call_len_seq (by rfl) T.len PySem.boot_len (pa_cons (pv 3) pa_nil)) pe_int) (fun _ _ => rfl)))) pss_nil)
      (pss_one (ps_ret pe_int)))), ?_⟩
    refine ⟨_, rfl, a, CM, dx, _, _, rfl, h.ha, T.cl, T.nKn, mF_known, _, rfl, lk, _, _, .ref k, rfl, rfl, SqL.of h.hk, atI_nat (by rw [List.getElem?_map, ek]; rfl), ?_⟩
    refine ⟨_, rfl, _, rfl, k, _, rfl, .inl (SqL.of hk), _, _, rfl, rfl, _, rfl, ?_⟩
    rw [List.length_map]
    refine ite2 (fun c => ?_) (fun c => ?_)
    · have c : (t : Int) < ((Ge14.keysOf m p).length : Int) := of_decide_eq_true c
      have c' : t < (Ge14.keysOf m p).length := by omega
      have e : (Ge14.keysOf m p)[t]? = some (Ge14.keysOf m p)[t] := List.getElem?_eq_getElem c'
      refine ⟨_, rfl, _, rfl, k, _, _, nV (Ge14.keysOf m p)[t], rfl, rfl, SqL.of hk, atI_nat (by rw [List.getElem?_map, e]; rfl), ?_⟩
      have e2 : Ge14.taken m p t = (Ge14.keysOf m p)[t] := by
        unfold Ge14.taken
        rw [e]
        rfl
      rw [← e2]
      exact q
    · have c : ¬ (t : Int) < ((Ge14.keysOf m p).length : Int) := fun z => c (decide_eq_true z)
      have e : (Ge14.keysOf m p)[t]? = none := List.getElem?_eq_none (by omega)
      refine ⟨_, rfl, k, _, rfl, .inl (SqL.of hk), _, _, rfl, rfl, _, rfl, ?_⟩
      rw [List.length_map]
      refine ite2 (fun d => ?_) (fun d => ?_)
      · have d : (0 : Int) < ((Ge14.keysOf m p).length : Int) := of_decide_eq_true d
        have e1 : (Ge14.keysOf m p)[(Ge14.keysOf m p).length - 1]? = some ((Ge14.keysOf m p).getLastD 0) := by
          rw [← List.getLast?_eq_getElem?, List.getLastD_eq_getLast?]
          cases z : Ge14.keysOf m p with
          | nil =>
            rw [z] at d
            simp at d
          | cons x r => simp [List.getLast?_cons]
        have e3 : ((Ge14.keysOf m p).length : Int) - 1 = (((Ge14.keysOf m p).length - 1 : Nat) : Int) := by omega
        refine ⟨_, rfl, _, rfl, k, _, rfl, .inl (SqL.of hk), _, _, rfl, rfl, k, _, _, nV ((Ge14.keysOf m p).getLastD 0), rfl, rfl, SqL.of hk, ?_, ?_⟩
        · rw [List.length_map]
          rw [e3]
          exact atI_nat (by rw [List.getElem?_map, e1]; rfl)
        · have e2 : Ge14.taken m p t = (Ge14.keysOf m p).getLastD 0 := by
            unfold Ge14.taken
            rw [e]
            rfl
          rw [← e2]
          exact q
      · have d : ¬ (0 : Int) < ((Ge14.keysOf m p).length : Int) := fun z => d (decide_eq_true z)
        have e1 : Ge14.keysOf m p = [] := List.eq_nil_of_length_eq_zero (by omega)
        have e2 : Ge14.taken m p t = 0 := by
          unfold Ge14.taken
          rw [e1]
          rfl
        rw [e2] at q
        exact q

theorem foldl_min_le : ∀ (l : List (List Nat)) (b : Nat), l.foldl (fun a x => min a x.length) b ≤ b ∧ ∀ x ∈ l, l.foldl (fun a x => min a x.length) b ≤ x.length
  | [], b => ⟨Nat.le_refl _, fun x h => nomatch h⟩
  | y :: l, b => by
    obtain ⟨h1, h2⟩ := foldl_min_le l (min b y.length)
    refine ⟨Nat.le_trans h1 (Nat.min_le_left _ _), fun x hx => ?_⟩
    rcases List.mem_cons.mp hx with rfl | hx
    · exact Nat.le_trans h1 (Nat.min_le_right _ _)
    · exact h2 x hx
theorem foldl_min_mem : ∀ (l : List (List Nat)) (b : Nat), l.foldl (fun a x => min a x.length) b = b ∨ ∃ x ∈ l, l.foldl (fun a x => min a x.length) b = x.length
  | [], b => .inl rfl
  | y :: l, b => by
    rcases foldl_min_mem l (min b y.length) with h | ⟨x, hx, h⟩
    · rw [List.foldl_cons, h]
      rcases Nat.le_total b y.length with c | c
      · exact .inl (Nat.min_eq_left c)
      · exact .inr ⟨y, List.mem_cons_self, Nat.min_eq_right c⟩
    · exact .inr ⟨x, List.mem_cons_of_mem _ hx, h⟩
theorem sure_le {m : Ge14.Machine} {x : List Nat} (h : x ∈ m.keys) : Ge14.sure m ≤ x.length := by
  unfold Ge14.sure
  split
  · exact Nat.zero_le _
  · rename_i k l e
    rw [e] at h
    rcases List.mem_cons.mp h with rfl | h
    · exact (foldl_min_le l _).1
    · exact (foldl_min_le l _).2 x h
theorem sure_mem {m : Ge14.Machine} (h : 0 < m.keys.length) : ∃ x ∈ m.keys, Ge14.sure m = x.length := by
  unfold Ge14.sure
  split
  · rename_i e
    rw [e] at h
    exact absurd h (by decide)
  · rename_i k l e
    rcases foldl_min_mem l k.length with q | ⟨x, hx, q⟩
    · exact ⟨k, by rw [e]; exact List.mem_cons_self, q⟩
    · exact ⟨x, by rw [e]; exact List.mem_cons_of_mem _ hx, q⟩
theorem scMSure : FnScope ["self", "pressed"] ["self"] (defScope sMSure) := ⟨rfl, rfl, rfl, by decide +kernel, rfl, by decide +kernel, by decide +kernel⟩
theorem ok_mSure {f : Addr} {fd : FuncData} (F : Fun K "sure" "Machine.sure" sMSure f fd) (T : TxtM K mg CL CM) : FnOk P w K mg base CX0 1 f fd ["self"] (spMSure CM) := by
  refine F.ok scMSure (fun vs H Q E h => ?_) (fun cdv A outer s H vs Q E hr h => ?_)
  · obtain ⟨O, a, num, seed, m, rfl, _⟩ := h
    rfl
  · obtain ⟨O, a, num, seed, m, rfl, ⟨dx, lk, lt, ks, h⟩, h0, h4, q⟩ := h
    refine ⟨_, pss_one (ps_ret (pe_callB (cr_min rfl) (by rfl) T.min (by decide +kernel) (pa_cons (pe_lc (own := [("pressed", 1)]) (g := gName 1) (tt := tYes) (te := tCB (rLenK K) (tCons (tVar 1) tNil)) rfl scMSure.nd (pi_list (pe_fld (pv 0) rfl)) (blkOk_by (own := [("pressed", 1)]) (N := ["self", "pressed"]) (sc := defScope sMSure) (by decide +kernel))
      (fun _ _ _ _ _ => pg_name (i := 1) scMSure.nd rfl (Or.inl rfl)) (fun _ _ _ _ _ => pts_nil) (fun _ _ _ _ _ => pe_callB call_len_seq (by rfl) T.len PySem.boot_len (pa_cons (pv 1) pa_nil))) pa_nil))), ?_⟩
    refine ⟨_, rfl, a, CM, dx, _, _, rfl, h.ha, T.cl, T.nKn, mF_known, lk, rfl, ⟨_, SqL.of h.hk⟩, fun D hD => ?_⟩
    refine lc_list (K := K) (a := lk) (xs := ks.map V.ref) (fun i H1 => Same H H1 ∧ H1 D = some (.lst (((m.keys.take i).map fun l => (l.length : Int)).map V.int))) ?_ ?_ ?_ ?_
    · exact ⟨same_new hD, upd_same⟩
    · rintro i H1 _ ⟨s1, _⟩
      exact SqL.of (s1 _ _ h.hk)
    · rintro i x H1 hx ⟨s1, d1⟩
      rw [List.getElem?_map] at hx
      obtain ⟨k, ek, rfl⟩ := Option.map_eq_some_iff.mp hx
      have hil : i < m.keys.length := by rw [← h.hs.1]; exact (List.getElem?_eq_some_iff.mp ek).1
      have el : m.keys[i]? = some m.keys[i] := List.getElem?_eq_getElem hil
      have hk := h.hs.2 i k _ ek el
      refine ⟨rfl, yes_of ?_⟩
      refine ⟨_, rfl, k, _, rfl, .inl (SqL.of (s1 _ _ hk)), _, d1, ?_, ?_, ?_⟩
      · rw [List.length_map, List.length_map, List.length_take]
        exact small1000 (by omega)
      · exact Same.own s1 hD
      · rw [upd_same, take_more el, List.map_append, List.map_append, List.length_map]
        rfl
    · rintro H1 ⟨s1, d1⟩
      rw [List.length_map, h.hs.1, List.take_length] at d1
      refine ⟨D, m.keys.map fun l => (l.length : Int), rfl, SqL.of d1, by rw [List.length_map]; exact h0, fun mm hm hle => ?_⟩
      have e : mm = (Ge14.sure m : Int) := by
        obtain ⟨x, hx, ex⟩ := List.mem_map.mp hm
        obtain ⟨y, hy, ey⟩ := sure_mem h0
        have h1 := sure_le hx
        have h2 := hle _ (List.mem_map.mpr ⟨y, hy, rfl⟩)
        omega
      rw [e]
      exact q _ s1
theorem KeysAt.same {H H' : Hp} {ks : List Addr} {keys : List (List Nat)} (h : KeysAt H ks keys) (s : ∀ (k : Addr) (l : List Nat), k ∈ ks → H k = some (.lst (l.map nV)) → H' k = some (.lst (l.map nV))) : KeysAt H' ks keys :=
  ⟨h.1, fun i k l e1 e2 => s k l (List.mem_of_getElem? e1) (h.2 i k l e1 e2)⟩
theorem KeysAt.set {H : Hp} {ks : List Addr} {keys : List (List Nat)} {p : Nat} {k : Addr} {l : List Nat} (h : KeysAt H ks keys) (e : ks[p]? = some k) (nd : ks.Nodup) : KeysAt (upd H k (.lst (l.map nV))) ks (keys.set p l) := by
  refine ⟨by rw [List.length_set]; exact h.1, fun i k' l' e1 e2 => ?_⟩
  by_cases hi : p = i
  · subst hi
    rw [e] at e1
    cases e1
    rw [List.getElem?_set] at e2
    simp only [if_true] at e2
    split at e2
    · cases e2
      exact upd_same
    · cases e2
  · rw [List.getElem?_set_ne hi] at e2
    have nk : k' ≠ k := fun z => by
      subst z
      exact hi (nodup_ix nd e e1)
    rw [upd_ne nk]
    exact h.2 i k' l' e1 e2
theorem MachAt.setKeys {O : Addr → Prop} {H : Hp} {a : Addr} {num seed : Nat} {m : Ge14.Machine} {dx lk lt : Addr} {ks : List Addr} (h : MachAt CM O H a num seed m dx lk lt ks) {p : Nat} {k : Addr} {l0 l : List Nat} {now : Nat} (e : ks[p]? = some k) (hk : H k = some (.lst (l0.map nV))) :
    MachAt CM O (upd H k (.lst (l.map nV))) a num seed { m with keys := m.keys.set p l, now := now } dx lk lt ks := by
  have mk : k ∈ ks := List.mem_of_getElem? e
  have n1 : a ≠ k := (ne_of hk h.ha (by intro z; cases z)).symm
  have n2 : lk ≠ k := fun z => h.kn (z ▸ mk)
  have n3 : lt ≠ k := fun z => h.tn (z ▸ mk)
  exact ⟨h.oa, h.ok, h.ot, h.os, (upd_ne n1).trans h.ha, (upd_ne n2).trans h.hk, (upd_ne n3).trans h.ht, h.hs.set e h.nd, h.kt, h.kn, h.tn, h.nd⟩
theorem scMPress : FnScope ["self", "key"] ["self", "key"] (defScope sMPress) := ⟨rfl, rfl, rfl, by decide +kernel, rfl, by decide +kernel, by decide +kernel⟩
theorem ok_mPress {f : Addr} {fd : FuncData} (F : Fun K "press" "Machine.press" sMPress f fd) (T : TxtM K mg CL CM) : FnOk P w K mg base CX0 1 f fd ["self", "key"] (spMPress CM) := by
  refine F.ok scMPress (fun vs H Q E h => ?_) (fun cdv A outer s H vs Q E hr h => ?_)
  · obtain ⟨O, a, num, seed, m, k, rfl, _⟩ := h
    rfl
  · obtain ⟨O, a, num, seed, m, key, rfl, ⟨dx, lk, lt, ks, h⟩, hn, h100, q⟩ := h
    obtain ⟨k, ek, hk, _⟩ := h.keys hn
    refine ⟨_, pss_one (ps_expr (pe_bm PySem.F.plainAttrs_list PySem.F.slot_list_append PySem.F.type_list_append mt_append (pe_ix ix_list (pe_fld (pv 0) rfl) (pe_fld (pv 0) rfl) (fun _ _ => rfl)) (pa_cons (pv 1) pa_nil))), ?_⟩
    refine ⟨_, rfl, a, CM, dx, _, _, rfl, h.ha, T.cl, T.nKn, mF_known, _, rfl, a, CM, dx, _, _, rfl, h.ha, T.cl, T.nNu, mF_number, lk, _, _, .ref k, rfl, rfl, SqL.of h.hk, atI_nat (by rw [List.getElem?_map, ek]; rfl), .inl ⟨rfl, _, SqL.of hk⟩, _, rfl, k, _, _, rfl, rfl, hk, by rw [List.length_map]; exact small1000 (by omega), ?_⟩
    have e : (Ge14.keysOf m num).map nV ++ [nV key] = (Ge14.keysOf m num ++ [key]).map nV := by rw [List.map_append]; rfl
    rw [e]
    exact q _ ((Keeps.refl _ _).upd (.inl (h.os _ (List.mem_of_getElem? ek)))) ⟨dx, lk, lt, ks, h.setKeys ek hk⟩
end
end Bn

namespace Bn
open PySem PySem.Spec PyProof.Rows L2
/-! ### promises -/
def fdiff (xs ys : List Nat) : Nat := ((List.range xs.length).find? fun i => xs.getD i 0 != ys.getD i 0).getD xs.length
def spFirstDiff : Sp := fun vs H Q _ => ∃ (a b : Addr) (xs ys : List Nat), vs = [.ref a, .ref b] ∧ H a = some (.lst (xs.map nV)) ∧ H b = some (.lst (ys.map nV)) ∧ xs.length = ys.length ∧ xs.length ≤ 100 ∧ Q (nV (fdiff xs ys)) H
def spLInit (CL : Addr) : Sp := fun vs H Q _ => ∃ (p dx lp : Addr) (l : Ge14.Letter), vs = [.ref p, nV l.from_, nV l.to, nV l.start, .ref lp, nV l.have_] ∧ H p = some (.ins CL dx []) ∧
  ∀ H' : Hp, (∀ b o, H b = some o → b ≠ p → H' b = some o) → H' p = some (.ins CL dx (lF l lp)) → Q .non H'
def spMInit (CM : Addr) : Sp := fun vs H Q _ => ∃ (p dx : Addr) (num n seed : Nat), vs = [.ref p, nV num, nV n, nV seed] ∧ n ≤ 4 ∧ H p = some (.ins CM dx []) ∧
  ∀ H' : Hp, (∀ b o, H b = some o → b ≠ p → H' b = some o) → MachIn CM (fun x => x = p ∨ H x = none) H' p num seed (Ge14.fresh n) → Q .non H'
def wAt (n seed : Nat) (m : Ge14.Machine) (t : Nat) : Ge14.World := (List.range t).foldl (fun w i => Ge14.tick w ((List.range n).map fun p => Ge14.taken m p i)) (Ge14.start n seed)
def spMWorld (CM CW : Addr) : Sp := fun vs H Q _ => ∃ (O : Addr → Prop) (a : Addr) (num seed : Nat) (m : Ge14.Machine) (t : Nat), vs = [.ref a, nV t] ∧ MachIn CM O H a num seed m ∧ m.keys.length ≤ 4 ∧ t ≤ 100 ∧ (∀ l ∈ m.keys, ∀ k ∈ l, k ≤ 4) ∧
  ∀ (H' : Hp) (x : Addr), Same H H' → WorldIn CW (fun z => H z = none) H' x (wAt m.keys.length seed m t) → WOk (wAt m.keys.length seed m t) → Q (.ref x) H'
def spMLetter (CM CL : Addr) : Sp := fun vs H Q _ => ∃ (O : Addr → Prop) (a : Addr) (num seed : Nat) (m : Ge14.Machine) (j : Nat), vs = [.ref a, nV j] ∧ MachIn CM O H a num seed m ∧ num < m.keys.length ∧ j < m.keys.length ∧ m.there.length = m.keys.length ∧
  ∀ (H' : Hp) (x : Addr), Same H H' → LetterIn CL (fun z => H z = none) H' x (Ge14.letterFor m num j) → Q (.ref x) H'
def spMWhen (CM : Addr) : Sp := fun vs H Q _ => ∃ (O : Addr → Prop) (a : Addr) (num seed : Nat) (m : Ge14.Machine) (p : Nat), vs = [.ref a, nV p] ∧ MachIn CM O H a num seed m ∧ num < m.keys.length ∧ p < m.keys.length ∧ (Ge14.keysOf m num).length ≤ 100 ∧
  ∀ (H' : Hp) (l : Addr), H l = none → Same H H' → H' l = some (.lst (((List.range (Ge14.keysOf m num).length).map (Ge14.taken m p)).map nV)) → Q (.ref l) H'
def learned (m : Ge14.Machine) (l : Ge14.Letter) : Ge14.Machine := { m with keys := m.keys.set l.from_ (Ge14.keysOf m l.from_ ++ if l.start ≤ (Ge14.keysOf m l.from_).length then l.keys.drop ((Ge14.keysOf m l.from_).length - l.start) else []) }
def spMLearn (CM CL : Addr) : Sp := fun vs H Q _ => ∃ (O O2 : Addr → Prop) (a la : Addr) (num seed : Nat) (m : Ge14.Machine) (l : Ge14.Letter), vs = [.ref a, .ref la] ∧ MachIn CM O H a num seed m ∧ LetterIn CL O2 H la l ∧ (∀ x, O2 x → ¬ O x) ∧ l.from_ < m.keys.length ∧ (Ge14.keysOf m l.from_).length ≤ 100 ∧ l.keys.length ≤ 100 ∧
  ∀ H' : Hp, Keeps O H H' → MachIn CM O H' a num seed (learned m l) → Q .non H'
section
variable {P : Program} {w : World} {K : PySem.W.Frag} {mg : Str → Option Value} {base : Heap} {CW CL CM : Addr}
theorem find_none {xs ys : List Nat} (h : ∀ j, j < xs.length → xs.getD j 0 = ys.getD j 0) : fdiff xs ys = xs.length := by
  unfold fdiff
  have e : ((List.range xs.length).find? fun i => xs.getD i 0 != ys.getD i 0) = none := by
    rw [List.find?_eq_none]
    intro x hx
    rw [h x (List.mem_range.mp hx)]
    simp
  rw [e]
  rfl
theorem find_some {xs ys : List Nat} {i : Nat} (hi : i < xs.length) (h : ∀ j, j < i → xs.getD j 0 = ys.getD j 0) (n : ¬ xs.getD i 0 = ys.getD i 0) : fdiff xs ys = i := by
  unfold fdiff
  have e : ((List.range xs.length).find? fun i => xs.getD i 0 != ys.getD i 0) = some i := by
    rw [List.find?_range_eq_some]
    refine ⟨by simpa using n, List.mem_range.mpr hi, fun j hj => ?_⟩
    rw [h j hj]
    simp
  rw [e]
  rfl
theorem scFirstDiff : FnScope ["before", "after", "index"] ["before", "after"] (defScope sFirstDiff) := ⟨rfl, rfl, rfl, by decide +kernel, rfl, by decide +kernel, by decide +kernel⟩
theorem ok_firstDiff {f : Addr} {fd : FuncData} (F : Fun K "first_difference" "first_difference" sFirstDiff f fd) (T : TxtM K mg CL CM) : FnOk P w K mg base CX0 1 f fd ["before", "after"] spFirstDiff := by
  refine F.ok scFirstDiff (fun vs H Q E h => ?_) (fun cdv A outer s H vs Q E hr h => ?_)
  · obtain ⟨a, b, xs, ys, rfl, _⟩ := h
    rfl
  · obtain ⟨a, b, xs, ys, rfl, ha, hb, hl, h100, q⟩ := h
    refine ⟨_, pss_cons (ps_for PassesOwn.never rfl (pi_range1 rfl T.range (pa_cons (pe_callB call_len_seq (by rfl) T.len PySem.boot_len (pa_cons (pv 0) pa_nil)) pa_nil)) (pg_name (i := 2) scFirstDiff.nd rfl (.inl rfl))
        (pss_one (ps_if (pt_cmpR op_ne (pe_ix ix_list (pv 0) (pv 2) (fun _ _ => rfl)) (pe_ix ix_list (pv 1) (pv 2) (fun _ _ => rfl)) (nomark _)) (pss_one (ps_ret (pv 2))) pss_nil)))
      (pss_one (ps_ret (pe_callB call_len_seq (by rfl) T.len PySem.boot_len (pa_cons (pv 0) pa_nil)))), ?_⟩
    refine ⟨_, rfl, a, _, rfl, .inl (SqL.of ha), _, rfl, by rw [List.length_map]; omega, by rw [List.length_map]; omega, ?_⟩
    refine for_range (lo := 0) (n := ((((xs.map nV).length : Nat) : Int)).toNat) (fun i σ H1 => ∃ v, σ = [some (.ref a), some (.ref b), v] ∧ H1 = H ∧ ∀ j, j < i → xs.getD j 0 = ys.getD j 0) ?_ ?_ ?_
    · exact ⟨none, rfl, rfl, fun j h => absurd h (Nat.not_lt_zero _)⟩
    · rintro i σ H1 hi ⟨v, rfl, rfl, hj⟩
      rw [List.length_map, Int.toNat_natCast] at hi
      have hi2 : i < ys.length := by omega
      have e1 : xs[i]? = some xs[i] := List.getElem?_eq_getElem hi
      have e2 : ys[i]? = some ys[i] := List.getElem?_eq_getElem hi2
      have z0 : (0 : Int) + (i : Int) = (i : Int) := Int.zero_add _
      rw [z0]
      refine ⟨_, rfl, _, rfl, a, _, _, nV xs[i], rfl, rfl, SqL.of ha, atI_nat (by rw [List.getElem?_map, e1]; rfl), _, rfl, _, rfl, b, _, _, nV ys[i], rfl, rfl, SqL.of hb, atI_nat (by rw [List.getElem?_map, e2]; rfl), rfl, _, rfl, ?_⟩
      have g1 : xs.getD i 0 = xs[i] := by rw [List.getD_eq_getElem?_getD, e1]; rfl
      have g2 : ys.getD i 0 = ys[i] := by rw [List.getD_eq_getElem?_getD, e2]; rfl
      by_cases c : xs[i] = ys[i]
      · rw [c, decide_eq_true rfl]
        refine iteF ⟨_, rfl, rfl, fun j hj' => ?_⟩
        rcases Nat.lt_succ_iff_lt_or_eq.mp hj' with z | z
        · exact hj j z
        · rw [z, g1, g2, c]
      · rw [decide_eq_false (p := nV xs[i] = nV ys[i]) (fun z => c (nV_inj z))]
        refine iteT ⟨_, rfl, ?_⟩
        have e := find_some hi hj (by rw [g1, g2]; exact c)
        rw [e] at q
        exact q
    · rintro σ H1 ⟨v, rfl, rfl, hj⟩
      rw [List.length_map, Int.toNat_natCast] at hj
      refine ⟨_, rfl, a, _, rfl, .inl (SqL.of ha), ?_⟩
      rw [find_none hj] at q
      rw [List.length_map]
      exact q
theorem scLInit : FnScope ["self", "sender", "receiver", "first", "pressed", "told"] ["self", "sender", "receiver", "first", "pressed", "told"] (defScope sLInit) := ⟨rfl, rfl, rfl, by decide +kernel, rfl, by decide +kernel, by decide +kernel⟩
theorem lF_new {l : Ge14.Letter} {lp : Addr} : putF "told" (nV l.have_) (putF "pressed" (.ref lp) (putF "first" (nV l.start) (putF "receiver" (nV l.to) (putF "sender" (nV l.from_) [])))) = lF l lp := by
  have e1 : putF "receiver" (nV l.to) (putF "sender" (nV l.from_) []) = [(("sender" : Str), nV l.from_), ("receiver", nV l.to)] := put_past (by decide +kernel) rfl
  have e2 : putF "first" (nV l.start) [(("sender" : Str), nV l.from_), ("receiver", nV l.to)] = [(("sender" : Str), nV l.from_), ("receiver", nV l.to), ("first", nV l.start)] := put_past (by decide +kernel) (put_past (by decide +kernel) rfl)
  have e3 : putF "pressed" (.ref lp) [(("sender" : Str), nV l.from_), ("receiver", nV l.to), ("first", nV l.start)] = [(("sender" : Str), nV l.from_), ("receiver", nV l.to), ("first", nV l.start), ("pressed", .ref lp)] := put_past (by decide +kernel) (put_past (by decide +kernel) (put_past (by decide +kernel) rfl))
  rw [e1, e2, e3]
  exact put_past (by decide +kernel) (put_past (by decide +kernel) (put_past (by decide +kernel) (put_past (by decide +kernel) rfl)))
theorem putF_len (f : Str) (v : V) : ∀ fs : List (Str × V), (putF f v fs).length ≤ fs.length + 1
  | [] => Nat.le_refl _
  | (g, x) :: r => by
    by_cases h : g = f
    · subst h
      rw [put_here]
      simp
    · rw [put_past h rfl]
      have := putF_len f v r
      simp only [List.length_cons]
      omega
theorem ok_lInit {f : Addr} {fd : FuncData} (F : Fun K "__init__" "Letter.__init__" sLInit f fd) (T : TxtM K mg CL CM) : FnOk P w K mg base CX0 1 f fd ["self", "sender", "receiver", "first", "pressed", "told"] (spLInit CL) := by
  refine F.ok scLInit (fun vs H Q E h => ?_) (fun cdv A outer s H vs Q E hr h => ?_)
  · obtain ⟨p, dx, lp, l, rfl, _⟩ := h
    rfl
  · obtain ⟨p, dx, lp, l, rfl, hp, q⟩ := h
    have b1 := putF_len "sender" (nV l.from_) []
    have b2 := putF_len "receiver" (nV l.to) (putF "sender" (nV l.from_) [])
    have b3 := putF_len "first" (nV l.start) (putF "receiver" (nV l.to) (putF "sender" (nV l.from_) []))
    have b4 := putF_len "pressed" (.ref lp) (putF "first" (nV l.start) (putF "receiver" (nV l.to) (putF "sender" (nV l.from_) [])))
    simp only [List.length_nil] at b1
    refine ⟨_, pss_cons (ps_fld (pv 0) (pv 1) rfl) (pss_cons (ps_fld (pv 0) (pv 2) rfl) (pss_cons (ps_fld (pv 0) (pv 3) rfl) (pss_cons (ps_fld (pv 0) (pv 4) rfl) (pss_one (ps_fld (pv 0) (pv 5) rfl))))), ?_⟩
    refine ⟨_, rfl, _, rfl, p, CL, dx, [], rfl, hp, T.clL, T.lSe, (by show 0 < 1000; decide), ?_⟩
    refine ⟨_, rfl, _, rfl, p, CL, dx, _, rfl, upd_same, T.clL, T.lRe, by omega, ?_⟩
    refine ⟨_, rfl, _, rfl, p, CL, dx, _, rfl, upd_same, T.clL, T.lFi, by omega, ?_⟩
    refine ⟨_, rfl, _, rfl, p, CL, dx, _, rfl, upd_same, T.clL, T.lPr, by omega, ?_⟩
    refine ⟨_, rfl, _, rfl, p, CL, dx, _, rfl, upd_same, T.clL, T.lTo, by omega, ?_⟩
    refine q _ (fun b o e hb => ?_) ?_
    · rw [upd_ne hb, upd_ne hb, upd_ne hb, upd_ne hb, upd_ne hb]
      exact e
    · rw [upd_same]
      exact congrArg (fun z => some (HO.ins CL dx z)) lF_new

theorem mF_new {num seed : Nat} {lk lt : Addr} : putF "again" (nV 0) (putF "there" (.ref lt) (putF "known" (.ref lk) (putF "seed" (nV seed) (putF "number" (nV num) [])))) = mF num seed lk lt 0 := by
  have e1 : putF "seed" (nV seed) (putF "number" (nV num) []) = [(("number" : Str), nV num), ("seed", nV seed)] := put_past (by decide +kernel) rfl
  have e2 : putF "known" (.ref lk) [(("number" : Str), nV num), ("seed", nV seed)] = [(("number" : Str), nV num), ("seed", nV seed), ("known", .ref lk)] := put_past (by decide +kernel) (put_past (by decide +kernel) rfl)
  have e3 : putF "there" (.ref lt) [(("number" : Str), nV num), ("seed", nV seed), ("known", .ref lk)] = [(("number" : Str), nV num), ("seed", nV seed), ("known", .ref lk), ("there", .ref lt)] := put_past (by decide +kernel) (put_past (by decide +kernel) (put_past (by decide +kernel) rfl))
  rw [e1, e2, e3]
  exact put_past (by decide +kernel) (put_past (by decide +kernel) (put_past (by decide +kernel) (put_past (by decide +kernel) rfl)))
theorem rep_flat (n : Nat) : (List.replicate n [V.int 0]).flatten = (List.replicate n 0).map nV := by
  induction n with
  | zero => rfl
  | succ n ih =>
    rw [List.replicate_succ, List.flatten_cons, ih, List.replicate_succ]
    rfl
theorem scMInit : FnScope ["self", "number", "players", "seed", "player"] ["self", "number", "players", "seed"] (defScope sMInit) := ⟨rfl, rfl, rfl, by decide +kernel, rfl, by decide +kernel, by decide +kernel⟩
theorem ok_mInit {f : Addr} {fd : FuncData} (F : Fun K "__init__" "Machine.__init__" sMInit f fd) (T : TxtM K mg CL CM) : FnOk P w K mg base CX0 1 f fd ["self", "number", "players", "seed"] (spMInit CM) := by
  refine F.ok scMInit (fun vs H Q E h => ?_) (fun cdv A outer s H vs Q E hr h => ?_)
  · obtain ⟨p, dx, num, n, seed, rfl, _⟩ := h
    rfl
  · obtain ⟨p, dx, num, n, seed, rfl, hn, hp, q⟩ := h
    have b1 := putF_len "number" (nV num) []
    have b2 := putF_len "seed" (nV seed) (putF "number" (nV num) [])
    simp only [List.length_nil] at b1
    refine ⟨_, pss_cons (ps_fld (pv 0) (pv 1) rfl) (pss_cons (ps_fld (pv 0) (pv 3) rfl)
      (pss_cons (ps_fld (pv 0) (pe_lc (own := [("player", 4)]) (g := gName 4) (tt := tYes) (te := tLst tNil) rfl scMInit.nd (pi_range1 rfl T.range (pa_cons (pv 2) pa_nil)) (blkOk_by (own := [("player", 4)]) (N := ["self", "number", "players", "seed", "player"]) (sc := defScope sMInit) (by decide +kernel))
        (fun _ _ _ _ _ => pg_name (i := 4) scMInit.nd rfl (Or.inl rfl)) (fun _ _ _ _ _ => pts_nil) (fun _ _ _ _ _ => pe_lst pa_nil)) rfl)
      (pss_cons (ps_fld (pv 0) (pe_op op_rep (pe_lst (pa_cons pe_int pa_nil)) (pv 2)) rfl)
      (pss_one (ps_fld (pv 0) pe_int rfl))))), ?_⟩
    refine ⟨_, rfl, _, rfl, p, CM, dx, [], rfl, hp, T.cl, T.nNu, (by show 0 < 1000; decide), ?_⟩
    refine ⟨_, rfl, _, rfl, p, CM, dx, _, rfl, upd_same, T.cl, T.nSe, by omega, ?_⟩
    -- known
    have hp2 : (upd (upd H p (.ins CM dx (putF "number" (nV num) []))) p (.ins CM dx (putF "seed" (nV seed) (putF "number" (nV num) [])))) p = some (.ins CM dx (putF "seed" (nV seed) (putF "number" (nV num) []))) := upd_same
    have f2 : ∀ b o, H b = some o → b ≠ p → (upd (upd H p (.ins CM dx (putF "number" (nV num) []))) p (.ins CM dx (putF "seed" (nV seed) (putF "number" (nV num) [])))) b = some o := fun b o e hb => by
      rw [upd_ne hb, upd_ne hb]
      exact e
    have g2 : ∀ b, (upd (upd H p (.ins CM dx (putF "number" (nV num) []))) p (.ins CM dx (putF "seed" (nV seed) (putF "number" (nV num) [])))) b = none → H b = none := fun b e => by
      by_cases hb : b = p
      · rw [hb, upd_same] at e
        cases e
      · rw [upd_ne hb, upd_ne hb] at e
        exact e
    revert hp2 f2 g2
    generalize (upd (upd H p (.ins CM dx (putF "number" (nV num) []))) p (.ins CM dx (putF "seed" (nV seed) (putF "number" (nV num) [])))) = H2
    intro hp2 f2 g2
    refine ⟨_, rfl, (n : Int), rfl, by omega, by omega, fun D hD => ?_⟩
    refine lc_range (lo := 0) (n := ((n : Int)).toNat) (fun i H1 => ∃ ks : List Addr, Same H2 H1 ∧ H1 D = some (.lst (ks.map V.ref)) ∧ ks.length = i ∧ ks.Nodup ∧ D ∉ ks ∧ (∀ k ∈ ks, H2 k = none ∧ H1 k = some (.lst []))) ?_ ?_ ?_
    · exact ⟨[], same_new hD, upd_same, rfl, List.nodup_nil, by simp, fun k h => nomatch h⟩
    · rintro i H1 hi ⟨ks, s1, d1, l1, nd, nD, a1⟩
      refine ⟨rfl, yes_of ?_⟩
      refine ⟨Nat.zero_le _, fun t ht => ?_⟩
      have nDt : D ≠ t := ne_of_none d1 ht
      have ht2 : H2 t = none := s1.free ht
      refine ⟨_, (upd_ne nDt).trans d1, by rw [List.length_map, l1]; exact small1000 (by omega), ks ++ [t], Same.own (Same.new s1 ht) hD, ?_, by rw [List.length_append, l1]; rfl, ?_, ?_, fun k hk => ?_⟩
      · rw [upd_same, List.map_append]
        rfl
      · rw [List.nodup_append]
        refine ⟨nd, by simp, fun x hx y hy => ?_⟩
        rw [List.mem_singleton] at hy
        subst hy
        exact ne_of_none (a1 x hx).2 ht
      · rw [List.mem_append, List.mem_singleton]
        rintro (z | z)
        · exact nD z
        · exact nDt z
      · rw [List.mem_append, List.mem_singleton] at hk
        rcases hk with hk | rfl
        · have nk : k ≠ D := fun z => nD (z ▸ hk)
          refine ⟨(a1 k hk).1, ?_⟩
          rw [upd_ne nk, upd_ne (ne_of_none (a1 k hk).2 ht)]
          exact (a1 k hk).2
        · refine ⟨ht2, ?_⟩
          rw [upd_ne nDt.symm, upd_same]
    · rintro H1 ⟨ks, s1, d1, l1, nd, nD, a1⟩
      have p1 := s1 _ _ hp2
      rw [Int.toNat_natCast] at l1
      have b3 := putF_len "known" (.ref D) (putF "seed" (nV seed) (putF "number" (nV num) []))
      refine ⟨_, rfl, p, CM, dx, _, rfl, p1, T.cl, T.nKn, by omega, ?_⟩
      -- there
      refine ⟨(by show 1 ≤ sizeLine; decide), fun l0 hl0 => ?_⟩
      refine ⟨_, rfl, l0, (n : Int), _, rfl, rfl, upd_same, by omega, by omega, (by show 1 * ((n : Int)).toNat ≤ sizeLine; exact small_size (by omega)), fun lt hlt => ?_⟩
      have nDp : D ≠ p := ne_of d1 p1 (by intro z; cases z)
      have np0 : p ≠ l0 := fun z => by rw [← z, upd_same] at hl0; cases hl0
      have h0 : H1 l0 = none := by rw [upd_ne np0.symm] at hl0; exact hl0
      have npq : p ≠ lt := fun z => by rw [← z, upd_ne np0, upd_same] at hlt; cases hlt
      have n0q : l0 ≠ lt := fun z => by rw [← z, upd_same] at hlt; cases hlt
      have hq1 : H1 lt = none := by rw [upd_ne n0q.symm, upd_ne npq.symm] at hlt; exact hlt
      have nDq : D ≠ lt := ne_of_none d1 hq1
      have nD0 : D ≠ l0 := ne_of_none d1 h0
      have b4 := putF_len "there" (.ref lt) (putF "known" (.ref D) (putF "seed" (nV seed) (putF "number" (nV num) [])))
      refine ⟨_, rfl, p, CM, dx, _, rfl, (by rw [upd_ne npq, upd_ne np0, upd_same]), T.cl, T.nTh, by omega, ?_⟩
      refine ⟨_, rfl, p, CM, dx, _, rfl, upd_same, T.cl, T.nAg, by omega, ?_⟩
      have nkp : ∀ k ∈ ks, k ≠ p := fun k hk z => by
        have := (a1 k hk).2
        rw [z, p1] at this
        cases this
      refine q _ (fun b o e hb => ?_) ⟨dx, D, lt, ks, .inl rfl, .inr (g2 _ hD), .inr (g2 _ (s1.free hq1)), fun x hx => .inr (g2 _ (a1 x hx).1), ?_, ?_, ?_, ⟨?_, ?_⟩, nDq, nD, ?_, nd⟩
      · have e1 := s1 _ _ (f2 b o e hb)
        rw [upd_ne hb, upd_ne hb, upd_ne (ne_of_none e1 hq1), upd_ne (ne_of_none e1 h0), upd_ne hb]
        exact e1
      · rw [upd_same]
        exact congrArg (fun z => some (HO.ins CM dx z)) mF_new
      · rw [upd_ne nDp, upd_ne nDp, upd_ne nDq, upd_ne nD0, upd_ne nDp]
        exact d1
      · rw [upd_ne npq.symm, upd_ne npq.symm, upd_same, Int.toNat_natCast]
        exact congrArg (fun z => some (HO.lst z)) (rep_flat n)
      · rw [l1]
        simp [Ge14.fresh]
      · intro i k l e1 e2
        have hk := List.mem_of_getElem? e1
        have hv := (a1 k hk).2
        have el : l = [] := by
          have z : (List.replicate n ([] : List Nat))[i]? = some l := e2
          rw [List.getElem?_replicate] at z
          split at z
          · cases z
            rfl
          · cases z
        subst el
        rw [upd_ne (nkp k hk), upd_ne (nkp k hk), upd_ne (ne_of_none hv hq1), upd_ne (ne_of_none hv h0), upd_ne (nkp k hk)]
        exact hv
      · intro z
        rw [(a1 lt z).2] at hq1
        cases hq1
end
end Bn

namespace Bn
open PySem PySem.Spec PyProof.Rows L2
section
variable {P : Program} {w : World} {K : PySem.W.Frag} {mg : Str → Option Value} {base : Heap} {CW CL CM : Addr}
theorem WorldIn.strict {O : Addr → Prop} {H : Hp} {a : Addr} {w : Ge14.World} (h : WorldIn CW O H a w) : WorldIn CW (fun z => O z ∧ H z ≠ none) H a w := by
  obtain ⟨dx, lp, lq, tc, ts, o1, o2, o3, n1, h1, h2, h3, h4⟩ := h
  exact ⟨dx, lp, lq, tc, ts, ⟨o1, by rw [h1]; simp⟩, ⟨o2, by rw [h2]; simp⟩, ⟨o3, by rw [h3]; simp⟩, n1, h1, h2, h3, h4⟩
theorem MachIn.strict {O : Addr → Prop} {H : Hp} {a : Addr} {num seed : Nat} {m : Ge14.Machine} (h : MachIn CM O H a num seed m) : MachIn CM (fun z => O z ∧ H z ≠ none) H a num seed m := by
  obtain ⟨dx, lk, lt, ks, h⟩ := h
  refine ⟨dx, lk, lt, ks, ⟨h.oa, by rw [h.ha]; simp⟩, ⟨h.ok, by rw [h.hk]; simp⟩, ⟨h.ot, by rw [h.ht]; simp⟩, fun x hx => ⟨h.os x hx, ?_⟩, h.ha, h.hk, h.ht, h.hs, h.kt, h.kn, h.tn, h.nd⟩
  obtain ⟨i, hi, e⟩ := List.mem_iff_getElem.mp hx
  have hm : i < m.keys.length := by rw [← h.hs.1]; exact hi
  rw [h.hs.2 i x _ (by rw [List.getElem?_eq_getElem hi, e]) (List.getElem?_eq_getElem hm)]
  simp
theorem LetterIn.strict {O : Addr → Prop} {H : Hp} {a : Addr} {l : Ge14.Letter} (h : LetterIn CL O H a l) : LetterIn CL (fun z => O z ∧ H z ≠ none) H a l := by
  obtain ⟨dx, lp, o1, o2, h1, h2⟩ := h
  exact ⟨dx, lp, ⟨o1, by rw [h1]; simp⟩, ⟨o2, by rw [h2]; simp⟩, h1, h2⟩
theorem getD_mem_le {l : List Nat} {i b : Nat} (h : ∀ k ∈ l, k ≤ b) : (l[i]?).getD 0 ≤ b := by
  cases e : l[i]? with
  | none => exact Nat.zero_le _
  | some k => exact h k (List.mem_of_getElem? e)
theorem taken_le {m : Ge14.Machine} {p t : Nat} (h : ∀ l ∈ m.keys, ∀ k ∈ l, k ≤ 4) : Ge14.taken m p t ≤ 4 := by
  have hk : ∀ k ∈ Ge14.keysOf m p, k ≤ 4 := by
    unfold Ge14.keysOf
    rw [List.getD_eq_getElem?_getD]
    cases e : m.keys[p]? with
    | none => intro k hk; cases hk
    | some l => exact h l (List.mem_of_getElem? e)
  unfold Ge14.taken
  cases e : (Ge14.keysOf m p)[t]? with
  | some k => exact hk k (List.mem_of_getElem? e)
  | none =>
    show (Ge14.keysOf m p).getLastD 0 ≤ 4
    rw [List.getLastD_eq_getLast?]
    cases e2 : (Ge14.keysOf m p).getLast? with
    | none => exact Nat.zero_le _
    | some k => exact hk k (List.mem_of_getLast? e2)
theorem wAt_more {n seed : Nat} {m : Ge14.Machine} {t : Nat} : wAt n seed m (t + 1) = Ge14.tick (wAt n seed m t) ((List.range n).map fun p => Ge14.taken m p t) := by
  unfold wAt
  rw [List.range_succ, List.foldl_append]
  rfl
theorem wAt_ok {n seed : Nat} {m : Ge14.Machine} (hn : n ≤ 4) : ∀ t, WOk (wAt n seed m t) ∧ (wAt n seed m t).players.length = n
  | 0 => ⟨start_ok hn, by show (Ge14.start n seed).players.length = n; simp [Ge14.start]⟩
  | t + 1 => by
    obtain ⟨h1, h2⟩ := wAt_ok hn t
    rw [wAt_more]
    exact ⟨(tick_ok h1).1, (tick_ok h1).2.trans h2⟩
theorem scMWorld : FnScope ["self", "ticks", "players", "world", "tick", "player"] ["self", "ticks"] (defScope sMWorld) := ⟨rfl, rfl, rfl, by decide +kernel, rfl, by decide +kernel, by decide +kernel⟩
theorem ok_mWorld {f : Addr} {fd : FuncData} (F : Fun K "world_behind" "Machine.world_behind" sMWorld f fd) (T : TxtM K mg CL CM) (TW : TxtW K mg CW) (GW : MakeOk P w K mg base "World" CW 1 ["self", "players", "seed"] (spWInit CW)) (GT : MethOk P w K mg base CW "tick" 4 ["self", "pressed"] (spTick CW))
    (GK : MethOk P w K mg base CM "taken" 1 ["self", "player", "tick"] (spMTaken CM)) : FnOk P w K mg base CX0 5 f fd ["self", "ticks"] (spMWorld CM CW) := by
  obtain ⟨fW, fdW, mW, MW, GW, bW⟩ := GW
  obtain ⟨fT, fdT, mT, GT, bT⟩ := GT
  obtain ⟨fK, fdK, mK, GK, bK⟩ := GK
  refine F.ok scMWorld (fun vs H Q E h => ?_) (fun cdv A outer s H vs Q E hr h => ?_)
  · obtain ⟨O, a, num, seed, m, t, rfl, _⟩ := h
    rfl
  · obtain ⟨O, a, num, seed, m, t, rfl, hm, hn4, ht, hk4, q⟩ := h
    obtain ⟨dx, lk, lt, ks, h⟩ := id hm
    have hr2 : Room 2 _ := hr.mono (by decide)
    have hr1 : Room 1 _ := hr.mono (by decide)
    refine ⟨_, pss_cons (ps_set (i := 2) scMWorld.nd rfl (.inl rfl) (pe_callB call_len_seq (by rfl) T.len PySem.boot_len (pa_cons (pe_fld (pv 0) rfl) pa_nil)))
      (pss_cons (ps_set (i := 3) scMWorld.nd rfl (.inl rfl) (pe_make MW GW hr2 rfl mW bW .nil pass0 (pa_cons (pv 2) (pa_cons (pe_fld (pv 0) rfl) pa_nil))))
      (pss_cons (ps_for PassesOwn.never rfl (pi_range1 rfl T.range (pa_cons (pv 1) pa_nil)) (pg_name (i := 4) scMWorld.nd rfl (.inr rfl))
        (pss_one (ps_expr (pe_meth (pv 3) TW.cl mT GT hr bT .nil pass0 (pa_cons (pe_lc (own := [("player", 5)]) (g := gName 5) (tt := tYes) (te := tMeth CM "taken" (spMTaken CM) [] E0 (tVar 0) (tCons (tVar 5) (tCons (tVar 4) tNil))) rfl scMWorld.nd (pi_range1 rfl T.range (pa_cons (pv 2) pa_nil)) (blkOk_by (own := [("player", 5)]) (N := ["self", "ticks", "players", "world", "tick", "player"]) (sc := defScope sMWorld) (by decide +kernel))
          (fun _ _ _ _ _ => pg_name (i := 5) scMWorld.nd rfl (Or.inl rfl)) (fun _ _ _ _ _ => pts_nil) (fun _ _ _ _ _ => pe_meth (pv 0) T.cl mK GK hr1 bK .nil pass0 (pa_cons (pv 5) (pa_cons (pv 4) pa_nil)))) pa_nil)))))
      (pss_one (ps_ret (pv 3))))), ?_⟩
    refine ⟨_, rfl, a, CM, dx, _, _, rfl, h.ha, T.cl, T.nKn, mF_known, lk, _, rfl, .inl (SqL.of h.hk), ?_⟩
    rw [List.length_map, h.hs.1]
    refine ⟨_, rfl, _, rfl, a, CM, dx, _, _, rfl, h.ha, T.cl, T.nSe, mF_seed, ?_⟩
    intro x dw nx nd nex
    refine ⟨x, dw, m.keys.length, seed, rfl, hn4, upd_same, fun H1 k1 w1 => ⟨rfl, ?_⟩⟩
    have s1 : Same H H1 := Same.made nx nd k1
    have w1' : WorldIn CW (fun z => H z = none) H1 x (Ge14.start m.keys.length seed) := w1.mono fun z hz => by
      rcases hz with rfl | hz
      · exact nx
      · by_cases zx : z = x
        · rw [zx]
          exact nx
        · by_cases zd : z = dw
          · rw [zd]
            exact nd
          · rw [upd_ne zx, upd_ne zd] at hz
            exact hz
    refine ⟨_, rfl, (t : Int), rfl, by omega, by omega, ?_⟩
    refine for_range (lo := 0) (n := ((t : Int)).toNat) (fun i σ H2 => ∃ v, σ = [some (.ref a), some (nV t), some (nV m.keys.length), some (.ref x), v, none] ∧ Same H H2 ∧ WorldIn CW (fun z => H z = none) H2 x (wAt m.keys.length seed m i)) ?_ ?_ ?_
    · exact ⟨none, rfl, s1, w1'⟩
    · rintro i σ H2 hi ⟨v, rfl, s2, w2⟩
      have z0 : (0 : Int) + (i : Int) = (i : Int) := Int.zero_add _
      rw [z0]
      obtain ⟨dw2, lp, lq, tc, ts, o1, o2, o3, n1, hx2, _⟩ := id w2
      refine ⟨_, rfl, x, dw2, _, rfl, hx2, wF_no (by decide +kernel) (by decide +kernel) (by decide +kernel) (by decide +kernel), ?_⟩
      refine ⟨_, rfl, (m.keys.length : Int), rfl, by omega, by omega, fun D hD => ?_⟩
      refine lc_range (lo := 0) (n := ((m.keys.length : Int)).toNat) (fun j H3 => Same H2 H3 ∧ H3 D = some (.lst (((List.range j).map fun p => Ge14.taken m p i).map nV))) ?_ ?_ ?_
      · exact ⟨same_new hD, upd_same⟩
      · rintro j H3 hj ⟨s3, d3⟩
        rw [Int.toNat_natCast] at hj
        have z1 : (0 : Int) + (j : Int) = (j : Int) := Int.zero_add _
        rw [z1]
        have hm3 := (hm.same s2).same s3
        obtain ⟨dx3, lk3, lt3, ks3, h3⟩ := id hm3
        refine ⟨rfl, yes_of ?_⟩
        refine ⟨_, rfl, a, dx3, _, rfl, h3.ha, mF_no (by decide +kernel) (by decide +kernel) (by decide +kernel) (by decide +kernel) (by decide +kernel), _, rfl, _, rfl, O, a, num, seed, m, j, i, rfl, hm3, hj, ?_⟩
        refine ⟨_, d3, ?_, Same.own s3 hD, ?_⟩
        · rw [List.length_map, List.length_map, List.length_range]
          exact small1000 (by omega)
        · rw [upd_same, List.range_succ, List.map_append, List.map_append]
          rfl
      · rintro H3 ⟨s3, d3⟩
        rw [Int.toNat_natCast] at d3
        have w3 := (w2.strict).same s3
        refine ⟨_, x, D, wAt m.keys.length seed m i, (List.range m.keys.length).map fun p => Ge14.taken m p i, rfl, w3, (wAt_ok hn4 i).1, d3, fun z => z.2 hD, ?_, ?_, fun H4 k4 w4 => ?_⟩
        · rw [List.length_map, List.length_range, (wAt_ok hn4 i).2]
        · intro k hk
          obtain ⟨p, _, rfl⟩ := List.mem_map.mp hk
          exact taken_le hk4
        · refine ⟨_, rfl, fun b o e => k4 b o (s3 _ _ (s2 _ _ e)) fun z => ?_, ?_⟩
          · have z1 := z.1
            rw [e] at z1
            cases z1
          · rw [wAt_more]
            refine w4.mono fun z hz => ?_
            rcases hz with hz | hz
            · exact hz.1
            · exact (s2.trans s3).free hz
    · rintro σ H2 ⟨v, rfl, s2, w2⟩
      rw [Int.toNat_natCast] at w2
      exact ⟨_, rfl, q _ x s2 w2 (wAt_ok hn4 t).1⟩
theorem scMWhen : FnScope ["self", "player", "tick"] ["self", "player"] (defScope sMWhen) := ⟨rfl, rfl, rfl, by decide +kernel, rfl, by decide +kernel, by decide +kernel⟩
theorem ok_mWhen {f : Addr} {fd : FuncData} (F : Fun K "taken_when_shown" "Machine.taken_when_shown" sMWhen f fd) (T : TxtM K mg CL CM) (GS : MethOk P w K mg base CM "shown" 1 ["self"] (spMShown CM)) (GK : MethOk P w K mg base CM "taken" 1 ["self", "player", "tick"] (spMTaken CM)) :
    FnOk P w K mg base CX0 2 f fd ["self", "player"] (spMWhen CM) := by
  obtain ⟨fS, fdS, mS, GS, bS⟩ := GS
  obtain ⟨fK, fdK, mK, GK, bK⟩ := GK
  refine F.ok scMWhen (fun vs H Q E h => ?_) (fun cdv A outer s H vs Q E hr h => ?_)
  · obtain ⟨O, a, num, seed, m, p, rfl, _⟩ := h
    rfl
  · obtain ⟨O, a, num, seed, m, p, rfl, hm, hn, hp, h100, q⟩ := h
    obtain ⟨dx, lk, lt, ks, h⟩ := id hm
    refine ⟨_, pss_one (ps_ret (pe_lc (own := [("tick", 2)]) (g := gName 2) (tt := tYes) (te := tMeth CM "taken" (spMTaken CM) [] E0 (tVar 0) (tCons (tVar 1) (tCons (tVar 2) tNil))) rfl scMWhen.nd (pi_range1 rfl T.range (pa_cons (pe_meth0 (pv 0) T.cl mS GS hr bS .nil pass0) pa_nil)) (blkOk_by (own := [("tick", 2)]) (N := ["self", "player", "tick"]) (sc := defScope sMWhen) (by decide +kernel))
          (fun _ _ _ _ _ => pg_name (i := 2) scMWhen.nd rfl (Or.inl rfl)) (fun _ _ _ _ _ => pts_nil) (fun _ _ _ _ _ => pe_meth (pv 0) T.cl mK GK hr bK .nil pass0 (pa_cons (pv 1) (pa_cons (pv 2) pa_nil))))), ?_⟩
    refine ⟨_, rfl, a, dx, _, rfl, h.ha, mF_no (by decide +kernel) (by decide +kernel) (by decide +kernel) (by decide +kernel) (by decide +kernel), O, a, num, seed, m, rfl, hm, hn, ((Ge14.keysOf m num).length : Int), rfl, by omega, by omega, fun D hD => ?_⟩
    refine lc_range (lo := 0) (n := (((Ge14.keysOf m num).length : Int)).toNat) (fun j H3 => Same H H3 ∧ H3 D = some (.lst (((List.range j).map (Ge14.taken m p)).map nV))) ?_ ?_ ?_
    · exact ⟨same_new hD, upd_same⟩
    · rintro j H3 hj ⟨s3, d3⟩
      rw [Int.toNat_natCast] at hj
      have z1 : (0 : Int) + (j : Int) = (j : Int) := Int.zero_add _
      rw [z1]
      have hm3 := hm.same s3
      obtain ⟨dx3, lk3, lt3, ks3, h3⟩ := id hm3
      refine ⟨rfl, yes_of ?_⟩
      refine ⟨_, rfl, a, dx3, _, rfl, h3.ha, mF_no (by decide +kernel) (by decide +kernel) (by decide +kernel) (by decide +kernel) (by decide +kernel), _, rfl, _, rfl, O, a, num, seed, m, p, j, rfl, hm3, hp, ?_⟩
      refine ⟨_, d3, ?_, Same.own s3 hD, ?_⟩
      · rw [List.length_map, List.length_map, List.length_range]
        exact small1000 (by omega)
      · rw [upd_same, List.range_succ, List.map_append, List.map_append]
        rfl
    · rintro H3 ⟨s3, d3⟩
      rw [Int.toNat_natCast] at d3
      exact q _ D hD s3 d3
end
end Bn

namespace Bn
open PySem PySem.Spec PyProof.Rows L2
theorem cut_from (xs : List V) (k : Nat) : cutV xs (some (k : Int)) none = xs.drop k := by
  unfold cutV
  rw [HT.sIx_nat, HT.sIx_none]
  by_cases h : k ≤ xs.length
  · rw [Nat.min_eq_left h]
    apply List.take_of_length_le
    rw [List.length_drop]
    exact Nat.le_refl _
  · rw [Nat.min_eq_right (by omega), List.drop_length, List.drop_eq_nil_of_le (by omega)]
    simp
theorem cut_from_to (xs : List V) (k j : Nat) (h : j ≤ xs.length) : cutV xs (some (k : Int)) (some (j : Int)) = (xs.drop k).take (j - k) := by
  unfold cutV
  rw [HT.sIx_nat, HT.sIx_nat, Nat.min_eq_left h]
  by_cases hk : k ≤ xs.length
  · rw [Nat.min_eq_left hk]
  · rw [Nat.min_eq_right (by omega), List.drop_length, List.drop_eq_nil_of_le (by omega)]
    simp
section
variable {P : Program} {w : World} {K : PySem.W.Frag} {mg : Str → Option Value} {base : Heap} {CW CL CM : Addr}
theorem scMLetter : FnScope ["self", "receiver", "first", "pressed"] ["self", "receiver"] (defScope sMLetter) := ⟨rfl, rfl, rfl, by decide +kernel, rfl, by decide +kernel, by decide +kernel⟩
theorem ok_mLetter {f : Addr} {fd : FuncData} (F : Fun K "letter_to" "Machine.letter_to" sMLetter f fd) (T : TxtM K mg CL CM) (GL : MakeOk P w K mg base "Letter" CL 1 ["self", "sender", "receiver", "first", "pressed", "told"] (spLInit CL)) :
    FnOk P w K mg base CX0 3 f fd ["self", "receiver"] (spMLetter CM CL) := by
  obtain ⟨fL, fdL, mL, ML, GL, bL⟩ := GL
  refine F.ok scMLetter (fun vs H Q E h => ?_) (fun cdv A outer s H vs Q E hr h => ?_)
  · obtain ⟨O, a, num, seed, m, j, rfl, _⟩ := h
    rfl
  · obtain ⟨O, a, num, seed, m, j, rfl, ⟨dx, lk, lt, ks, h⟩, hn, hj, hth, q⟩ := h
    obtain ⟨k, ek, hk, _⟩ := h.keys hn
    obtain ⟨kj, ekj, hkj, _⟩ := h.keys hj
    have etj : m.there[j]? = some (m.there.getD j 0) := by
      rw [List.getD_eq_getElem?_getD, List.getElem?_eq_getElem (by omega)]
      rfl
    refine ⟨_, pss_cons (ps_set (i := 2) scMLetter.nd rfl (.inl rfl) (pe_ix ix_list (pe_fld (pv 0) rfl) (pv 1) (fun _ _ => rfl)))
      (pss_cons (ps_set (i := 3) scMLetter.nd rfl (.inl rfl) (pe_slice sl_list (pe_ix ix_list (pe_fld (pv 0) rfl) (pe_fld (pv 0) rfl) (fun _ _ => rfl)) (po_some (pv 2)) po_none))
      (pss_one (ps_ret (pe_make ML GL hr rfl mL bL .nil pass0 (pa_cons (pe_fld (pv 0) rfl) (pa_cons (pv 1) (pa_cons (pv 2) (pa_cons (pv 3) (pa_cons (pe_callB call_len_seq (by rfl) T.len PySem.boot_len (pa_cons (pe_ix ix_list (pe_fld (pv 0) rfl) (pv 1) (fun _ _ => rfl)) pa_nil)) pa_nil))))))))), ?_⟩
    refine ⟨_, rfl, a, CM, dx, _, _, rfl, h.ha, T.cl, T.nTh, mF_there, _, rfl, lt, _, _, nV (m.there.getD j 0), rfl, rfl, SqL.of h.ht, atI_nat (by rw [List.getElem?_map, etj]; rfl), ?_⟩
    refine ⟨_, rfl, a, CM, dx, _, _, rfl, h.ha, T.cl, T.nKn, mF_known, _, rfl, a, CM, dx, _, _, rfl, h.ha, T.cl, T.nNu, mF_number, lk, _, _, .ref k, rfl, rfl, SqL.of h.hk, atI_nat (by rw [List.getElem?_map, ek]; rfl), _, rfl, _, rfl, k, _, rfl, SqL.of hk, fun lp hlp => ?_⟩
    rw [cut_from, ← List.map_drop]
    have s1 : Same H (upd H lp (.lst (((Ge14.keysOf m num).drop (m.there.getD j 0)).map nV))) := same_new hlp
    refine ⟨_, rfl, a, CM, dx, _, _, rfl, s1 _ _ h.ha, T.cl, T.nNu, mF_number, _, rfl, _, rfl, _, rfl, _, rfl, a, CM, dx, _, _, rfl, s1 _ _ h.ha, T.cl, T.nKn, mF_known, _, rfl, lk, _, _, .ref kj, rfl, rfl, SqL.of (s1 _ _ h.hk), atI_nat (by rw [List.getElem?_map, ekj]; rfl), kj, _, rfl, .inl (SqL.of (s1 _ _ hkj)), ?_⟩
    rw [List.length_map]
    intro x dl nx nd nex
    refine ⟨x, dl, lp, Ge14.letterFor m num j, rfl, upd_same, fun H1 k1 hx => ⟨rfl, ?_⟩⟩
    have s2 : Same _ H1 := Same.made nx nd k1
    refine q _ x (s1.trans s2) ⟨dl, lp, s1.free nx, hlp, hx, s2 _ _ upd_same⟩
theorem scMLearn : FnScope ["self", "letter", "pressed"] ["self", "letter"] (defScope sMLearn) := ⟨rfl, rfl, rfl, by decide +kernel, rfl, by decide +kernel, by decide +kernel⟩
theorem ok_mLearn {f : Addr} {fd : FuncData} (F : Fun K "learn" "Machine.learn" sMLearn f fd) (T : TxtM K mg CL CM) : FnOk P w K mg base CX0 1 f fd ["self", "letter"] (spMLearn CM CL) := by
  refine F.ok scMLearn (fun vs H Q E h => ?_) (fun cdv A outer s H vs Q E hr h => ?_)
  · obtain ⟨O, O2, a, la, num, seed, m, l, rfl, _⟩ := h
    rfl
  · obtain ⟨O, O2, a, la, num, seed, m, l, rfl, ⟨dx, lk, lt, ks, h⟩, ⟨dl, lp, p1, p2, hl, hlp⟩, dis, hf, hs1, hs2, q⟩ := h
    obtain ⟨k, ek, hk, ekk⟩ := h.keys hf
    refine ⟨_, pss_cons (ps_set (i := 2) scMLearn.nd rfl (.inl rfl) (pe_ix ix_list (pe_fld (pv 0) rfl) (pe_fld (pv 1) rfl) (fun _ _ => rfl)))
      (pss_one (ps_if (pt_cmpR op_ge (pe_callB call_len_seq (by rfl) T.len PySem.boot_len (pa_cons (pv 2) pa_nil)) (pe_fld (pv 1) rfl) (nomark _))
        (pss_one (ps_expr (pe_bm PySem.F.plainAttrs_list PySem.F.slot_list_extend PySem.F.type_list_extend mt_extend (pv 2) (pa_cons (pe_slice sl_list (pe_fld (pv 1) rfl) (po_some (pe_op op_sub (pe_callB call_len_seq (by rfl) T.len PySem.boot_len (pa_cons (pv 2) pa_nil)) (pe_fld (pv 1) rfl))) po_none) pa_nil)))) pss_nil)), ?_⟩
    refine ⟨_, rfl, a, CM, dx, _, _, rfl, h.ha, T.cl, T.nKn, mF_known, _, rfl, la, CL, dl, _, _, rfl, hl, T.clL, T.lSe, lF_sender, lk, _, _, .ref k, rfl, rfl, SqL.of h.hk, atI_nat (by rw [List.getElem?_map, ek]; rfl), ?_⟩
    refine ⟨_, rfl, k, _, rfl, .inl (SqL.of hk), _, rfl, la, CL, dl, _, _, rfl, hl, T.clL, T.lFi, lF_first, _, _, rfl, rfl, _, rfl, ?_⟩
    rw [List.length_map]
    refine ite2 (fun c => ?_) (fun c => ?_)
    · have c : (l.start : Int) ≤ ((Ge14.keysOf m l.from_).length : Int) := of_decide_eq_true c
      have c' : l.start ≤ (Ge14.keysOf m l.from_).length := by omega
      refine ⟨_, rfl, .inl ⟨rfl, _, SqL.of hk⟩, ?_⟩
      refine ⟨_, rfl, la, CL, dl, _, _, rfl, hl, T.clL, T.lPr, lF_pressed, _, rfl, k, _, rfl, .inl (SqL.of hk), _, rfl, la, CL, dl, _, _, rfl, hl, T.clL, T.lFi, lF_first, _, _, rfl, rfl, _, rfl, lp, _, rfl, SqL.of hlp, fun b hb => ?_⟩
      rw [List.length_map]
      have e1 : ((Ge14.keysOf m l.from_).length : Int) - (l.start : Int) = (((Ge14.keysOf m l.from_).length - l.start : Nat) : Int) := by omega
      rw [e1, cut_from, ← List.map_drop]
      have nkb : k ≠ b := ne_of_none hk hb
      refine ⟨k, b, _, _, rfl, rfl, (upd_ne nkb).trans hk, upd_same, ?_, ?_⟩
      · rw [List.length_map, List.length_map, List.length_drop]
        exact small_size (by omega)
      · rw [← List.map_append]
        have hm1 : MachAt CM O (upd H b (.lst ((l.keys.drop ((Ge14.keysOf m l.from_).length - l.start)).map nV))) a num seed m dx lk lt ks := by
          have s1 := same_new (o := .lst ((l.keys.drop ((Ge14.keysOf m l.from_).length - l.start)).map nV)) hb
          exact ⟨h.oa, h.ok, h.ot, h.os, s1 _ _ h.ha, s1 _ _ h.hk, s1 _ _ h.ht, ⟨h.hs.1, fun i k l e1 e2 => s1 _ _ (h.hs.2 i k l e1 e2)⟩, h.kt, h.kn, h.tn, h.nd⟩
        have r := hm1.setKeys (now := m.now) (l := Ge14.keysOf m l.from_ ++ l.keys.drop ((Ge14.keysOf m l.from_).length - l.start)) ek ((upd_ne nkb).trans hk)
        have e2 : learned m l = { m with keys := m.keys.set l.from_ (Ge14.keysOf m l.from_ ++ l.keys.drop ((Ge14.keysOf m l.from_).length - l.start)), now := m.now } := by
          unfold learned
          rw [if_pos c']
        rw [← e2] at r
        exact q _ (((Keeps.refl _ _).upd (.inr hb)).upd (.inl (h.os _ (List.mem_of_getElem? ek)))) ⟨dx, lk, lt, ks, r⟩
    · have c : ¬ (l.start : Int) ≤ ((Ge14.keysOf m l.from_).length : Int) := fun z => c (decide_eq_true z)
      have e2 : learned m l = m := by
        unfold learned
        rw [if_neg (by omega), List.append_nil]
        have e3 : m.keys.set l.from_ (Ge14.keysOf m l.from_) = m.keys := by
          apply List.ext_getElem?
          intro i
          rw [List.getElem?_set]
          split
          · rename_i ei
            subst ei
            rw [ekk]
          · rfl
        rw [e3]
      refine q _ (Keeps.refl _ _) ?_
      rw [e2]
      exact ⟨dx, lk, lt, ks, h⟩
end
end Bn

namespace Bn
structure MOk (n num : Nat) (m : Ge14.Machine) : Prop where
  kl : m.keys.length = n
  tl : m.there.length = n
  lt : num < n
  n4 : n ≤ 4
  now : m.now = (Ge14.keysOf m num).length
  k4 : ∀ l ∈ m.keys, ∀ k ∈ l, k ≤ 4
  k60 : ∀ l ∈ m.keys, l.length ≤ 60
  t60 : ∀ t ∈ m.there, t ≤ 60
structure LOk (n : Nat) (l : Ge14.Letter) : Prop where
  f : l.from_ < n
  t : l.to < n
  ne : l.from_ ≠ l.to
  k4 : ∀ k ∈ l.keys, k ≤ 4
  s60 : l.start + l.keys.length ≤ 60
  h60 : l.have_ ≤ 60
theorem keysOf_set_ne {m : Ge14.Machine} {p q : Nat} {x : List Nat} {t : List Nat} {now ag : Nat} (h : q ≠ p) : Ge14.keysOf { keys := m.keys.set p x, now := now, there := t, again := ag } q = Ge14.keysOf m q := by
  unfold Ge14.keysOf
  show (m.keys.set p x).getD q [] = _
  rw [List.getD_eq_getElem?_getD, List.getElem?_set_ne (Ne.symm h), ← List.getD_eq_getElem?_getD]
theorem keysOf_set_self {m : Ge14.Machine} {p : Nat} {x : List Nat} {t : List Nat} {now ag : Nat} (h : p < m.keys.length) : Ge14.keysOf { keys := m.keys.set p x, now := now, there := t, again := ag } p = x := by
  unfold Ge14.keysOf
  show (m.keys.set p x).getD p [] = _
  rw [List.getD_eq_getElem?_getD, List.getElem?_set_self h]
  rfl
theorem keysOf_mem {m : Ge14.Machine} {p : Nat} (h : p < m.keys.length) : Ge14.keysOf m p ∈ m.keys := by
  unfold Ge14.keysOf
  rw [List.getD_eq_getElem?_getD, List.getElem?_eq_getElem h]
  exact List.getElem_mem h
theorem find_congr {p q : Nat → Bool} : ∀ (l : List Nat), (∀ x ∈ l, p x = q x) → l.find? p = l.find? q
  | [], _ => rfl
  | x :: l, h => by
    rw [List.find?_cons, List.find?_cons, h x List.mem_cons_self, find_congr l fun y hy => h y (List.mem_cons_of_mem _ hy)]
theorem taken_ne {m : Ge14.Machine} {p q i : Nat} {x : List Nat} {t : List Nat} {now ag : Nat} (h : q ≠ p) : Ge14.taken { keys := m.keys.set p x, now := now, there := t, again := ag } q i = Ge14.taken m q i := by
  unfold Ge14.taken
  rw [keysOf_set_ne h]
/-- how many are played again -/
theorem again_eq {g : Ge14.House} {num : Nat} {m : Ge14.Machine} {l : Ge14.Letter} (h : MOk g.n num m) (hl : LOk g.n l) (hne : l.from_ ≠ num) :
    (m.again : Int) + ((m.now : Int) - (fdiff ((List.range m.now).map (Ge14.taken m l.from_)) ((List.range m.now).map (Ge14.taken (learned m l) l.from_)) : Int)) = ((Ge14.comes g m l).again : Int) := by
  have e1 : ∀ t, ((List.range g.n).any fun p => Ge14.taken m p t != Ge14.taken { m with keys := m.keys.set l.from_ (Ge14.keysOf m l.from_ ++ if l.start ≤ (Ge14.keysOf m l.from_).length then l.keys.drop ((Ge14.keysOf m l.from_).length - l.start) else []), there := m.there.set l.from_ (max (m.there.getD l.from_ 0) l.have_) } p t) = (Ge14.taken m l.from_ t != Ge14.taken (learned m l) l.from_ t) := by
    intro t
    cases c : (Ge14.taken m l.from_ t != Ge14.taken (learned m l) l.from_ t) with
    | true =>
      rw [List.any_eq_true]
      exact ⟨l.from_, List.mem_range.mpr hl.f, c⟩
    | false =>
      rw [List.any_eq_false]
      intro p _
      by_cases hp : p = l.from_
      · subst hp
        have c' : (Ge14.taken m l.from_ t != Ge14.taken { m with keys := m.keys.set l.from_ (Ge14.keysOf m l.from_ ++ if l.start ≤ (Ge14.keysOf m l.from_).length then l.keys.drop ((Ge14.keysOf m l.from_).length - l.start) else []), there := m.there.set l.from_ (max (m.there.getD l.from_ 0) l.have_) } l.from_ t) = false := c
        rw [c']
        simp
      · rw [taken_ne hp]
        simp
  have e2 : Ge14.firstOther g m { m with keys := m.keys.set l.from_ (Ge14.keysOf m l.from_ ++ if l.start ≤ (Ge14.keysOf m l.from_).length then l.keys.drop ((Ge14.keysOf m l.from_).length - l.start) else []), there := m.there.set l.from_ (max (m.there.getD l.from_ 0) l.have_) } = (List.range m.now).find? fun t => Ge14.taken m l.from_ t != Ge14.taken (learned m l) l.from_ t := by
    unfold Ge14.firstOther
    exact find_congr _ fun t _ => e1 t
  have e3 : fdiff ((List.range m.now).map (Ge14.taken m l.from_)) ((List.range m.now).map (Ge14.taken (learned m l) l.from_)) = ((List.range m.now).find? fun t => Ge14.taken m l.from_ t != Ge14.taken (learned m l) l.from_ t).getD m.now := by
    unfold fdiff
    rw [List.length_map, List.length_range]
    congr 1
    refine find_congr _ fun t ht => ?_
    have ht := List.mem_range.mp ht
    rw [List.getD_eq_getElem?_getD, List.getD_eq_getElem?_getD, List.getElem?_map, List.getElem?_map, List.getElem?_range ht]
    rfl
  have e4 : (Ge14.comes g m l).again = m.again + match (List.range m.now).find? fun t => Ge14.taken m l.from_ t != Ge14.taken (learned m l) l.from_ t with
    | none => 0
    | some t => m.now - t := by
    rw [← e2]
    rfl
  rw [e4, e3]
  cases c : (List.range m.now).find? fun t => Ge14.taken m l.from_ t != Ge14.taken (learned m l) l.from_ t with
  | none =>
    simp only [Option.getD_none]
    omega
  | some t =>
    have ht := List.mem_range.mp (List.mem_of_find?_eq_some c)
    simp only [Option.getD_some]
    omega
theorem learned_len {m : Ge14.Machine} {l : Ge14.Letter} : (learned m l).keys.length = m.keys.length := by
  unfold learned
  exact List.length_set
theorem new_len {m : Ge14.Machine} {l : Ge14.Letter} {n num : Nat} (h : MOk n num m) (hl : LOk n l) : (Ge14.keysOf m l.from_ ++ if l.start ≤ (Ge14.keysOf m l.from_).length then l.keys.drop ((Ge14.keysOf m l.from_).length - l.start) else []).length ≤ 60 := by
  have h1 := h.k60 _ (keysOf_mem (p := l.from_) (by rw [h.kl]; exact hl.f))
  have h2 := hl.s60
  rw [List.length_append]
  split
  · rw [List.length_drop]
    omega
  · simp
    omega
theorem comes_ok {g : Ge14.House} {num : Nat} {m : Ge14.Machine} {l : Ge14.Letter} (h : MOk g.n num m) (hl : LOk g.n l) (hne : l.from_ ≠ num) : MOk g.n num (Ge14.comes g m l) := by
  have hf : l.from_ < m.keys.length := by rw [h.kl]; exact hl.f
  refine ⟨?_, ?_, h.lt, h.n4, ?_, ?_, ?_, ?_⟩
  · show (m.keys.set _ _).length = _
    rw [List.length_set]
    exact h.kl
  · show (m.there.set _ _).length = _
    rw [List.length_set]
    exact h.tl
  · show m.now = _
    rw [h.now]
    exact congrArg List.length (keysOf_set_ne (Ne.symm hne)).symm
  · intro x hx k hk
    have hx : x ∈ m.keys.set l.from_ (Ge14.keysOf m l.from_ ++ if l.start ≤ (Ge14.keysOf m l.from_).length then l.keys.drop ((Ge14.keysOf m l.from_).length - l.start) else []) := hx
    rcases List.mem_or_eq_of_mem_set hx with hx | rfl
    · exact h.k4 x hx k hk
    · rcases List.mem_append.mp hk with hk | hk
      · exact h.k4 _ (keysOf_mem hf) k hk
      · split at hk
        · exact hl.k4 k (List.mem_of_mem_drop hk)
        · cases hk
  · intro x hx
    have hx : x ∈ m.keys.set l.from_ (Ge14.keysOf m l.from_ ++ if l.start ≤ (Ge14.keysOf m l.from_).length then l.keys.drop ((Ge14.keysOf m l.from_).length - l.start) else []) := hx
    rcases List.mem_or_eq_of_mem_set hx with hx | rfl
    · exact h.k60 x hx
    · exact new_len h hl
  · intro t ht
    have ht : t ∈ m.there.set l.from_ (max (m.there.getD l.from_ 0) l.have_) := ht
    rcases List.mem_or_eq_of_mem_set ht with ht | rfl
    · exact h.t60 t ht
    · have h1 := hl.h60
      have h2 : m.there.getD l.from_ 0 ≤ 60 := by
        rw [List.getD_eq_getElem?_getD]
        exact getD_mem_le h.t60
      omega
theorem letter_ok {n num j : Nat} {m : Ge14.Machine} (h : MOk n num m) (hj : j < n) (hne : num ≠ j) : LOk n (Ge14.letterFor m num j) := by
  have hn : num < m.keys.length := by rw [h.kl]; exact h.lt
  have h1 := h.k60 _ (keysOf_mem hn)
  have h2 := h.k60 _ (keysOf_mem (m := m) (p := j) (by rw [h.kl]; exact hj))
  have h3 : m.there.getD j 0 ≤ 60 := by
    rw [List.getD_eq_getElem?_getD]
    exact getD_mem_le h.t60
  refine ⟨h.lt, hj, hne, fun k hk => h.k4 _ (keysOf_mem hn) k (List.mem_of_mem_drop hk), ?_, h2⟩
  show m.there.getD j 0 + ((Ge14.keysOf m num).drop (m.there.getD j 0)).length ≤ 60
  rw [List.length_drop]
  omega
theorem press_ok {n num k : Nat} {m : Ge14.Machine} (h : MOk n num m) (hk : k ≤ 4) (h60 : m.now < 60) : MOk n num { m with keys := m.keys.set num (Ge14.keysOf m num ++ [k]), now := m.now + 1 } := by
  have hn : num < m.keys.length := by rw [h.kl]; exact h.lt
  refine ⟨?_, h.tl, h.lt, h.n4, ?_, ?_, ?_, h.t60⟩
  · show (m.keys.set _ _).length = _
    rw [List.length_set]
    exact h.kl
  · rw [keysOf_set_self hn, List.length_append]
    show m.now + 1 = _ + 1
    rw [h.now]
  · intro x hx z hz
    rcases List.mem_or_eq_of_mem_set hx with hx | rfl
    · exact h.k4 x hx z hz
    · rcases List.mem_append.mp hz with hz | hz
      · exact h.k4 _ (keysOf_mem hn) z hz
      · rw [List.mem_singleton] at hz
        omega
  · intro x hx
    rcases List.mem_or_eq_of_mem_set hx with hx | rfl
    · exact h.k60 x hx
    · rw [List.length_append, ← h.now]
      show m.now + 1 ≤ 60
      omega
theorem fresh_ok {n num : Nat} (hn : n ≤ 4) (h : num < n) : MOk n num (Ge14.fresh n) := by
  have e : Ge14.keysOf (Ge14.fresh n) num = [] := by
    unfold Ge14.keysOf Ge14.fresh
    rw [List.getD_eq_getElem?_getD, List.getElem?_replicate]
    split <;> rfl
  refine ⟨by simp [Ge14.fresh], by simp [Ge14.fresh], h, hn, by rw [e]; rfl, ?_, ?_, ?_⟩
  · intro l hl k hk
    have := (List.mem_replicate.mp hl).2
    subst this
    cases hk
  · intro l hl
    have := (List.mem_replicate.mp hl).2
    subst this
    exact Nat.zero_le _
  · intro t ht
    have := (List.mem_replicate.mp ht).2
    omega
end Bn

namespace Bn
open PySem PySem.Spec PyProof.Rows L2
def spMReceive (CM CL : Addr) : Sp := fun vs H Q _ => ∃ (O O2 : Addr → Prop) (a la : Addr) (num seed : Nat) (m : Ge14.Machine) (l : Ge14.Letter) (g : Ge14.House), vs = [.ref a, .ref la] ∧ MachIn CM O H a num seed m ∧ LetterIn CL O2 H la l ∧ (∀ x, O2 x → ¬ O x) ∧ MOk g.n num m ∧ LOk g.n l ∧ l.from_ ≠ num ∧
  ∀ H' : Hp, Keeps O H H' → MachIn CM O H' a num seed (Ge14.comes g m l) → Q .non H'
section
variable {P : Program} {w : World} {K : PySem.W.Frag} {mg : Str → Option Value} {base : Heap} {CW CL CM : Addr}
theorem scMReceive : FnScope ["self", "letter", "sender", "before", "after"] ["self", "letter"] (defScope sMReceive) := ⟨rfl, rfl, rfl, by decide +kernel, rfl, by decide +kernel, by decide +kernel⟩
theorem ok_mReceive {f : Addr} {fd : FuncData} (F : Fun K "receive" "Machine.receive" sMReceive f fd) (T : TxtM K mg CL CM) (GW : MethOk P w K mg base CM "taken_when_shown" 2 ["self", "player"] (spMWhen CM)) (GN : MethOk P w K mg base CM "learn" 1 ["self", "letter"] (spMLearn CM CL))
    (GS : MethOk P w K mg base CM "shown" 1 ["self"] (spMShown CM)) (GD : DefOk P w K mg base "first_difference" 1 ["before", "after"] spFirstDiff) : FnOk P w K mg base CX0 3 f fd ["self", "letter"] (spMReceive CM CL) := by
  obtain ⟨fW, fdW, mW, GW, bW⟩ := GW
  obtain ⟨fN, fdN, mN, GN, bN⟩ := GN
  obtain ⟨fS, fdS, mS, GS, bS⟩ := GS
  obtain ⟨fD, fdD, mD, kD, GD, bD⟩ := GD
  refine F.ok scMReceive (fun vs H Q E h => ?_) (fun cdv A outer s H vs Q E hr h => ?_)
  · obtain ⟨O, O2, a, la, num, seed, m, l, g, rfl, _⟩ := h
    rfl
  · obtain ⟨O, O2, a, la, num, seed, m, l, g, rfl, hm, hl, dis, mok, lok, hne, q⟩ := h
    have hr1 : Room 1 _ := hr.mono (by decide)
    obtain ⟨dl, lp, p1, p2, hla, hlp⟩ := id hl
    have hn : num < m.keys.length := by rw [mok.kl]; exact mok.lt
    have hf : l.from_ < m.keys.length := by rw [mok.kl]; exact lok.f
    have hnow := mok.now
    have h60 := mok.k60 _ (keysOf_mem hn)
    have h60f := mok.k60 _ (keysOf_mem hf)
    have hs60 := lok.s60
    refine ⟨_, pss_cons (ps_set (i := 2) scMReceive.nd rfl (.inl rfl) (pe_fld (pv 1) rfl))
      (pss_cons (ps_set (i := 3) scMReceive.nd rfl (.inl rfl) (pe_meth (pv 0) T.cl mW GW hr bW .nil pass0 (pa_cons (pv 2) pa_nil)))
      (pss_cons (ps_expr (pe_meth (pv 0) T.cl mN GN hr1 bN .nil pass0 (pa_cons (pv 1) pa_nil)))
      (pss_cons (ps_set (i := 4) scMReceive.nd rfl (.inl rfl) (pe_meth (pv 0) T.cl mW GW hr bW .nil pass0 (pa_cons (pv 2) pa_nil)))
      (pss_cons (ps_fldaug (pv 0) (pe_op op_sub (pe_meth0 (pv 0) T.cl mS GS hr1 bS .nil pass0) (pe_call GD hr1 rfl mD kD bD .nil pass0 (pa_cons (pv 3) (pa_cons (pv 4) pa_nil)))) in_add)
      (pss_one (ps_asg (pe_callB (call_max2 rfl) (by rfl) T.max (by decide +kernel) (pa_cons (pe_ix ix_list (pe_fld (pv 0) rfl) (pv 2) (fun _ _ => rfl)) (pa_cons (pe_fld (pv 1) rfl) pa_nil))) (pg_sub (pe_fld (pv 0) rfl) (pv 2) set_list))))))), ?_⟩
    refine ⟨_, rfl, la, CL, dl, _, _, rfl, hla, T.clL, T.lSe, lF_sender, ?_⟩
    -- before
    obtain ⟨dx, lk, lt, ks, h⟩ := id hm
    refine ⟨_, rfl, a, dx, _, rfl, h.ha, mF_no (by decide +kernel) (by decide +kernel) (by decide +kernel) (by decide +kernel) (by decide +kernel), _, rfl, O, a, num, seed, m, l.from_, rfl, hm, hn, hf, by omega, fun H1 lb nb s1 hb => ?_⟩
    -- learn
    have hm1 := (hm.strict).same s1
    obtain ⟨dx1, lk1, lt1, ks1, h1⟩ := id hm1
    refine ⟨_, rfl, a, dx1, _, rfl, h1.ha, mF_no (by decide +kernel) (by decide +kernel) (by decide +kernel) (by decide +kernel) (by decide +kernel), _, rfl, _, O2, a, la, num, seed, m, l, rfl, hm1, hl.same s1, fun x hx z => dis x hx z.1, hf, by omega, by omega, fun H2 k2 hm2 => ?_⟩
    have hb2 : H2 lb = _ := k2 _ _ hb fun z => z.2 nb
    have hl2 : LetterIn CL O2 H2 la l := (hl.same s1).keeps k2 fun x hx z => dis x hx z.1
    have kn2 : Ge14.keysOf (learned m l) num = Ge14.keysOf m num := keysOf_set_ne (Ne.symm hne)
    have hn2 : num < (learned m l).keys.length := by rw [learned_len]; exact hn
    have hf2 : l.from_ < (learned m l).keys.length := by rw [learned_len]; exact hf
    -- after
    obtain ⟨dx2, lk2, lt2, ks2, h2⟩ := id hm2
    refine ⟨_, rfl, a, dx2, _, rfl, h2.ha, mF_no (by decide +kernel) (by decide +kernel) (by decide +kernel) (by decide +kernel) (by decide +kernel), _, rfl, _, a, num, seed, learned m l, l.from_, rfl, hm2, hn2, hf2, by rw [kn2]; omega, fun H3 lc nc s3 hc => ?_⟩
    have hm3 := hm2.same s3
    have hb3 := s3 _ _ hb2
    obtain ⟨dl3, lp3, p13, p23, hla3, hlp3⟩ := hl2.same s3
    obtain ⟨dx3, lk3, lt3, ks3, h3⟩ := id hm3
    -- again
    refine ⟨_, rfl, a, CM, dx3, _, _, rfl, h3.ha, T.cl, T.nAg, mF_again, ?_⟩
    refine ⟨_, rfl, a, dx3, _, rfl, h3.ha, mF_no (by decide +kernel) (by decide +kernel) (by decide +kernel) (by decide +kernel) (by decide +kernel), _, a, num, seed, learned m l, rfl, hm3, hn2, ?_⟩
    rw [kn2] at hc ⊢
    refine ⟨_, rfl, _, rfl, lb, lc, _, _, rfl, hb3, hc, by rw [List.length_map, List.length_map], by rw [List.length_map, List.length_range]; omega, _, _, rfl, rfl, _, _, rfl, rfl, dx3, _, h3.ha, (by show 5 < 1000; decide), ?_⟩
    have ea := again_eq (g := g) mok lok hne
    rw [← hnow]
    have ea2 : ((learned m l).again : Int) + ((m.now : Int) - (fdiff ((List.range m.now).map (Ge14.taken m l.from_)) ((List.range m.now).map (Ge14.taken (learned m l) l.from_)) : Int)) = ((Ge14.comes g m l).again : Int) := ea
    rw [ea2]
    have pa : putF ("again" : Str) (V.int ((Ge14.comes g m l).again : Int)) (mF num seed lk3 lt3 (learned m l).again) = mF num seed lk3 lt3 (Ge14.comes g m l).again := mF_put_again
    rw [pa]
    -- there
    have nta : lt3 ≠ a := ne_of h3.ht h3.ha (by intro z; cases z)
    have nka : lk3 ≠ a := ne_of h3.hk h3.ha (by intro z; cases z)
    have nla : la ≠ a := fun z => by
      have o1 := h3.oa.1
      rw [← z] at o1
      exact dis _ p13 o1
    have htl : l.from_ < m.there.length := by rw [mok.tl]; exact lok.f
    have etf : m.there[l.from_]? = some (m.there.getD l.from_ 0) := by
      rw [List.getD_eq_getElem?_getD, List.getElem?_eq_getElem htl]
      rfl
    refine ⟨_, rfl, a, CM, dx3, _, _, rfl, upd_same, T.cl, T.nTh, mF_there, _, rfl, lt3, _, _, nV (m.there.getD l.from_ 0), rfl, rfl, SqL.of ((upd_ne nta).trans h3.ht), atI_nat (by rw [List.getElem?_map]; exact congrArg (Option.map nV) etf), _, rfl, la, CL, dl3, _, _, rfl, (upd_ne nla).trans hla3, T.clL, T.lTo, lF_told, _, _, rfl, ?_⟩
    refine ⟨_, rfl, a, CM, dx3, _, _, rfl, upd_same, T.cl, T.nTh, mF_there, _, rfl, lt3, _, _, l.from_, rfl, rfl, (upd_ne nta).trans h3.ht, ixN_at (by rw [List.length_map]; exact htl), ?_⟩
    have em : (if (l.have_ : Int) > (m.there.getD l.from_ 0 : Int) then (l.have_ : Int) else (m.there.getD l.from_ 0 : Int)) = ((max (m.there.getD l.from_ 0) l.have_ : Nat) : Int) := by
      split <;> omega
    rw [em]
    have et : ((learned m l).there.map nV).set l.from_ (V.int ((max (m.there.getD l.from_ 0) l.have_ : Nat) : Int)) = (Ge14.comes g m l).there.map nV := by
      show _ = (m.there.set l.from_ (max (m.there.getD l.from_ 0) l.have_)).map nV
      rw [List.map_set]
      rfl
    rw [et]
    refine q _ ?_ ⟨dx3, lk3, lt3, ks3, h3.oa.1, h3.ok.1, h3.ot.1, fun x hx => (h3.os x hx).1, ?_, ?_, ?_, ⟨?_, ?_⟩, h3.kt, h3.kn, h3.tn, h3.nd⟩
    · refine Keeps.upd (Keeps.upd (fun b o e n => s3 _ _ (k2 _ _ (s1 _ _ e) fun z => n z.1)) (.inl h3.oa.1)) (.inl h3.ot.1)
    · rw [upd_ne nta.symm, upd_same]
    · rw [upd_ne h3.kt, upd_ne nka]
      exact h3.hk
    · exact upd_same
    · exact h3.hs.1
    · intro i k x e1 e2
      have hk := h3.hs.2 i k x e1 e2
      have nkt : k ≠ lt3 := fun z => h3.tn (z ▸ List.mem_of_getElem? e1)
      have nka : k ≠ a := ne_of hk h3.ha (by intro z; cases z)
      rw [upd_ne nkt, upd_ne nka]
      exact hk
end
end Bn

namespace Bn
/-! ### what holds of every state -/
structure GOk (g : Ge14.House) : Prop where
  n1 : 1 ≤ g.n
  n4 : g.n ≤ 4
  a1 : 1 ≤ g.ahead
  a20 : g.ahead ≤ 20
  ml : g.machines.length = g.n
  mo : ∀ (i : Nat) (m : Ge14.Machine), g.machines[i]? = some m → MOk g.n i m
  lo : ∀ l ∈ g.net, LOk g.n l
  l40 : g.net.length ≤ 40
theorem comes_n {g g' : Ge14.House} (h : g.n = g'.n) (m : Ge14.Machine) (l : Ge14.Letter) : Ge14.comes g m l = Ge14.comes g' m l := by
  unfold Ge14.comes Ge14.firstOther
  rw [h]
/-- a machine of the house is another -/
theorem set_ok {g : Ge14.House} {i : Nat} {m : Ge14.Machine} (h : GOk g) (hm : MOk g.n i m) : GOk { g with machines := g.machines.set i m } := by
  refine ⟨h.n1, h.n4, h.a1, h.a20, by rw [List.length_set]; exact h.ml, fun j m' e => ?_, h.lo, h.l40⟩
  have e : (g.machines.set i m)[j]? = some m' := e
  by_cases hj : i = j
  · subst hj
    rw [List.getElem?_set] at e
    simp only [if_true] at e
    split at e
    · cases e
      exact hm
    · cases e
  · rw [List.getElem?_set_ne hj] at e
    exact h.mo j m' e
theorem net_ok {g : Ge14.House} {net : List Ge14.Letter} (h : GOk g) (hl : ∀ l ∈ net, LOk g.n l) (hn : net.length ≤ 40) : GOk { g with net := net } := ⟨h.n1, h.n4, h.a1, h.a20, h.ml, h.mo, hl, hn⟩
theorem mach_at {g : Ge14.House} (h : GOk g) {i : Nat} (hi : i < g.n) : ∃ m, g.machines[i]? = some m ∧ MOk g.n i m := by
  have hl : i < g.machines.length := by rw [h.ml]; exact hi
  exact ⟨_, List.getElem?_eq_getElem hl, h.mo i _ (List.getElem?_eq_getElem hl)⟩
/-- a letter comes to its machine -/
def comesTo (g : Ge14.House) (l : Ge14.Letter) : Ge14.House := { g with machines := match g.machines[l.to]? with
  | none => g.machines
  | some m => g.machines.set l.to (Ge14.comes g m l) }
theorem comesTo_ok {g : Ge14.House} {l : Ge14.Letter} (h : GOk g) (hl : LOk g.n l) : GOk (comesTo g l) := by
  obtain ⟨m, e, hm⟩ := mach_at h hl.t
  unfold comesTo
  rw [e]
  exact set_ok h (comes_ok hm hl hl.ne)
theorem comesTo_n {g : Ge14.House} {l : Ge14.Letter} : (comesTo g l).n = g.n := rfl
theorem deliver_eq {g : Ge14.House} {i : Nat} {l : Ge14.Letter} (e : g.net[i]? = some l) : Ge14.deliver g i true = { comesTo g l with net := g.net.eraseIdx i } := by
  unfold Ge14.deliver comesTo
  rw [e]
  rfl
/-- all of them come, in order -/
def allCome (g : Ge14.House) (ls : List Ge14.Letter) : Ge14.House := ls.foldl comesTo g
theorem allCome_n : ∀ (ls : List Ge14.Letter) (g : Ge14.House), (allCome g ls).n = g.n ∧ (allCome g ls).seed = g.seed ∧ (allCome g ls).ahead = g.ahead ∧ (allCome g ls).net = g.net
  | [], _ => ⟨rfl, rfl, rfl, rfl⟩
  | l :: ls, g => allCome_n ls (comesTo g l)
theorem allCome_ok : ∀ (ls : List Ge14.Letter) (g : Ge14.House), GOk g → (∀ l ∈ ls, LOk g.n l) → GOk (allCome g ls)
  | [], g, h, _ => h
  | l :: ls, g, h, hl => allCome_ok ls (comesTo g l) (comesTo_ok h (hl l List.mem_cons_self)) fun x hx => hl x (List.mem_cons_of_mem _ hx)
theorem comesTo_net (g : Ge14.House) (l : Ge14.Letter) (net : List Ge14.Letter) : comesTo { g with net := net } l = { comesTo g l with net := net } := by
  unfold comesTo
  cases e : g.machines[l.to]? with
  | none => rfl
  | some m =>
    have : Ge14.comes { g with net := net } m l = Ge14.comes g m l := comes_n rfl m l
    simp only [e, this]
theorem allCome_net : ∀ (ls : List Ge14.Letter) (g : Ge14.House) (net : List Ge14.Letter), allCome { g with net := net } ls = { allCome g ls with net := net }
  | [], g, net => rfl
  | l :: ls, g, net => by
    show allCome (comesTo { g with net := net } l) ls = { allCome (comesTo g l) ls with net := net }
    rw [comesTo_net]
    exact allCome_net ls (comesTo g l) net
theorem drain_eq : ∀ (k : Nat) (g : Ge14.House), g.net.length < k → Ge14.drain k g = { allCome g g.net with net := [] }
  | 0, g, h => absurd h (Nat.not_lt_zero _)
  | k + 1, g, h => by
    unfold Ge14.drain
    obtain ⟨n, seed, ahead, machines, net⟩ := g
    cases net with
    | nil =>
      rw [if_pos rfl]
      rfl
    | cons l r =>
      rw [if_neg (by intro z; cases z), deliver_eq (l := l) rfl]
      have hl : r.length < k := by
        have h : r.length + 1 < k + 1 := h
        omega
      have e1 : ({ comesTo ⟨n, seed, ahead, machines, l :: r⟩ l with net := (l :: r).eraseIdx 0 } : Ge14.House) = { comesTo ⟨n, seed, ahead, machines, l :: r⟩ l with net := r } := rfl
      show Ge14.drain k { comesTo ⟨n, seed, ahead, machines, l :: r⟩ l with net := (l :: r).eraseIdx 0 } = _
      rw [e1, drain_eq k _ hl]
      show ({ allCome { comesTo ⟨n, seed, ahead, machines, l :: r⟩ l with net := r } r with net := [] } : Ge14.House) = { allCome (comesTo ⟨n, seed, ahead, machines, l :: r⟩ l) r with net := [] }
      rw [allCome_net]
/-- the letters that all write -/
def allLetters (g : Ge14.House) : List Ge14.Letter := (List.range g.n).flatMap (Ge14.lettersOf g)
theorem lettersOf_ok {g : Ge14.House} (h : GOk g) {i : Nat} : ∀ l ∈ Ge14.lettersOf g i, LOk g.n l := by
  intro l hl
  unfold Ge14.lettersOf at hl
  cases e : g.machines[i]? with
  | none =>
    rw [e] at hl
    cases hl
  | some m =>
    rw [e] at hl
    obtain ⟨j, hj, rfl⟩ := List.mem_map.mp hl
    obtain ⟨h1, h2⟩ := List.mem_filter.mp hj
    have h2 : ¬ j = i := by simpa using h2
    exact letter_ok (h.mo i m e) (List.mem_range.mp h1) (Ne.symm h2)
theorem allLetters_ok {g : Ge14.House} (h : GOk g) : ∀ l ∈ allLetters g, LOk g.n l := by
  intro l hl
  obtain ⟨i, _, hl⟩ := List.mem_flatMap.mp hl
  exact lettersOf_ok h l hl
theorem heal_eq (g : Ge14.House) : Ge14.heal g = { allCome (allCome g g.net) (allLetters (allCome g g.net)) with net := [] } := by
  have e1 : ∀ a : Ge14.House, Ge14.drain (({ a with net := allLetters a } : Ge14.House).net.length + 1) { a with net := allLetters a } = { allCome a (allLetters a) with net := [] } := fun a => by
    rw [drain_eq _ _ (Nat.lt_succ_self _), allCome_net]
  have e2 : Ge14.drain (g.net.length + 1) g = { allCome g g.net with net := [] } := drain_eq _ g (Nat.lt_succ_self _)
  have e3 : Ge14.heal g = { allCome (Ge14.drain (g.net.length + 1) g) (allLetters (Ge14.drain (g.net.length + 1) g)) with net := [] } := e1 _
  rw [e3, e2, allCome_net]
  rfl
theorem heal_ok {g : Ge14.House} (h : GOk g) : GOk (Ge14.heal g) := by
  rw [heal_eq]
  have h1 := allCome_ok g.net g h h.lo
  have h2 := allCome_ok _ _ h1 (allLetters_ok h1)
  exact net_ok h2 (fun l hl => nomatch hl) (Nat.zero_le _)
theorem begins_ok {n s a : Nat} (h1 : 1 ≤ n) (h4 : n ≤ 4) (a1 : 1 ≤ a) (a20 : a ≤ 20) : GOk ⟨n, s, a, List.replicate n (Ge14.fresh n), []⟩ := by
  refine ⟨h1, h4, a1, a20, by simp, fun i m e => ?_, (fun l hl => nomatch hl), Nat.zero_le _⟩
  have e : (List.replicate n (Ge14.fresh n))[i]? = some m := e
  rw [List.getElem?_replicate] at e
  split at e
  · rename_i hi
    cases e
    exact fresh_ok h4 hi
  · cases e
theorem init_ok : GOk Ge14.init := begins_ok (by decide) (by decide) (by decide) (by decide)
theorem step_ok {g : Ge14.House} (h : GOk g) (c : Ge14.Call) : GOk (Ge14.step g c).1 := by
  cases c with
  | begins n s a =>
    simp only [Ge14.step]
    split
    · exact h
    · exact begins_ok (by omega) (by omega) (by omega) (by omega)
  | press i k =>
    simp only [Ge14.step]
    split
    · exact h
    · cases e : g.machines[i]? with
      | none => exact h
      | some m =>
        simp only
        split
        · exact h
        · split
          · exact h
          · exact set_ok h (press_ok (h.mo i m e) (by omega) (by omega))
  | send i =>
    simp only [Ge14.step]
    cases e : g.machines[i]? with
    | none => exact h
    | some m =>
      simp only
      split
      · exact h
      · refine net_ok h (fun l hl => ?_) (by rw [List.length_append]; omega)
        rcases List.mem_append.mp hl with hl | hl
        · exact h.lo l hl
        · exact lettersOf_ok h l hl
  | arrive j =>
    simp only [Ge14.step]
    cases e : g.net[j]? with
    | none => exact h
    | some l =>
      simp only
      rw [deliver_eq e]
      have hl := h.lo l (List.mem_of_getElem? e)
      exact net_ok (comesTo_ok h hl) (fun x hx => h.lo x (List.mem_of_mem_eraseIdx hx)) (Nat.le_trans (List.length_eraseIdx_le _ _) h.l40)
  | twice j =>
    simp only [Ge14.step]
    cases e : g.net[j]? with
    | none => exact h
    | some l =>
      simp only
      split
      · exact h
      · refine net_ok h (fun x hx => ?_) (by rw [List.length_append]; simp; omega)
        rcases List.mem_append.mp hx with hx | hx
        · exact h.lo x hx
        · rw [List.mem_singleton] at hx
          subst hx
          exact h.lo _ (List.mem_of_getElem? e)
  | lose j =>
    simp only [Ge14.step]
    split
    · exact h
    · exact net_ok h (fun x hx => h.lo x (List.mem_of_mem_eraseIdx hx)) (Nat.le_trans (List.length_eraseIdx_le _ _) h.l40)
  | shown i => exact h
  | sure i => exact h
  | net => exact h
  | agree => exact h
  | heal => exact heal_ok h
  | machine i => exact h
  | at_ i t => exact h
end Bn

namespace Bn
open PySem PySem.Spec PyProof.Rows L2
def gF (lm ll : Addr) (ahead : Nat) : List (Str × V) := [("machines", .ref lm), ("letters", .ref ll), ("ahead", nV ahead)]
section
variable {lm ll : Addr} {ahead : Nat}
theorem gF_machines : (gF lm ll ahead).lookup ("machines" : Str) = some (.ref lm) := lk_here
theorem gF_letters : (gF lm ll ahead).lookup ("letters" : Str) = some (.ref ll) := lk_past (by decide +kernel) lk_here
theorem gF_ahead : (gF lm ll ahead).lookup ("ahead" : Str) = some (nV ahead) := lk_past (by decide +kernel) (lk_past (by decide +kernel) lk_here)
theorem gF_no {m : Str} (h1 : (m == "machines") = false) (h2 : (m == "letters") = false) (h3 : (m == "ahead") = false) : (gF lm ll ahead).lookup m = none := lk_past h1 (lk_past h2 (lk_past h3 rfl))
theorem gF_put_machines {lm' : Addr} : putF "machines" (.ref lm') (gF lm ll ahead) = gF lm' ll ahead := put_here
theorem gF_put_letters {ll' : Addr} : putF "letters" (.ref ll') (gF lm ll ahead) = gF lm ll' ahead := put_past (by decide +kernel) put_here
theorem gF_put_ahead {a' : Nat} : putF "ahead" (nV a') (gF lm ll ahead) = gF lm ll a' := put_past (by decide +kernel) (put_past (by decide +kernel) put_here)
theorem gF_new : putF "ahead" (nV ahead) (putF "letters" (.ref ll) (putF "machines" (.ref lm) [])) = gF lm ll ahead := by
  have e1 : putF "letters" (.ref ll) (putF "machines" (.ref lm) []) = [(("machines" : Str), V.ref lm), ("letters", V.ref ll)] := put_past (by decide +kernel) rfl
  rw [e1]
  exact put_past (by decide +kernel) (put_past (by decide +kernel) rfl)
end
/-- the machines: each in its own part -/
def MachsAt (CM : Addr) (O : Addr → Prop) (own : Addr → Nat) (H : Hp) (seed : Nat) (ms : List Addr) (machines : List Ge14.Machine) : Prop :=
  ms.length = machines.length ∧ ∀ (i : Nat) (x : Addr) (m : Ge14.Machine), ms[i]? = some x → machines[i]? = some m → MachIn CM (fun z => O z ∧ own z = i + 2) H x i seed m
def LettersAt (CL : Addr) (O : Addr → Prop) (own : Addr → Nat) (H : Hp) (ls : List Addr) (net : List Ge14.Letter) : Prop :=
  ls.length = net.length ∧ ∀ (i : Nat) (x : Addr) (l : Ge14.Letter), ls[i]? = some x → net[i]? = some l → LetterIn CL (fun z => O z ∧ own z = 0) H x l
structure GameAt (CG CM CL : Addr) (O : Addr → Prop) (H : Hp) (a : Addr) (g : Ge14.House) (dx lm ll : Addr) (ms ls : List Addr) (own : Addr → Nat) : Prop where
  oa : O a ∧ own a = 1
  om : O lm ∧ own lm = 1
  ol : O ll ∧ own ll = 1
  ne : lm ≠ ll
  ha : H a = some (.ins CG dx (gF lm ll g.ahead))
  hm : H lm = some (.lst (ms.map V.ref))
  hl : H ll = some (.lst (ls.map V.ref))
  mm : MachsAt CM O own H g.seed ms g.machines
  lt : LettersAt CL O own H ls g.net
def GameIn (CG CM CL : Addr) (O : Addr → Prop) (H : Hp) (a : Addr) (g : Ge14.House) : Prop := ∃ (dx lm ll : Addr) (ms ls : List Addr) (own : Addr → Nat), GameAt CG CM CL O H a g dx lm ll ms ls own
section
variable {CG CM CL : Addr} {O O' : Addr → Prop} {own : Addr → Nat} {H H' : Hp} {a dx lm ll : Addr} {ms ls : List Addr} {g : Ge14.House}
theorem LettersAt.keeps {net : List Ge14.Letter} (h : LettersAt CL O own H ls net) (k : Keeps O' H H') (d : ∀ x, O x → own x = 0 → ¬ O' x) : LettersAt CL O own H' ls net :=
  ⟨h.1, fun i x l e1 e2 => (h.2 i x l e1 e2).keeps k fun z hz => d z hz.1 hz.2⟩
theorem GameAt.same (h : GameAt CG CM CL O H a g dx lm ll ms ls own) (s : Same H H') : GameAt CG CM CL O H' a g dx lm ll ms ls own :=
  ⟨h.oa, h.om, h.ol, h.ne, s _ _ h.ha, s _ _ h.hm, s _ _ h.hl, ⟨h.mm.1, fun i x m e1 e2 => (h.mm.2 i x m e1 e2).same s⟩, ⟨h.lt.1, fun i x l e1 e2 => (h.lt.2 i x l e1 e2).same s⟩⟩
theorem GameAt.mono (h : GameAt CG CM CL O H a g dx lm ll ms ls own) (s : ∀ x, O x → O' x) : GameAt CG CM CL O' H a g dx lm ll ms ls own :=
  ⟨⟨s _ h.oa.1, h.oa.2⟩, ⟨s _ h.om.1, h.om.2⟩, ⟨s _ h.ol.1, h.ol.2⟩, h.ne, h.ha, h.hm, h.hl, ⟨h.mm.1, fun i x m e1 e2 => (h.mm.2 i x m e1 e2).mono fun z hz => ⟨s z hz.1, hz.2⟩⟩, ⟨h.lt.1, fun i x l e1 e2 => (h.lt.2 i x l e1 e2).mono fun z hz => ⟨s z hz.1, hz.2⟩⟩⟩
theorem GameIn.same (h : GameIn CG CM CL O H a g) (s : Same H H') : GameIn CG CM CL O H' a g := by
  obtain ⟨dx, lm, ll, ms, ls, own, h⟩ := h
  exact ⟨dx, lm, ll, ms, ls, own, h.same s⟩
theorem GameIn.mono (h : GameIn CG CM CL O H a g) (s : ∀ x, O x → O' x) : GameIn CG CM CL O' H a g := by
  obtain ⟨dx, lm, ll, ms, ls, own, h⟩ := h
  exact ⟨dx, lm, ll, ms, ls, own, h.mono s⟩
/-- it stands where others write elsewhere -/
theorem GameIn.keeps (h : GameIn CG CM CL O H a g) (k : Keeps O' H H') (d : ∀ x, O x → ¬ O' x) : GameIn CG CM CL O H' a g := by
  obtain ⟨dx, lm, ll, ms, ls, own, h⟩ := h
  exact ⟨dx, lm, ll, ms, ls, own, h.oa, h.om, h.ol, h.ne, k _ _ h.ha (d _ h.oa.1), k _ _ h.hm (d _ h.om.1), k _ _ h.hl (d _ h.ol.1), ⟨h.mm.1, fun i x m e1 e2 => (h.mm.2 i x m e1 e2).keeps k fun z hz => d z hz.1⟩, ⟨h.lt.1, fun i x l e1 e2 => (h.lt.2 i x l e1 e2).keeps k fun z hz => d z hz.1⟩⟩
/-- what is not tracked is none of it -/
theorem GameIn.strict (h : GameIn CG CM CL O H a g) : GameIn CG CM CL (fun z => O z ∧ H z ≠ none) H a g := by
  obtain ⟨dx, lm, ll, ms, ls, own, h⟩ := h
  refine ⟨dx, lm, ll, ms, ls, own, ⟨⟨h.oa.1, by rw [h.ha]; simp⟩, h.oa.2⟩, ⟨⟨h.om.1, by rw [h.hm]; simp⟩, h.om.2⟩, ⟨⟨h.ol.1, by rw [h.hl]; simp⟩, h.ol.2⟩, h.ne, h.ha, h.hm, h.hl, ⟨h.mm.1, fun i x m e1 e2 => (h.mm.2 i x m e1 e2).strict.mono fun z hz => ⟨⟨hz.1.1, hz.2⟩, hz.1.2⟩⟩, ⟨h.lt.1, fun i x l e1 e2 => (h.lt.2 i x l e1 e2).strict.mono fun z hz => ⟨⟨hz.1.1, hz.2⟩, hz.1.2⟩⟩⟩
/-- one machine has become another -/
theorem GameAt.setMach (h : GameAt CG CM CL O H a g dx lm ll ms ls own) {i : Nat} {x : Addr} {m' : Ge14.Machine} (e : ms[i]? = some x) (k : Keeps (fun z => O z ∧ own z = i + 2) H H') (hm : MachIn CM (fun z => O z ∧ own z = i + 2) H' x i g.seed m') :
    GameAt CG CM CL O H' a { g with machines := g.machines.set i m' } dx lm ll ms ls own := by
  have far : ∀ z n, own z = n → n < 2 → ¬ (O z ∧ own z = i + 2) := fun z n e hn q => by omega
  refine ⟨h.oa, h.om, h.ol, h.ne, k _ _ h.ha (far _ 1 h.oa.2 (by decide)), k _ _ h.hm (far _ 1 h.om.2 (by decide)), k _ _ h.hl (far _ 1 h.ol.2 (by decide)), ⟨by rw [List.length_set]; exact h.mm.1, fun j y m e1 e2 => ?_⟩, h.lt.keeps k fun z _ hz => far z 0 hz (by decide)⟩
  have e2 : (g.machines.set i m')[j]? = some m := e2
  by_cases hj : i = j
  · subst hj
    rw [e] at e1
    cases e1
    rw [List.getElem?_set] at e2
    simp only [if_true] at e2
    split at e2
    · cases e2
      exact hm
    · cases e2
  · rw [List.getElem?_set_ne hj] at e2
    exact (h.mm.2 j y m e1 e2).keeps k fun z hz q => by omega
/-- the letters' list has become another, of letters that stand -/
theorem GameAt.setLetters (h : GameAt CG CM CL O H a g dx lm ll ms ls own) {ls' : List Addr} {net' : List Ge14.Letter} (hl : LettersAt CL O own H ls' net') : GameAt CG CM CL O (upd H ll (.lst (ls'.map V.ref))) a { g with net := net' } dx lm ll ms ls' own := by
  have k : Keeps (fun z => z = ll) H (upd H ll (.lst (ls'.map V.ref))) := (Keeps.refl _ _).upd (.inl rfl)
  have na : a ≠ ll := (ne_of h.hl h.ha (by intro z; cases z)).symm
  refine ⟨h.oa, h.om, h.ol, h.ne, (upd_ne na).trans h.ha, (upd_ne h.ne).trans h.hm, upd_same, ⟨h.mm.1, fun i x m e1 e2 => (h.mm.2 i x m e1 e2).keeps k fun z hz q => ?_⟩, hl.keeps k fun z hz h0 q => ?_⟩
  · subst q
    have := h.ol.2
    omega
  · subst q
    have := h.ol.2
    omega
/-- a new letter joins: the ghost map is told -/
theorem GameAt.newLetter (h : GameAt CG CM CL O H a g dx lm ll ms ls own) (s : Same H H') {x : Addr} {l : Ge14.Letter} (hx : LetterIn CL (fun z => H z = none) H' x l) :
    GameAt CG CM CL (Or O H) (upd H' ll (.lst ((ls ++ [x]).map V.ref))) a { g with net := g.net ++ [l] } dx lm ll ms (ls ++ [x]) (fun z => match H z with | none => 0 | some _ => own z) := by
  have trk : ∀ z o, H z = some o → (match H z with | none => 0 | some _ => own z) = own z := fun z o e => by rw [e]
  have hs := h.same s
  have h' : GameAt CG CM CL (Or O H) H' a g dx lm ll ms ls (fun z => match H z with | none => 0 | some _ => own z) := by
    refine ⟨⟨Or.l h.oa.1, (trk _ _ h.ha).trans h.oa.2⟩, ⟨Or.l h.om.1, (trk _ _ h.hm).trans h.om.2⟩, ⟨Or.l h.ol.1, (trk _ _ h.hl).trans h.ol.2⟩, h.ne, hs.ha, hs.hm, hs.hl, ⟨h.mm.1, fun i y m e1 e2 => ?_⟩, ⟨h.lt.1, fun i y l e1 e2 => ?_⟩⟩
    · refine ((h.mm.2 i y m e1 e2).strict.same s).mono fun z hz => ?_
      cases q : H z with
      | none => exact absurd q hz.2
      | some o =>
        refine ⟨Or.l hz.1.1, ?_⟩
        simp only [q]
        exact hz.1.2
    · refine ((h.lt.2 i y l e1 e2).strict.same s).mono fun z hz => ?_
      cases q : H z with
      | none => exact absurd q hz.2
      | some o =>
        refine ⟨Or.l hz.1.1, ?_⟩
        simp only [q]
        exact hz.1.2
  refine h'.setLetters ⟨by rw [List.length_append, List.length_append, h.lt.1]; rfl, fun i y l' e1 e2 => ?_⟩
  by_cases hi : i < ls.length
  · rw [List.getElem?_append_left hi] at e1
    rw [List.getElem?_append_left (by rw [← h.lt.1]; exact hi)] at e2
    exact h'.lt.2 i y l' e1 e2
  · have ei : i = ls.length := by
      have := (List.getElem?_eq_some_iff.mp e1).1
      rw [List.length_append] at this
      simp at this
      omega
    subst ei
    have z1 : (ls ++ [x])[ls.length]? = some x := by simp
    rw [z1] at e1
    cases e1
    rw [h.lt.1] at e2
    have z2 : (g.net ++ [l])[g.net.length]? = some l := by simp
    rw [z2] at e2
    cases e2
    refine hx.mono fun z hz => ⟨Or.r hz, ?_⟩
    simp only [hz]
end
end Bn

namespace Bn
open PySem PySem.Spec PyProof.Rows L2
abbrev sGInit : Stmt := inClass (top 19) 0
abbrev sGStart : Stmt := inClass (top 19) 1
abbrev sGHasM : Stmt := inClass (top 19) 2
abbrev sGHasL : Stmt := inClass (top 19) 3
abbrev sGLettersOf : Stmt := inClass (top 19) 4
abbrev sGLetAll : Stmt := inClass (top 19) 5
abbrev sGSureE : Stmt := inClass (top 19) 6
abbrev sGBegins : Stmt := inClass (top 19) 7
abbrev sGPress : Stmt := inClass (top 19) 8
abbrev sGSend : Stmt := inClass (top 19) 9
abbrev sGArrive : Stmt := inClass (top 19) 10
abbrev sGTwice : Stmt := inClass (top 19) 11
abbrev sGLose : Stmt := inClass (top 19) 12
abbrev sGShown : Stmt := inClass (top 19) 13
abbrev sGSure : Stmt := inClass (top 19) 14
abbrev sGNet : Stmt := inClass (top 19) 15
abbrev sGAgree : Stmt := inClass (top 19) 16
abbrev sGHeal : Stmt := inClass (top 19) 17
abbrev sGMachine : Stmt := inClass (top 19) 18
abbrev sGAt : Stmt := inClass (top 19) 19
structure TxtG (K : PySem.W.Frag) (mg : Str → Option Value) (CG : Addr) : Prop where
  cl : Cls K CG
  nMa : NoAttr K CG "machines"
  nLe : NoAttr K CG "letters"
  nAh : NoAttr K CG "ahead"
  mP : ∃ t, mg "MOST_PLAYERS" = some (.int 4 t)
  mA : ∃ t, mg "MOST_AHEAD" = some (.int 20 t)
  mK : ∃ t, mg "MOST_KEY" = some (.int 4 t)
  mS : ∃ t, mg "MOST_SHOWN" = some (.int 60 t)
  mL : ∃ t, mg "MOST_LETTERS" = some (.int 40 t)
/-! ### promises -/
/-- a call is answered -/
def Done (CG CM CL : Addr) (O : Addr → Prop) (H : Hp) (a : Addr) (g : Ge14.House) (c : Ge14.Call) (Q : V → Hp → Prop) : Prop :=
  ∀ (H' : Hp) (p : Addr), Keeps O H H' → GameIn CG CM CL (Or O H) H' a (Ge14.step g c).1 → Or O H p → H' p = some (.lst ((Ge14.step g c).2.map V.int)) → Q (.ref p) H'
def spG0 (CG CM CL : Addr) (c : Ge14.Call) : Sp := fun vs H Q _ => ∃ (O : Addr → Prop) (a : Addr) (g : Ge14.House), vs = [.ref a] ∧ GameIn CG CM CL O H a g ∧ GOk g ∧ Done CG CM CL O H a g c Q
def spG1 (CG CM CL : Addr) (c : Nat → Ge14.Call) : Sp := fun vs H Q _ => ∃ (O : Addr → Prop) (a : Addr) (g : Ge14.House) (i : Nat), vs = [.ref a, nV i] ∧ i ≤ 4294967295 ∧ GameIn CG CM CL O H a g ∧ GOk g ∧ Done CG CM CL O H a g (c i) Q
def spG2 (CG CM CL : Addr) (c : Nat → Nat → Ge14.Call) : Sp := fun vs H Q _ => ∃ (O : Addr → Prop) (a : Addr) (g : Ge14.House) (i j : Nat), vs = [.ref a, nV i, nV j] ∧ i ≤ 4294967295 ∧ GameIn CG CM CL O H a g ∧ GOk g ∧ Done CG CM CL O H a g (c i j) Q
def spG3 (CG CM CL : Addr) (c : Nat → Nat → Nat → Ge14.Call) : Sp := fun vs H Q _ => ∃ (O : Addr → Prop) (a : Addr) (g : Ge14.House) (i j k : Nat), vs = [.ref a, nV i, nV j, nV k] ∧ GameIn CG CM CL O H a g ∧ GOk g ∧ Done CG CM CL O H a g (c i j k) Q
def spGStart (CG CM CL : Addr) : Sp := fun vs H Q _ => ∃ (a dx : Addr) (fs : List (Str × V)) (n seed ahead : Nat), vs = [.ref a, nV n, nV seed, nV ahead] ∧ n ≤ 4 ∧ H a = some (.ins CG dx fs) ∧ (fs = [] ∨ ∃ lm ll ah, fs = gF lm ll ah) ∧
  ∀ H' : Hp, (∀ b o, H b = some o → b ≠ a → H' b = some o) → GameIn CG CM CL (fun z => z = a ∨ H z = none) H' a ⟨n, seed, ahead, List.replicate n (Ge14.fresh n), []⟩ → Q .non H'
def spGInit (CG CM CL : Addr) : Sp := fun vs H Q _ => ∃ (a dx : Addr), vs = [.ref a] ∧ H a = some (.ins CG dx []) ∧
  ∀ H' : Hp, (∀ b o, H b = some o → b ≠ a → H' b = some o) → GameIn CG CM CL (fun z => z = a ∨ H z = none) H' a Ge14.init → Q .non H'
def spGHasM (CG CM CL : Addr) : Sp := fun vs H Q _ => ∃ (O : Addr → Prop) (a : Addr) (g : Ge14.House) (i : Nat), vs = [.ref a, nV i] ∧ GameIn CG CM CL O H a g ∧ Q (.bl (decide (i < g.machines.length))) H
def spGHasL (CG CM CL : Addr) : Sp := fun vs H Q _ => ∃ (O : Addr → Prop) (a : Addr) (g : Ge14.House) (i : Nat), vs = [.ref a, nV i] ∧ GameIn CG CM CL O H a g ∧ Q (.bl (decide (i < g.net.length))) H
/-- letters that were written since -/
def NewLetters (CL : Addr) (H H' : Hp) (xs : List Addr) (net : List Ge14.Letter) : Prop := xs.length = net.length ∧ ∀ (j : Nat) (x : Addr) (l : Ge14.Letter), xs[j]? = some x → net[j]? = some l → LetterIn CL (fun z => H z = none) H' x l
def spGLettersOf (CG CM CL : Addr) : Sp := fun vs H Q _ => ∃ (O : Addr → Prop) (a : Addr) (g : Ge14.House) (i : Nat), vs = [.ref a, nV i] ∧ GameIn CG CM CL O H a g ∧ GOk g ∧ i < g.n ∧
  ∀ (H' : Hp) (p : Addr) (xs : List Addr), Same H H' → H p = none → H' p = some (.lst (xs.map V.ref)) → NewLetters CL H H' xs (Ge14.lettersOf g i) → Q (.ref p) H'
def spGLetAll (CG CM CL : Addr) : Sp := fun vs H Q _ => ∃ (O : Addr → Prop) (a : Addr) (g : Ge14.House), vs = [.ref a] ∧ GameIn CG CM CL O H a g ∧ GOk g ∧
  ∀ H' : Hp, Keeps O H H' → GameIn CG CM CL (Or O H) H' a { allCome g g.net with net := [] } → Q .non H'
def spGSureE (CG CM CL : Addr) : Sp := fun vs H Q _ => ∃ (O : Addr → Prop) (a : Addr) (g : Ge14.House), vs = [.ref a] ∧ GameIn CG CM CL O H a g ∧ GOk g ∧ ∀ H' : Hp, Same H H' → Q (nV (Ge14.allSure g)) H'
/-! ### a game that changes -/
theorem ints_nV (l : List Nat) : (Ge14.ints l).map V.int = l.map nV := by
  unfold Ge14.ints
  rw [List.map_map]
  rfl
theorem Or.back {O : Addr → Prop} {H H1 : Hp} (k : Keeps O H H1) (z : Addr) (h : Or (Or O H) H1 z) : Or O H z := by
  rcases h with h | h
  · exact h
  · by_cases hO : O z
    · exact .inl hO
    · refine .inr ?_
      cases e : H z with
      | none => rfl
      | some o =>
        rw [k _ _ e hO] at h
        cases h
theorem Keeps.same {O : Addr → Prop} {H H1 H2 : Hp} (a : Keeps O H H1) (s : Same H1 H2) : Keeps O H H2 := fun b o e n => s _ _ (a b o e n)
section
variable {CG CM CL : Addr} {O O' : Addr → Prop} {own : Addr → Nat} {H H' : Hp} {a dx lm ll : Addr} {ms ls : List Addr} {g : Ge14.House} {c : Ge14.Call} {Q : V → Hp → Prop}
theorem Done.same (q : Done CG CM CL O H a g c Q) (hg : GameIn CG CM CL O H a g) {zs : List Int} (es : Ge14.step g c = (g, zs)) {p : Addr} (s : Same H H') (hp : H p = none) (h' : H' p = some (.lst (zs.map V.int))) : Q (.ref p) H' := by
  refine q _ p (Keeps.of_same s) ?_ (Or.r hp) ?_
  · rw [es]
    exact (hg.same s).mono fun _ h => Or.l h
  · rw [es]
    exact h'
theorem Done.fin (q : Done CG CM CL O H a g c Q) {g' : Ge14.House} {zs : List Int} (es : Ge14.step g c = (g', zs)) {p : Addr} (k : Keeps O H H') (hg : GameIn CG CM CL (Or O H) H' a g') (hp : H' p = none) : Q (.ref p) (upd H' p (.lst (zs.map V.int))) := by
  refine q _ p (k.same (same_new hp)) ?_ (Or.back k p (.inr hp)) ?_
  · rw [es]
    exact hg.same (same_new hp)
  · rw [es]
    exact upd_same
theorem GameAt.reown (h : GameAt CG CM CL O H a g dx lm ll ms ls own) {own' : Addr → Nat} (e : ∀ z o, H z = some o → own' z = own z) : GameAt CG CM CL O H a g dx lm ll ms ls own' := by
  have key : ∀ (n : Nat) (z : Addr), ((O z ∧ own z = n) ∧ H z ≠ none) → (O z ∧ own' z = n) := fun n z hz => by
    cases q : H z with
    | none => exact absurd q hz.2
    | some o => exact ⟨hz.1.1, (e z o q).trans hz.1.2⟩
  exact ⟨⟨h.oa.1, (e _ _ h.ha).trans h.oa.2⟩, ⟨h.om.1, (e _ _ h.hm).trans h.om.2⟩, ⟨h.ol.1, (e _ _ h.hl).trans h.ol.2⟩, h.ne, h.ha, h.hm, h.hl, ⟨h.mm.1, fun i y m e1 e2 => (h.mm.2 i y m e1 e2).strict.mono (key _)⟩, ⟨h.lt.1, fun i y l e1 e2 => (h.lt.2 i y l e1 e2).strict.mono (key _)⟩⟩
theorem GameAt.newLetters (h : GameAt CG CM CL O H a g dx lm ll ms ls own) (s : Same H H') {xs : List Addr} {net : List Ge14.Letter} (hx : NewLetters CL H H' xs net) :
    ∃ own', GameAt CG CM CL (Or O H) (upd H' ll (.lst ((ls ++ xs).map V.ref))) a { g with net := g.net ++ net } dx lm ll ms (ls ++ xs) own' := by
  refine ⟨fun z => match H z with | none => 0 | some _ => own z, ?_⟩
  have h' := ((h.reown (own' := fun z => match H z with | none => 0 | some _ => own z) (fun z o e => by simp only [e])).same s).mono fun z hz => Or.l (H := H) hz
  refine h'.setLetters ⟨by rw [List.length_append, List.length_append, h.lt.1, hx.1], fun i y l e1 e2 => ?_⟩
  by_cases hi : i < ls.length
  · rw [List.getElem?_append_left hi] at e1
    rw [List.getElem?_append_left (by rw [← h.lt.1]; exact hi)] at e2
    exact h'.lt.2 i y l e1 e2
  · rw [List.getElem?_append_right (by omega)] at e1
    rw [List.getElem?_append_right (by rw [← h.lt.1]; omega), ← h.lt.1] at e2
    refine (hx.2 _ y l e1 e2).mono fun z hz => ⟨Or.r hz, ?_⟩
    simp only [hz]
theorem GameAt.clearLetters (h : GameAt CG CM CL O H a g dx lm ll ms ls own) {b : Addr} (hb : H b = none) :
    ∃ own', GameAt CG CM CL (Or O H) (upd (upd H b (.lst [])) a (.ins CG dx (gF lm b g.ahead))) a { g with net := [] } dx lm b ms [] own' := by
  refine ⟨fun z => if z = b then 1 else own z, ?_⟩
  have h' := ((h.reown (own' := fun z => if z = b then 1 else own z) (fun z o e => if_neg (ne_of_none e hb))).same (same_new (o := .lst []) hb)).mono fun z hz => Or.l (H := H) hz
  have nab : a ≠ b := ne_of_none h.ha hb
  have nma : lm ≠ a := ne_of h.hm h.ha (by intro z; cases z)
  have k : Keeps (fun z => z = a) (upd H b (.lst [])) (upd (upd H b (.lst [])) a (.ins CG dx (gF lm b g.ahead))) := (Keeps.refl _ _).upd (.inl rfl)
  refine ⟨h'.oa, h'.om, ⟨Or.r hb, if_pos rfl⟩, ne_of_none h.hm hb, upd_same, (upd_ne nma).trans h'.hm, (upd_ne nab.symm).trans upd_same, ⟨h'.mm.1, fun i x m e1 e2 => (h'.mm.2 i x m e1 e2).keeps k fun z hz q => ?_⟩, rfl, fun i x l e1 e2 => nomatch e1⟩
  have e := h'.oa.2
  have q : z = a := q
  subst q
  have e2 := e.symm.trans hz.2
  omega
theorem GameAt.mach (h : GameAt CG CM CL O H a g dx lm ll ms ls own) {i : Nat} {m : Ge14.Machine} (e : g.machines[i]? = some m) : ∃ x, ms[i]? = some x ∧ MachIn CM (fun z => O z ∧ own z = i + 2) H x i g.seed m := by
  have hi : i < ms.length := by rw [h.mm.1]; exact (List.getElem?_eq_some_iff.mp e).1
  exact ⟨ms[i], List.getElem?_eq_getElem hi, h.mm.2 i _ _ (List.getElem?_eq_getElem hi) e⟩
theorem GameAt.letter (h : GameAt CG CM CL O H a g dx lm ll ms ls own) {i : Nat} {l : Ge14.Letter} (e : g.net[i]? = some l) : ∃ x, ls[i]? = some x ∧ LetterIn CL (fun z => O z ∧ own z = 0) H x l := by
  have hi : i < ls.length := by rw [h.lt.1]; exact (List.getElem?_eq_some_iff.mp e).1
  exact ⟨ls[i], List.getElem?_eq_getElem hi, h.lt.2 i _ _ (List.getElem?_eq_getElem hi) e⟩
end
end Bn

namespace Bn
open PySem PySem.Spec PyProof.Rows L2
section
variable {P : Program} {w : World} {K : PySem.W.Frag} {mg : Str → Option Value} {base : Heap} {CW CL CM CG : Addr}
theorem dec_nat (i n : Nat) : decide ((i : Int) < (n : Int)) = decide (i < n) := decide_eq_decide.mpr (by omega)
theorem scGHasM : FnScope ["self", "machine"] ["self", "machine"] (defScope sGHasM) := ⟨rfl, rfl, rfl, by decide +kernel, rfl, by decide +kernel, by decide +kernel⟩
theorem ok_gHasM {f : Addr} {fd : FuncData} (F : Fun K "has_machine" "Game.has_machine" sGHasM f fd) (T : TxtG K mg CG) (TM : TxtM K mg CL CM) : FnOk P w K mg base CX0 1 f fd ["self", "machine"] (spGHasM CG CM CL) := by
  refine F.ok scGHasM (fun vs H Q E h => ?_) (fun cdv A outer s H vs Q E hr h => ?_)
  · obtain ⟨O, a, g, i, rfl, _⟩ := h
    rfl
  · obtain ⟨O, a, g, i, rfl, ⟨dx, lm, ll, ms, ls, own, h⟩, q⟩ := h
    refine ⟨_, pss_one (ps_ret (pe_cmpR op_lt (pv 1) (pe_callB call_len_seq (by rfl) TM.len PySem.boot_len (pa_cons (pe_fld (pv 0) rfl) pa_nil)) (nomark _))), ?_⟩
    refine ⟨_, rfl, _, rfl, a, CG, dx, _, _, rfl, h.ha, T.cl, T.nMa, gF_machines, lm, _, rfl, .inl (SqL.of h.hm), _, _, rfl, rfl, ?_⟩
    rw [List.length_map, h.mm.1]
    show Q (V.bl (decide ((i : Int) < (g.machines.length : Int)))) H
    rw [dec_nat]
    exact q
theorem scGHasL : FnScope ["self", "letter"] ["self", "letter"] (defScope sGHasL) := ⟨rfl, rfl, rfl, by decide +kernel, rfl, by decide +kernel, by decide +kernel⟩
theorem ok_gHasL {f : Addr} {fd : FuncData} (F : Fun K "has_letter" "Game.has_letter" sGHasL f fd) (T : TxtG K mg CG) (TM : TxtM K mg CL CM) : FnOk P w K mg base CX0 1 f fd ["self", "letter"] (spGHasL CG CM CL) := by
  refine F.ok scGHasL (fun vs H Q E h => ?_) (fun cdv A outer s H vs Q E hr h => ?_)
  · obtain ⟨O, a, g, i, rfl, _⟩ := h
    rfl
  · obtain ⟨O, a, g, i, rfl, ⟨dx, lm, ll, ms, ls, own, h⟩, q⟩ := h
    refine ⟨_, pss_one (ps_ret (pe_cmpR op_lt (pv 1) (pe_callB call_len_seq (by rfl) TM.len PySem.boot_len (pa_cons (pe_fld (pv 0) rfl) pa_nil)) (nomark _))), ?_⟩
    refine ⟨_, rfl, _, rfl, a, CG, dx, _, _, rfl, h.ha, T.cl, T.nLe, gF_letters, ll, _, rfl, .inl (SqL.of h.hl), _, _, rfl, rfl, ?_⟩
    rw [List.length_map, h.lt.1]
    show Q (V.bl (decide ((i : Int) < (g.net.length : Int)))) H
    rw [dec_nat]
    exact q
/-! ### the steps that answer alone -/
theorem shown_none {g : Ge14.House} {i : Nat} (h : g.machines[i]? = none) : Ge14.step g (.shown i) = (g, [-2]) := by
  simp only [Ge14.step, h]
theorem shown_some {g : Ge14.House} {i : Nat} {m : Ge14.Machine} (h : g.machines[i]? = some m) : Ge14.step g (.shown i) = (g, Ge14.ints (m.now :: Ge14.worldRow (Ge14.worldAt g m m.now))) := by
  simp only [Ge14.step, h]
theorem sure_none {g : Ge14.House} {i : Nat} (h : g.machines[i]? = none) : Ge14.step g (.sure i) = (g, [-2]) := by
  simp only [Ge14.step, h]
theorem sure_now {n i : Nat} {m : Ge14.Machine} (h : MOk n i m) : Ge14.sure m ≤ m.now := by
  rw [h.now]
  exact sure_le (keysOf_mem (by rw [h.kl]; exact h.lt))
theorem sure_some {g : Ge14.House} {i : Nat} {m : Ge14.Machine} (h : g.machines[i]? = some m) (ok : MOk g.n i m) : Ge14.step g (.sure i) = (g, Ge14.ints (Ge14.sure m :: Ge14.worldRow (Ge14.worldAt g m (Ge14.sure m)))) := by
  have e : min (Ge14.sure m) m.now = Ge14.sure m := Nat.min_eq_left (sure_now ok)
  simp only [Ge14.step, h, e]
theorem at_none {g : Ge14.House} {i t : Nat} (h : g.machines[i]? = none) : Ge14.step g (.at_ i t) = (g, [-2]) := by
  simp only [Ge14.step, h]
theorem at_far {g : Ge14.House} {i t : Nat} {m : Ge14.Machine} (h : g.machines[i]? = some m) (ht : m.now < t) : Ge14.step g (.at_ i t) = (g, [-2]) := by
  simp only [Ge14.step, h, ht, if_true]
theorem at_some {g : Ge14.House} {i t : Nat} {m : Ge14.Machine} (h : g.machines[i]? = some m) (ht : ¬ m.now < t) : Ge14.step g (.at_ i t) = (g, Ge14.ints ((if t ≤ Ge14.sure m then 1 else 0) :: Ge14.worldRow (Ge14.worldAt g m t))) := by
  simp only [Ge14.step, h, ht, if_false]
theorem none_of {g : Ge14.House} {i : Nat} (h : ¬ i < g.machines.length) : g.machines[i]? = none := List.getElem?_eq_none (by omega)
theorem wAt_row {g : Ge14.House} {m : Ge14.Machine} {t : Nat} (h : m.keys.length = g.n) : wAt m.keys.length g.seed m t = Ge14.worldAt g m t := by
  rw [h]
  rfl
theorem now_le {n i : Nat} {m : Ge14.Machine} (h : MOk n i m) : m.now ≤ 60 := by
  rw [h.now]
  exact h.k60 _ (keysOf_mem (by rw [h.kl]; exact h.lt))
theorem scGShown : FnScope ["self", "machine", "shower"] ["self", "machine"] (defScope sGShown) := ⟨rfl, rfl, rfl, by decide +kernel, rfl, by decide +kernel, by decide +kernel⟩
theorem ok_gShown {f : Addr} {fd : FuncData} (F : Fun K "shown" "Game.shown" sGShown f fd) (T : TxtG K mg CG) (TM : TxtM K mg CL CM) (TW : TxtW K mg CW) (GH : MethOk P w K mg base CG "has_machine" 1 ["self", "machine"] (spGHasM CG CM CL))
    (GS : MethOk P w K mg base CM "shown" 1 ["self"] (spMShown CM)) (GW : MethOk P w K mg base CM "world_behind" 5 ["self", "ticks"] (spMWorld CM CW)) (GN : MethOk P w K mg base CW "numbers" 1 ["self"] (spNumbers CW)) :
    FnOk P w K mg base CX0 6 f fd ["self", "machine"] (spG1 CG CM CL .shown) := by
  obtain ⟨fH, fdH, mH, GH, bH⟩ := GH
  obtain ⟨fS, fdS, mS, GS, bS⟩ := GS
  obtain ⟨fW, fdW, mW, GW, bW⟩ := GW
  obtain ⟨fN, fdN, mN, GN, bN⟩ := GN
  refine F.ok scGShown (fun vs H Q E h => ?_) (fun cdv A outer s H vs Q E hr h => ?_)
  · obtain ⟨O, a, g, i, rfl, _⟩ := h
    rfl
  · obtain ⟨O, a, g, i, rfl, _, hg, gok, q⟩ := h
    obtain ⟨dx, lm, ll, ms, ls, own, h⟩ := id hg
    have hr1 : Room 1 _ := hr.mono (by decide)
    refine ⟨_, pss_cons (ps_if (pt_not (pt_val (pe_meth (pv 0) T.cl mH GH hr1 bH .nil pass0 (pa_cons (pv 1) pa_nil)))) (pss_one (ps_ret (pe_lst (pa_cons (pe_un un_neg pe_int) pa_nil)))) pss_nil)
      (pss_cons (ps_set (i := 2) scGShown.nd rfl (.inl rfl) (pe_ix ix_list (pe_fld (pv 0) rfl) (pv 1) (fun _ _ => rfl)))
      (pss_one (ps_ret (pe_op op_cat (pe_lst (pa_cons (pe_meth0 (pv 2) TM.cl mS GS hr1 bS .nil pass0) pa_nil)) (pe_meth0 (pe_meth (pv 2) TM.cl mW GW hr bW .nil pass0 (pa_cons (pe_meth0 (pv 2) TM.cl mS GS hr1 bS .nil pass0) pa_nil)) TW.cl mN GN hr1 bN .nil pass0))))), ?_⟩
    refine ⟨_, rfl, a, dx, _, rfl, h.ha, gF_no (by decide +kernel) (by decide +kernel) (by decide +kernel), _, rfl, O, a, g, i, rfl, hg, _, rfl, ?_⟩
    by_cases c : i < g.machines.length
    · rw [decide_eq_true c]
      refine iteF ?_
      obtain ⟨m, em⟩ : ∃ m, g.machines[i]? = some m := ⟨_, List.getElem?_eq_getElem c⟩
      have mok := gok.mo i m em
      have hn : i < m.keys.length := by rw [mok.kl]; exact mok.lt
      have hn4 : m.keys.length ≤ 4 := by rw [mok.kl]; exact mok.n4
      have h60 := now_le mok
      obtain ⟨x, ex, hx⟩ := h.mach em
      refine ⟨_, rfl, a, CG, dx, _, _, rfl, h.ha, T.cl, T.nMa, gF_machines, _, rfl, lm, _, _, .ref x, rfl, rfl, SqL.of h.hm, atI_nat (by rw [List.getElem?_map, ex]; rfl), ?_⟩
      obtain ⟨dm, lk, lt, ks, hmx⟩ := id hx
      refine ⟨_, rfl, x, dm, _, rfl, hmx.ha, mF_no (by decide +kernel) (by decide +kernel) (by decide +kernel) (by decide +kernel) (by decide +kernel), _, x, i, g.seed, m, rfl, hx, hn, ?_⟩
      rw [← mok.now]
      refine ⟨(by show 1 ≤ sizeLine; decide), fun l hl => ?_⟩
      have s1 := same_new (o := .lst [nV m.now]) hl
      have hx1 := hx.same s1
      obtain ⟨dm1, lk1, lt1, ks1, hmx1⟩ := id hx1
      refine ⟨_, rfl, x, dm1, _, rfl, hmx1.ha, mF_no (by decide +kernel) (by decide +kernel) (by decide +kernel) (by decide +kernel) (by decide +kernel), ?_⟩
      refine ⟨_, rfl, x, dm1, _, rfl, hmx1.ha, mF_no (by decide +kernel) (by decide +kernel) (by decide +kernel) (by decide +kernel) (by decide +kernel), _, x, i, g.seed, m, rfl, hx1, hn, ?_⟩
      rw [← mok.now]
      refine ⟨_, x, i, g.seed, m, m.now, rfl, hx1, hn4, by omega, mok.k4, fun H2 xw s2 w2 wok => ?_⟩
      rw [wAt_row mok.kl] at w2 wok
      obtain ⟨dw, lp, lq, tc, ts, o1, o2, o3, n1, hw1, _⟩ := id w2
      refine ⟨xw, dw, _, rfl, hw1, wF_no (by decide +kernel) (by decide +kernel) (by decide +kernel) (by decide +kernel), _, xw, _, rfl, w2, wok.1, fun H3 p np s3 hp => ?_⟩
      have hl3 := s3 _ _ (s2 _ _ (upd_same (H := H) (a := l) (o := .lst [nV m.now])))
      have b4 := wok.1
      refine ⟨l, p, _, _, rfl, rfl, hl3, hp, ?_, fun b hb => ?_⟩
      · rw [List.length_map, row_len]
        show 1 + (3 * (Ge14.worldAt g m m.now).players.length + 2) ≤ sizeLine
        exact small_size (by omega)
      · refine q.same hg (shown_some em) (Same.new ((s1.trans s2).trans s3) hb) (((s1.trans s2).trans s3).free hb) ?_
        rw [upd_same, ints_nV]
        rfl
    · rw [decide_eq_false c]
      refine iteT ?_
      refine ⟨_, rfl, (by show 1 ≤ sizeLine; decide), fun p hp => ?_⟩
      exact q.same hg (shown_none (none_of c)) (same_new hp) hp upd_same
theorem scGSure : FnScope ["self", "machine", "asked"] ["self", "machine"] (defScope sGSure) := ⟨rfl, rfl, rfl, by decide +kernel, rfl, by decide +kernel, by decide +kernel⟩
theorem ok_gSure {f : Addr} {fd : FuncData} (F : Fun K "sure" "Game.sure" sGSure f fd) (T : TxtG K mg CG) (TM : TxtM K mg CL CM) (TW : TxtW K mg CW) (GH : MethOk P w K mg base CG "has_machine" 1 ["self", "machine"] (spGHasM CG CM CL))
    (GS : MethOk P w K mg base CM "sure" 1 ["self"] (spMSure CM)) (GW : MethOk P w K mg base CM "world_behind" 5 ["self", "ticks"] (spMWorld CM CW)) (GN : MethOk P w K mg base CW "numbers" 1 ["self"] (spNumbers CW)) :
    FnOk P w K mg base CX0 6 f fd ["self", "machine"] (spG1 CG CM CL .sure) := by
  obtain ⟨fH, fdH, mH, GH, bH⟩ := GH
  obtain ⟨fS, fdS, mS, GS, bS⟩ := GS
  obtain ⟨fW, fdW, mW, GW, bW⟩ := GW
  obtain ⟨fN, fdN, mN, GN, bN⟩ := GN
  refine F.ok scGSure (fun vs H Q E h => ?_) (fun cdv A outer s H vs Q E hr h => ?_)
  · obtain ⟨O, a, g, i, rfl, _⟩ := h
    rfl
  · obtain ⟨O, a, g, i, rfl, _, hg, gok, q⟩ := h
    obtain ⟨dx, lm, ll, ms, ls, own, h⟩ := id hg
    have hr1 : Room 1 _ := hr.mono (by decide)
    refine ⟨_, pss_cons (ps_if (pt_not (pt_val (pe_meth (pv 0) T.cl mH GH hr1 bH .nil pass0 (pa_cons (pv 1) pa_nil)))) (pss_one (ps_ret (pe_lst (pa_cons (pe_un un_neg pe_int) pa_nil)))) pss_nil)
      (pss_cons (ps_set (i := 2) scGSure.nd rfl (.inl rfl) (pe_ix ix_list (pe_fld (pv 0) rfl) (pv 1) (fun _ _ => rfl)))
      (pss_one (ps_ret (pe_op op_cat (pe_lst (pa_cons (pe_meth0 (pv 2) TM.cl mS GS hr1 bS .nil pass0) pa_nil)) (pe_meth0 (pe_meth (pv 2) TM.cl mW GW hr bW .nil pass0 (pa_cons (pe_meth0 (pv 2) TM.cl mS GS hr1 bS .nil pass0) pa_nil)) TW.cl mN GN hr1 bN .nil pass0))))), ?_⟩
    refine ⟨_, rfl, a, dx, _, rfl, h.ha, gF_no (by decide +kernel) (by decide +kernel) (by decide +kernel), _, rfl, O, a, g, i, rfl, hg, _, rfl, ?_⟩
    by_cases c : i < g.machines.length
    · rw [decide_eq_true c]
      refine iteF ?_
      obtain ⟨m, em⟩ : ∃ m, g.machines[i]? = some m := ⟨_, List.getElem?_eq_getElem c⟩
      have mok := gok.mo i m em
      have hn : i < m.keys.length := by rw [mok.kl]; exact mok.lt
      have hn4 : m.keys.length ≤ 4 := by rw [mok.kl]; exact mok.n4
      have h60 := now_le mok
      have hsn := sure_now mok
      obtain ⟨x, ex, hx⟩ := h.mach em
      refine ⟨_, rfl, a, CG, dx, _, _, rfl, h.ha, T.cl, T.nMa, gF_machines, _, rfl, lm, _, _, .ref x, rfl, rfl, SqL.of h.hm, atI_nat (by rw [List.getElem?_map, ex]; rfl), ?_⟩
      obtain ⟨dm, lk, lt, ks, hmx⟩ := id hx
      refine ⟨_, rfl, x, dm, _, rfl, hmx.ha, mF_no (by decide +kernel) (by decide +kernel) (by decide +kernel) (by decide +kernel) (by decide +kernel), _, x, i, g.seed, m, rfl, hx, by omega, hn4, fun H0 s0 => ?_⟩
      refine ⟨(by show 1 ≤ sizeLine; decide), fun l hl => ?_⟩
      have s1 := s0.trans (same_new (o := .lst [nV (Ge14.sure m)]) hl)
      have hx1 := hx.same s1
      obtain ⟨dm1, lk1, lt1, ks1, hmx1⟩ := id hx1
      refine ⟨_, rfl, x, dm1, _, rfl, hmx1.ha, mF_no (by decide +kernel) (by decide +kernel) (by decide +kernel) (by decide +kernel) (by decide +kernel), ?_⟩
      refine ⟨_, rfl, x, dm1, _, rfl, hmx1.ha, mF_no (by decide +kernel) (by decide +kernel) (by decide +kernel) (by decide +kernel) (by decide +kernel), _, x, i, g.seed, m, rfl, hx1, by omega, hn4, fun H9 s9 => ?_⟩
      have hx9 := hx1.same s9
      refine ⟨_, x, i, g.seed, m, Ge14.sure m, rfl, hx9, hn4, by omega, mok.k4, fun H2 xw s2 w2 wok => ?_⟩
      rw [wAt_row mok.kl] at w2 wok
      obtain ⟨dw, lp, lq, tc, ts, o1, o2, o3, n1, hw1, _⟩ := id w2
      refine ⟨xw, dw, _, rfl, hw1, wF_no (by decide +kernel) (by decide +kernel) (by decide +kernel) (by decide +kernel), _, xw, _, rfl, w2, wok.1, fun H3 p np s3 hp => ?_⟩
      have hl3 := s3 _ _ (s2 _ _ (s9 _ _ (upd_same (H := H0) (a := l) (o := .lst [nV (Ge14.sure m)]))))
      have b4 := wok.1
      have sA := ((s1.trans s9).trans s2).trans s3
      refine ⟨l, p, _, _, rfl, rfl, hl3, hp, ?_, fun b hb => ?_⟩
      · rw [List.length_map, row_len]
        show 1 + (3 * (Ge14.worldAt g m (Ge14.sure m)).players.length + 2) ≤ sizeLine
        exact small_size (by omega)
      · refine q.same hg (sure_some em mok) (Same.new sA hb) (sA.free hb) ?_
        rw [upd_same, ints_nV]
        rfl
    · rw [decide_eq_false c]
      refine iteT ?_
      refine ⟨_, rfl, (by show 1 ≤ sizeLine; decide), fun p hp => ?_⟩
      exact q.same hg (sure_none (none_of c)) (same_new hp) hp upd_same
theorem scGAt : FnScope ["self", "machine", "ticks", "asked", "is_sure"] ["self", "machine", "ticks"] (defScope sGAt) := ⟨rfl, rfl, rfl, by decide +kernel, rfl, by decide +kernel, by decide +kernel⟩
theorem ok_gAt {f : Addr} {fd : FuncData} (F : Fun K "at" "Game.at" sGAt f fd) (T : TxtG K mg CG) (TM : TxtM K mg CL CM) (TW : TxtW K mg CW) (GH : MethOk P w K mg base CG "has_machine" 1 ["self", "machine"] (spGHasM CG CM CL))
    (GD : MethOk P w K mg base CM "shown" 1 ["self"] (spMShown CM)) (GS : MethOk P w K mg base CM "sure" 1 ["self"] (spMSure CM)) (GW : MethOk P w K mg base CM "world_behind" 5 ["self", "ticks"] (spMWorld CM CW)) (GN : MethOk P w K mg base CW "numbers" 1 ["self"] (spNumbers CW)) :
    FnOk P w K mg base CX0 6 f fd ["self", "machine", "ticks"] (spG2 CG CM CL .at_) := by
  obtain ⟨fH, fdH, mH, GH, bH⟩ := GH
  obtain ⟨fD, fdD, mD, GD, bD⟩ := GD
  obtain ⟨fS, fdS, mS, GS, bS⟩ := GS
  obtain ⟨fW, fdW, mW, GW, bW⟩ := GW
  obtain ⟨fN, fdN, mN, GN, bN⟩ := GN
  refine F.ok scGAt (fun vs H Q E h => ?_) (fun cdv A outer s H vs Q E hr h => ?_)
  · obtain ⟨O, a, g, i, t, rfl, _⟩ := h
    rfl
  · obtain ⟨O, a, g, i, t, rfl, _, hg, gok, q⟩ := h
    obtain ⟨dx, lm, ll, ms, ls, own, h⟩ := id hg
    have hr1 : Room 1 _ := hr.mono (by decide)
    refine ⟨_, pss_cons (ps_if (pt_not (pt_val (pe_meth (pv 0) T.cl mH GH hr1 bH .nil pass0 (pa_cons (pv 1) pa_nil)))) (pss_one (ps_ret (pe_lst (pa_cons (pe_un un_neg pe_int) pa_nil)))) pss_nil)
      (pss_cons (ps_set (i := 3) scGAt.nd rfl (.inl rfl) (pe_ix ix_list (pe_fld (pv 0) rfl) (pv 1) (fun _ _ => rfl)))
      (pss_cons (ps_if (pt_cmpR op_gt (pv 2) (pe_meth0 (pv 3) TM.cl mD GD hr1 bD .nil pass0) (nomark _)) (pss_one (ps_ret (pe_lst (pa_cons (pe_un un_neg pe_int) pa_nil)))) pss_nil)
      (pss_cons (ps_set (i := 4) scGAt.nd rfl (.inl rfl) (pe_ifExp (pt_cmpR op_le (pv 2) (pe_meth0 (pv 3) TM.cl mS GS hr1 bS .nil pass0) (nomark _)) pe_int pe_int))
      (pss_one (ps_ret (pe_op op_cat (pe_lst (pa_cons (pv 4) pa_nil)) (pe_meth0 (pe_meth (pv 3) TM.cl mW GW hr bW .nil pass0 (pa_cons (pv 2) pa_nil)) TW.cl mN GN hr1 bN .nil pass0))))))), ?_⟩
    refine ⟨_, rfl, a, dx, _, rfl, h.ha, gF_no (by decide +kernel) (by decide +kernel) (by decide +kernel), _, rfl, O, a, g, i, rfl, hg, _, rfl, ?_⟩
    by_cases c : i < g.machines.length
    · rw [decide_eq_true c]
      refine iteF ?_
      obtain ⟨m, em⟩ : ∃ m, g.machines[i]? = some m := ⟨_, List.getElem?_eq_getElem c⟩
      have mok := gok.mo i m em
      have hn : i < m.keys.length := by rw [mok.kl]; exact mok.lt
      have hn4 : m.keys.length ≤ 4 := by rw [mok.kl]; exact mok.n4
      have h60 := now_le mok
      have hsn := sure_now mok
      obtain ⟨x, ex, hx⟩ := h.mach em
      refine ⟨_, rfl, a, CG, dx, _, _, rfl, h.ha, T.cl, T.nMa, gF_machines, _, rfl, lm, _, _, .ref x, rfl, rfl, SqL.of h.hm, atI_nat (by rw [List.getElem?_map, ex]; rfl), ?_⟩
      obtain ⟨dm, lk, lt, ks, hmx⟩ := id hx
      refine ⟨_, rfl, _, rfl, x, dm, _, rfl, hmx.ha, mF_no (by decide +kernel) (by decide +kernel) (by decide +kernel) (by decide +kernel) (by decide +kernel), _, x, i, g.seed, m, rfl, hx, hn, ?_⟩
      rw [← mok.now]
      refine ⟨_, _, rfl, rfl, _, rfl, ?_⟩
      refine ite2 (fun d => ?_) (fun d => ?_)
      · have d : (m.now : Int) < (t : Int) := of_decide_eq_true d
        refine ⟨_, rfl, (by show 1 ≤ sizeLine; decide), fun p hp => ?_⟩
        exact q.same hg (at_far em (by omega)) (same_new hp) hp upd_same
      · have d : ¬ (m.now : Int) < (t : Int) := fun z => d (decide_eq_true z)
        have d' : ¬ m.now < t := by omega
        refine ⟨_, rfl, _, rfl, x, dm, _, rfl, hmx.ha, mF_no (by decide +kernel) (by decide +kernel) (by decide +kernel) (by decide +kernel) (by decide +kernel), _, x, i, g.seed, m, rfl, hx, by omega, hn4, fun H0 s0 => ?_⟩
        refine ⟨_, _, rfl, rfl, _, rfl, ?_⟩
        have rest : ∀ r : Nat, r = (if t ≤ Ge14.sure m then 1 else 0) → ∃ v, ([some (V.ref a), some (nV i), some (nV t), some (V.ref x), some (nV r)] : L2.St)[4]? = some (some v) ∧ (tNil [some (V.ref a), some (nV i), some (nV t), some (V.ref x), some (nV r)] H0 fun xs H2 => (v :: xs).length ≤ sizeLine ∧ ∀ p, H2 p = none → (tMeth CW "numbers" (spNumbers CW) [] E0 (tMeth CM "world_behind" (spMWorld CM CW) [] E0 (tVar 3) (tCons (tVar 2) tNil)) tNil) [some (V.ref a), some (nV i), some (nV t), some (V.ref x), some (nV r)] (upd H2 p (.lst (v :: xs))) fun y H3 => rCat (.ref p) y H3 Q) := by
          intro r er
          refine ⟨_, rfl, (by show 1 ≤ sizeLine; decide), fun l hl => ?_⟩
          have s1 := s0.trans (same_new (o := .lst [nV r]) hl)
          have hx1 := hx.same s1
          obtain ⟨dm1, lk1, lt1, ks1, hmx1⟩ := id hx1
          refine ⟨_, rfl, x, dm1, _, rfl, hmx1.ha, mF_no (by decide +kernel) (by decide +kernel) (by decide +kernel) (by decide +kernel) (by decide +kernel), ?_⟩
          refine ⟨_, rfl, _, x, i, g.seed, m, t, rfl, hx1, hn4, by omega, mok.k4, fun H2 xw s2 w2 wok => ?_⟩
          rw [wAt_row mok.kl] at w2 wok
          obtain ⟨dw, lp, lq, tc, ts, o1, o2, o3, n1, hw1, _⟩ := id w2
          refine ⟨xw, dw, _, rfl, hw1, wF_no (by decide +kernel) (by decide +kernel) (by decide +kernel) (by decide +kernel), _, xw, _, rfl, w2, wok.1, fun H3 p np s3 hp => ?_⟩
          have hl3 := s3 _ _ (s2 _ _ (upd_same (H := H0) (a := l) (o := .lst [nV r])))
          have b4 := wok.1
          have sA := (s1.trans s2).trans s3
          refine ⟨l, p, _, _, rfl, rfl, hl3, hp, ?_, fun b hb => ?_⟩
          · rw [List.length_map, row_len]
            show 1 + (3 * (Ge14.worldAt g m t).players.length + 2) ≤ sizeLine
            exact small_size (by omega)
          · refine q.same hg (at_some em d') (Same.new sA hb) (sA.free hb) ?_
            rw [upd_same, ints_nV, ← er]
            rfl
        refine ite2 (fun e => ?_) (fun e => ?_)
        · have e : (t : Int) ≤ (Ge14.sure m : Int) := of_decide_eq_true e
          exact rest 1 (by rw [if_pos (by omega)])
        · have e : ¬ (t : Int) ≤ (Ge14.sure m : Int) := fun z => e (decide_eq_true z)
          exact rest 0 (by rw [if_neg (by omega)])
    · rw [decide_eq_false c]
      refine iteT ?_
      refine ⟨_, rfl, (by show 1 ≤ sizeLine; decide), fun p hp => ?_⟩
      exact q.same hg (at_none (none_of c)) (same_new hp) hp upd_same
end
end Bn

namespace Bn
open PySem PySem.Spec PyProof.Rows L2
section
variable {P : Program} {w : World} {K : PySem.W.Frag} {mg : Str → Option Value} {base : Heap} {CW CL CM CG : Addr}
/-! ### machine -/
theorem mach_none {g : Ge14.House} {i : Nat} (h : g.machines[i]? = none) : Ge14.step g (.machine i) = (g, [-2]) := by
  simp only [Ge14.step, h]
theorem mach_some {g : Ge14.House} {i : Nat} {m : Ge14.Machine} (h : g.machines[i]? = some m) : Ge14.step g (.machine i) = (g, Ge14.ints ([m.now, Ge14.sure m, m.again] ++ m.keys.map (fun k => k.length) ++ m.there)) := by
  simp only [Ge14.step, h]
theorem scGMachine : FnScope ["self", "machine", "asked", "counts", "pressed"] ["self", "machine"] (defScope sGMachine) := ⟨rfl, rfl, rfl, by decide +kernel, rfl, by decide +kernel, by decide +kernel⟩
theorem ok_gMachine {f : Addr} {fd : FuncData} (F : Fun K "machine" "Game.machine" sGMachine f fd) (T : TxtG K mg CG) (TM : TxtM K mg CL CM) (GH : MethOk P w K mg base CG "has_machine" 1 ["self", "machine"] (spGHasM CG CM CL))
    (GD : MethOk P w K mg base CM "shown" 1 ["self"] (spMShown CM)) (GS : MethOk P w K mg base CM "sure" 1 ["self"] (spMSure CM)) :
    FnOk P w K mg base CX0 2 f fd ["self", "machine"] (spG1 CG CM CL .machine) := by
  obtain ⟨fH, fdH, mH, GH, bH⟩ := GH
  obtain ⟨fD, fdD, mD, GD, bD⟩ := GD
  obtain ⟨fS, fdS, mS, GS, bS⟩ := GS
  refine F.ok scGMachine (fun vs H Q E h => ?_) (fun cdv A outer s H vs Q E hr h => ?_)
  · obtain ⟨O, a, g, i, rfl, _⟩ := h
    rfl
  · obtain ⟨O, a, g, i, rfl, _, hg, gok, q⟩ := h
    obtain ⟨dx, lm, ll, ms, ls, own, h⟩ := id hg
    refine ⟨_, pss_cons (ps_if (pt_not (pt_val (pe_meth (pv 0) T.cl mH GH hr bH .nil pass0 (pa_cons (pv 1) pa_nil)))) (pss_one (ps_ret (pe_lst (pa_cons (pe_un un_neg pe_int) pa_nil)))) pss_nil)
      (pss_cons (ps_set (i := 2) scGMachine.nd rfl (.inl rfl) (pe_ix ix_list (pe_fld (pv 0) rfl) (pv 1) (fun _ _ => rfl)))
      (pss_cons (ps_setLc (i := 3) (own := [("pressed", 4)]) (g := gName 4) (tt := tYes) (te := tCB (rLenK K) (tCons (tVar 4) tNil)) rfl scGMachine.nd rfl rfl (sw_true rfl rfl rfl (by decide +kernel)) (pi_list (pe_fld (pv 2) rfl)) (blkOk_by (own := [("pressed", 4)]) (N := ["self", "machine", "asked", "counts", "pressed"]) (sc := defScope sGMachine) (by decide +kernel))
        (fun _ _ _ _ _ => pg_name (i := 4) scGMachine.nd rfl (Or.inl rfl)) (fun _ _ _ _ _ => pts_nil) (fun _ _ _ _ _ => pe_callB call_len_seq (by rfl) TM.len PySem.boot_len (pa_cons (pv 4) pa_nil)))
      (pss_one (ps_ret (pe_op op_cat (pe_op op_cat (pe_lst (pa_cons (pe_meth0 (pv 2) TM.cl mD GD hr bD .nil pass0) (pa_cons (pe_meth0 (pv 2) TM.cl mS GS hr bS .nil pass0) (pa_cons (pe_fld (pv 2) rfl) pa_nil)))) (pv 3)) (pe_fld (pv 2) rfl)))))), ?_⟩
    refine ⟨_, rfl, a, dx, _, rfl, h.ha, gF_no (by decide +kernel) (by decide +kernel) (by decide +kernel), _, rfl, O, a, g, i, rfl, hg, _, rfl, ?_⟩
    by_cases c : i < g.machines.length
    · rw [decide_eq_true c]
      refine iteF ?_
      obtain ⟨m, em⟩ : ∃ m, g.machines[i]? = some m := ⟨_, List.getElem?_eq_getElem c⟩
      have mok := gok.mo i m em
      have hn : i < m.keys.length := by rw [mok.kl]; exact mok.lt
      have hn4 : m.keys.length ≤ 4 := by rw [mok.kl]; exact mok.n4
      have htl : m.there.length = m.keys.length := by rw [mok.kl, mok.tl]
      obtain ⟨x, ex, hx⟩ := h.mach em
      refine ⟨_, rfl, a, CG, dx, _, _, rfl, h.ha, T.cl, T.nMa, gF_machines, _, rfl, lm, _, _, .ref x, rfl, rfl, SqL.of h.hm, atI_nat (by rw [List.getElem?_map, ex]; rfl), ?_⟩
      obtain ⟨dm, lk, lt, ks, hmx⟩ := id hx
      -- counts
      refine ⟨_, rfl, x, CM, dm, _, _, rfl, hmx.ha, TM.cl, TM.nKn, mF_known, lk, rfl, ⟨_, SqL.of hmx.hk⟩, fun D hD => ?_⟩
      refine lc_list (K := K) (a := lk) (xs := ks.map V.ref) (fun j H1 => Same H H1 ∧ H1 D = some (.lst (((m.keys.take j).map fun l => l.length).map nV))) ?_ ?_ ?_ ?_
      · exact ⟨same_new hD, upd_same⟩
      · rintro j H1 _ ⟨s1, _⟩
        exact SqL.of (s1 _ _ hmx.hk)
      · rintro j y H1 hy ⟨s1, d1⟩
        rw [List.getElem?_map] at hy
        obtain ⟨k, ek, rfl⟩ := Option.map_eq_some_iff.mp hy
        have hil : j < m.keys.length := by rw [← hmx.hs.1]; exact (List.getElem?_eq_some_iff.mp ek).1
        have el : m.keys[j]? = some m.keys[j] := List.getElem?_eq_getElem hil
        have hk := hmx.hs.2 j k _ ek el
        refine ⟨rfl, yes_of ?_⟩
        refine ⟨_, rfl, k, _, rfl, .inl (SqL.of (s1 _ _ hk)), _, d1, ?_, ?_, ?_⟩
        · rw [List.length_map, List.length_map, List.length_take]
          exact small1000 (by omega)
        · exact Same.own s1 hD
        · rw [upd_same, take_more el, List.map_append, List.map_append, List.length_map]
          rfl
      · rintro H1 ⟨s1, d1⟩
        rw [List.length_map, hmx.hs.1, List.take_length] at d1
        have hx1 := hx.same s1
        obtain ⟨dm1, lk1, lt1, ks1, hmx1⟩ := id hx1
        -- [..] + counts + there
        refine ⟨_, rfl, x, dm1, _, rfl, hmx1.ha, mF_no (by decide +kernel) (by decide +kernel) (by decide +kernel) (by decide +kernel) (by decide +kernel), _, x, i, g.seed, m, rfl, hx1, hn, ?_⟩
        rw [← mok.now]
        refine ⟨_, rfl, x, dm1, _, rfl, hmx1.ha, mF_no (by decide +kernel) (by decide +kernel) (by decide +kernel) (by decide +kernel) (by decide +kernel), _, x, i, g.seed, m, rfl, hx1, by omega, hn4, fun H2 s2 => ?_⟩
        have hx2 := hx1.same s2
        obtain ⟨dm2, lk2, lt2, ks2, hmx2⟩ := id hx2
        refine ⟨_, rfl, x, CM, dm2, _, _, rfl, hmx2.ha, TM.cl, TM.nAg, mF_again, (by show 3 ≤ sizeLine; decide), fun l hl => ?_⟩
        have s3 := same_new (o := .lst [nV m.now, nV (Ge14.sure m), nV m.again]) hl
        have d3 := s3 _ _ (s2 _ _ d1)
        refine ⟨_, rfl, l, D, _, _, rfl, rfl, upd_same, d3, ?_, fun b hb => ?_⟩
        · rw [List.length_map, List.length_map]
          show 3 + m.keys.length ≤ sizeLine
          exact small_size (by omega)
        have s4 := same_new (o := .lst ([nV m.now, nV (Ge14.sure m), nV m.again] ++ (m.keys.map fun l => l.length).map nV)) hb
        have hx4 := (hx2.same s3).same s4
        obtain ⟨dm4, lk4, lt4, ks4, hmx4⟩ := id hx4
        refine ⟨_, rfl, x, CM, dm4, _, _, rfl, hmx4.ha, TM.cl, TM.nTh, mF_there, b, lt4, _, _, rfl, rfl, upd_same, hmx4.ht, ?_, fun p hp => ?_⟩
        · rw [List.length_append, List.length_map, List.length_map, List.length_map]
          show 3 + m.keys.length + m.there.length ≤ sizeLine
          exact small_size (by omega)
        have sA := ((s1.trans s2).trans s3).trans s4
        refine q.same hg (mach_some em) (Same.new sA hp) (sA.free hp) ?_
        rw [upd_same, ints_nV, List.map_append, List.map_append]
        rfl
    · rw [decide_eq_false c]
      refine iteT ?_
      refine ⟨_, rfl, (by show 1 ≤ sizeLine; decide), fun p hp => ?_⟩
      exact q.same hg (mach_none (none_of c)) (same_new hp) hp upd_same
/-! ### net -/
def row5 (x : Ge14.Letter) : List Nat := [x.from_, x.to, x.start, x.keys.length, x.have_]
theorem row5_len : ∀ l : List Ge14.Letter, (l.flatMap row5).length = 5 * l.length
  | [] => rfl
  | p :: l => by
    rw [List.flatMap_cons, List.length_append, row5_len l, List.length_cons]
    show 5 + 5 * l.length = _
    omega
theorem scGNet : FnScope ["self", "answer", "letter"] ["self"] (defScope sGNet) := ⟨rfl, rfl, rfl, by decide +kernel, rfl, by decide +kernel, by decide +kernel⟩
theorem ok_gNet {f : Addr} {fd : FuncData} (F : Fun K "net" "Game.net" sGNet f fd) (T : TxtG K mg CG) (TM : TxtM K mg CL CM) :
    FnOk P w K mg base CX0 1 f fd ["self"] (spG0 CG CM CL .net) := by
  refine F.ok scGNet (fun vs H Q E h => ?_) (fun cdv A outer s H vs Q E hr h => ?_)
  · obtain ⟨O, a, g, rfl, _⟩ := h
    rfl
  · obtain ⟨O, a, g, rfl, hg, gok, q⟩ := h
    obtain ⟨dx, lm, ll, ms, ls, own, h⟩ := id hg
    have n40 := gok.l40
    refine ⟨_, pss_cons (ps_set (i := 1) scGNet.nd rfl (.inl rfl) (pe_lst (pa_cons (pe_callB call_len_seq (by rfl) TM.len PySem.boot_len (pa_cons (pe_fld (pv 0) rfl) pa_nil)) pa_nil)))
      (pss_cons (ps_for PassesOwn.never rfl (pi_list (pe_fld (pv 0) rfl)) (pg_name (i := 2) scGNet.nd rfl (.inl rfl))
        (pss_one (ps_expr (pe_bm PySem.F.plainAttrs_list PySem.F.slot_list_extend PySem.F.type_list_extend mt_extend (pv 1) (pa_cons (pe_lst (pa_cons (pe_fld (pv 2) rfl) (pa_cons (pe_fld (pv 2) rfl) (pa_cons (pe_fld (pv 2) rfl) (pa_cons (pe_callB call_len_seq (by rfl) TM.len PySem.boot_len (pa_cons (pe_fld (pv 2) rfl) pa_nil)) (pa_cons (pe_fld (pv 2) rfl) pa_nil)))))) pa_nil)))))
      (pss_one (ps_ret (pv 1)))), ?_⟩
    refine ⟨_, rfl, a, CG, dx, _, _, rfl, h.ha, T.cl, T.nLe, gF_letters, ll, _, rfl, .inl (SqL.of h.hl), (by show 1 ≤ sizeLine; decide), fun l hl => ?_⟩
    rw [List.length_map, h.lt.1]
    have s0 : Same H (upd H l (.lst [nV g.net.length])) := same_new hl
    refine ⟨_, rfl, a, CG, dx, _, _, rfl, s0 _ _ h.ha, T.cl, T.nLe, gF_letters, ll, rfl, ⟨_, SqL.of (s0 _ _ h.hl)⟩, ?_⟩
    refine for_list (K := K) (a := ll) (xs := ls.map V.ref) (fun i σ H1 => ∃ v, σ = [some (.ref a), some (.ref l), v] ∧ Same H H1 ∧ H1 l = some (.lst ((g.net.length :: (g.net.take i).flatMap row5).map nV))) ?_ ?_ ?_ ?_
    · exact ⟨none, rfl, s0, upd_same⟩
    · rintro i σ H1 _ ⟨v, _, s1, _⟩
      exact SqL.of (s1 _ _ h.hl)
    · rintro i x σ H1 hx ⟨v, rfl, s1, d1⟩
      rw [List.getElem?_map] at hx
      obtain ⟨u, eu, rfl⟩ := Option.map_eq_some_iff.mp hx
      have hil : i < g.net.length := by rw [← h.lt.1]; exact (List.getElem?_eq_some_iff.mp eu).1
      have el : g.net[i]? = some g.net[i] := List.getElem?_eq_getElem hil
      obtain ⟨dl, lp, _, _, hu, hup⟩ := (h.lt.2 i u _ eu el).same s1
      refine ⟨_, rfl, .inl ⟨rfl, _, SqL.of d1⟩, ?_⟩
      refine ⟨_, rfl, u, CL, dl, _, _, rfl, hu, TM.clL, TM.lSe, lF_sender, _, rfl, u, CL, dl, _, _, rfl, hu, TM.clL, TM.lRe, lF_receiver, _, rfl, u, CL, dl, _, _, rfl, hu, TM.clL, TM.lFi, lF_first, ?_⟩
      refine ⟨_, rfl, u, CL, dl, _, _, rfl, hu, TM.clL, TM.lPr, lF_pressed, lp, _, rfl, .inl (SqL.of hup), _, rfl, u, CL, dl, _, _, rfl, hu, TM.clL, TM.lTo, lF_told, (by show 5 ≤ sizeLine; decide), fun b hb => ?_⟩
      have nlb : l ≠ b := ne_of_none d1 hb
      refine ⟨l, b, _, _, rfl, rfl, (upd_ne nlb).trans d1, upd_same, ?_, ?_⟩
      · rw [List.length_map, List.length_cons, row5_len, List.length_take]
        show 5 * min i g.net.length + 1 + 5 ≤ sizeLine
        exact small_size (by omega)
      · refine ⟨_, rfl, Same.own (Same.new s1 hb) hl, ?_⟩
        rw [upd_same, take_more el, List.flatMap_append, List.length_map, List.map_cons, List.map_cons, List.map_append]
        rfl
    · rintro σ H1 ⟨v, rfl, s1, d1⟩
      rw [List.length_map, h.lt.1, List.take_length] at d1
      refine ⟨_, rfl, q.same hg rfl s1 hl ?_⟩
      rw [d1, ints_nV]
      rfl
/-! ### how many are sure everywhere -/
theorem foldl_sure_le : ∀ (l : List Ge14.Machine) (b : Nat), l.foldl (fun a x => min a (Ge14.sure x)) b ≤ b ∧ ∀ x ∈ l, l.foldl (fun a x => min a (Ge14.sure x)) b ≤ Ge14.sure x
  | [], b => ⟨Nat.le_refl _, fun x h => nomatch h⟩
  | y :: l, b => by
    obtain ⟨h1, h2⟩ := foldl_sure_le l (min b (Ge14.sure y))
    refine ⟨Nat.le_trans h1 (Nat.min_le_left _ _), fun x hx => ?_⟩
    rcases List.mem_cons.mp hx with rfl | hx
    · exact Nat.le_trans h1 (Nat.min_le_right _ _)
    · exact h2 x hx
theorem foldl_sure_mem : ∀ (l : List Ge14.Machine) (b : Nat), l.foldl (fun a x => min a (Ge14.sure x)) b = b ∨ ∃ x ∈ l, l.foldl (fun a x => min a (Ge14.sure x)) b = Ge14.sure x
  | [], b => .inl rfl
  | y :: l, b => by
    rcases foldl_sure_mem l (min b (Ge14.sure y)) with h | ⟨x, hx, h⟩
    · rw [List.foldl_cons, h]
      rcases Nat.le_total b (Ge14.sure y) with c | c
      · exact .inl (Nat.min_eq_left c)
      · exact .inr ⟨y, List.mem_cons_self, Nat.min_eq_right c⟩
    · exact .inr ⟨x, List.mem_cons_of_mem _ hx, h⟩
theorem allSure_le {g : Ge14.House} {x : Ge14.Machine} (h : x ∈ g.machines) : Ge14.allSure g ≤ Ge14.sure x := by
  unfold Ge14.allSure
  split
  · exact Nat.zero_le _
  · rename_i k l e
    rw [e] at h
    rcases List.mem_cons.mp h with rfl | h
    · exact (foldl_sure_le l _).1
    · exact (foldl_sure_le l _).2 x h
theorem allSure_mem {g : Ge14.House} (h : 0 < g.machines.length) : ∃ x ∈ g.machines, Ge14.allSure g = Ge14.sure x := by
  unfold Ge14.allSure
  split
  · rename_i e
    rw [e] at h
    exact absurd h (by decide)
  · rename_i k l e
    rcases foldl_sure_mem l (Ge14.sure k) with q | ⟨x, hx, q⟩
    · exact ⟨k, by rw [e]; exact List.mem_cons_self, q⟩
    · exact ⟨x, by rw [e]; exact List.mem_cons_of_mem _ hx, q⟩
theorem scGSureE : FnScope ["self", "machine"] ["self"] (defScope sGSureE) := ⟨rfl, rfl, rfl, by decide +kernel, rfl, by decide +kernel, by decide +kernel⟩
theorem ok_gSureE {f : Addr} {fd : FuncData} (F : Fun K "sure_everywhere" "Game.sure_everywhere" sGSureE f fd) (T : TxtG K mg CG) (TM : TxtM K mg CL CM) (GS : MethOk P w K mg base CM "sure" 1 ["self"] (spMSure CM)) :
    FnOk P w K mg base CX0 2 f fd ["self"] (spGSureE CG CM CL) := by
  obtain ⟨fS, fdS, mS, GS, bS⟩ := GS
  refine F.ok scGSureE (fun vs H Q E h => ?_) (fun cdv A outer s H vs Q E hr h => ?_)
  · obtain ⟨O, a, g, rfl, _⟩ := h
    rfl
  · obtain ⟨O, a, g, rfl, hg, gok, q⟩ := h
    obtain ⟨dx, lm, ll, ms, ls, own, h⟩ := id hg
    have hml := gok.ml
    have n1 := gok.n1
    have n4 := gok.n4
    refine ⟨_, pss_one (ps_ret (pe_callB (cr_min rfl) (by rfl) TM.min (by decide +kernel) (pa_cons (pe_lc (own := [("machine", 1)]) (g := gName 1) (tt := tYes) (te := tMeth CM "sure" (spMSure CM) [] E0 (tVar 1) tNil) rfl scGSureE.nd (pi_list (pe_fld (pv 0) rfl)) (blkOk_by (own := [("machine", 1)]) (N := ["self", "machine"]) (sc := defScope sGSureE) (by decide +kernel))
      (fun _ _ _ _ _ => pg_name (i := 1) scGSureE.nd rfl (Or.inl rfl)) (fun _ _ _ _ _ => pts_nil) (fun _ _ _ _ _ => pe_meth0 (pv 1) TM.cl mS GS hr bS .nil pass0)) pa_nil))), ?_⟩
    refine ⟨_, rfl, a, CG, dx, _, _, rfl, h.ha, T.cl, T.nMa, gF_machines, lm, rfl, ⟨_, SqL.of h.hm⟩, fun D hD => ?_⟩
    refine lc_list (K := K) (a := lm) (xs := ms.map V.ref) (fun i H1 => Same H H1 ∧ H1 D = some (.lst (((g.machines.take i).map fun m => (Ge14.sure m : Int)).map V.int))) ?_ ?_ ?_ ?_
    · exact ⟨same_new hD, upd_same⟩
    · rintro i H1 _ ⟨s1, _⟩
      exact SqL.of (s1 _ _ h.hm)
    · rintro i y H1 hy ⟨s1, d1⟩
      rw [List.getElem?_map] at hy
      obtain ⟨x, ex, rfl⟩ := Option.map_eq_some_iff.mp hy
      have hil : i < g.machines.length := by rw [← h.mm.1]; exact (List.getElem?_eq_some_iff.mp ex).1
      have em : g.machines[i]? = some g.machines[i] := List.getElem?_eq_getElem hil
      have mok := gok.mo i _ em
      have hx := (h.mm.2 i x _ ex em).same s1
      obtain ⟨dm, lk, lt, ks, hmx⟩ := id hx
      refine ⟨rfl, yes_of ?_⟩
      refine ⟨_, rfl, x, dm, _, rfl, hmx.ha, mF_no (by decide +kernel) (by decide +kernel) (by decide +kernel) (by decide +kernel) (by decide +kernel), _, x, i, g.seed, _, rfl, hx, by rw [mok.kl]; omega, by rw [mok.kl]; exact n4, fun H2 s2 => ?_⟩
      refine ⟨_, s2 _ _ d1, ?_, Same.own (s1.trans s2) hD, ?_⟩
      · rw [List.length_map, List.length_map, List.length_take]
        exact small1000 (by omega)
      · rw [upd_same, take_more em, List.map_append, List.map_append]
        rfl
    · rintro H1 ⟨s1, d1⟩
      rw [List.length_map, h.mm.1, List.take_length] at d1
      refine ⟨D, g.machines.map fun m => (Ge14.sure m : Int), rfl, SqL.of d1, by rw [List.length_map]; omega, fun mm hm hle => ?_⟩
      have e : mm = (Ge14.allSure g : Int) := by
        obtain ⟨x, hx, ex⟩ := List.mem_map.mp hm
        obtain ⟨y, hy, ey⟩ := allSure_mem (g := g) (by omega)
        have h1 := allSure_le hx
        have h2 := hle _ (List.mem_map.mpr ⟨y, hy, rfl⟩)
        omega
      rw [e]
      exact q _ s1
/-! ### agree -/
theorem scGAgree : FnScope ["self", "ticks", "machine"] ["self"] (defScope sGAgree) := ⟨rfl, rfl, rfl, by decide +kernel, rfl, by decide +kernel, by decide +kernel⟩
theorem ok_gAgree {f : Addr} {fd : FuncData} (F : Fun K "agree" "Game.agree" sGAgree f fd) (T : TxtG K mg CG) (TM : TxtM K mg CL CM) (TW : TxtW K mg CW) (GE : MethOk P w K mg base CG "sure_everywhere" 2 ["self"] (spGSureE CG CM CL))
    (GW : MethOk P w K mg base CM "world_behind" 5 ["self", "ticks"] (spMWorld CM CW)) (GX : MethOk P w K mg base CW "world_sum" 2 ["self"] (spWSum CW)) :
    FnOk P w K mg base CX0 6 f fd ["self"] (spG0 CG CM CL .agree) := by
  obtain ⟨fE, fdE, mE, GE, bE⟩ := GE
  obtain ⟨fW, fdW, mW, GW, bW⟩ := GW
  obtain ⟨fX, fdX, mX, GX, bX⟩ := GX
  refine F.ok scGAgree (fun vs H Q E h => ?_) (fun cdv A outer s H vs Q E hr h => ?_)
  · obtain ⟨O, a, g, rfl, _⟩ := h
    rfl
  · obtain ⟨O, a, g, rfl, hg, gok, q⟩ := h
    obtain ⟨dx, lm, ll, ms, ls, own, h⟩ := id hg
    have hml := gok.ml
    have n1 := gok.n1
    have n4 := gok.n4
    have hr2 : Room 2 _ := hr.mono (by decide)
    have t60 : Ge14.allSure g ≤ 60 := by
      obtain ⟨m, em, mok⟩ := mach_at gok (i := 0) (by omega)
      have h1 := allSure_le (List.mem_of_getElem? em)
      have h2 := sure_now mok
      have h3 := now_le mok
      omega
    refine ⟨_, pss_cons (ps_set (i := 1) scGAgree.nd rfl (.inr rfl) (pe_meth0 (pv 0) T.cl mE GE hr2 bE .nil pass0))
      (pss_one (ps_ret (pe_op op_cat (pe_lst (pa_cons (pv 1) pa_nil)) (pe_lc (own := [("machine", 2)]) (g := gName 2) (tt := tYes) (te := tMeth CW "world_sum" (spWSum CW) [] E0 (tMeth CM "world_behind" (spMWorld CM CW) [] E0 (tVar 2) (tCons (tVar 1) tNil)) tNil) rfl scGAgree.nd (pi_list (pe_fld (pv 0) rfl)) (blkOk_by (own := [("machine", 2)]) (N := ["self", "ticks", "machine"]) (sc := defScope sGAgree) (by decide +kernel))
        (fun _ _ _ _ _ => pg_name (i := 2) scGAgree.nd rfl (Or.inl rfl)) (fun _ _ _ _ _ => pts_nil) (fun _ _ _ _ _ => pe_meth0 (pe_meth (pv 2) TM.cl mW GW hr bW .nil pass0 (pa_cons (pv 1) pa_nil)) TW.cl mX GX hr2 bX .nil pass0))))), ?_⟩
    refine ⟨_, rfl, a, dx, _, rfl, h.ha, gF_no (by decide +kernel) (by decide +kernel) (by decide +kernel), O, a, g, rfl, hg, gok, fun H0 s0 => ?_⟩
    refine ⟨_, rfl, (by show 1 ≤ sizeLine; decide), fun l hl => ?_⟩
    have s1 := s0.trans (same_new (o := .lst [nV (Ge14.allSure g)]) hl)
    have hl1 : (upd H0 l (.lst [nV (Ge14.allSure g)])) l = some (.lst [nV (Ge14.allSure g)]) := upd_same
    refine ⟨_, rfl, a, CG, dx, _, _, rfl, s1 _ _ h.ha, T.cl, T.nMa, gF_machines, lm, rfl, ⟨_, SqL.of (s1 _ _ h.hm)⟩, fun D hD => ?_⟩
    refine lc_list (K := K) (a := lm) (xs := ms.map V.ref) (fun i H1 => Same (upd H0 l (.lst [nV (Ge14.allSure g)])) H1 ∧ H1 D = some (.lst (((g.machines.take i).map fun m => Ge14.sum (Ge14.worldAt g m (Ge14.allSure g))).map nV))) ?_ ?_ ?_ ?_
    · exact ⟨same_new hD, upd_same⟩
    · rintro i H1 _ ⟨s2, _⟩
      exact SqL.of (s2 _ _ (s1 _ _ h.hm))
    · rintro i y H1 hy ⟨s2, d1⟩
      rw [List.getElem?_map] at hy
      obtain ⟨x, ex, rfl⟩ := Option.map_eq_some_iff.mp hy
      have hil : i < g.machines.length := by rw [← h.mm.1]; exact (List.getElem?_eq_some_iff.mp ex).1
      have em : g.machines[i]? = some g.machines[i] := List.getElem?_eq_getElem hil
      have mok := gok.mo i _ em
      have hx := (h.mm.2 i x _ ex em).same (s1.trans s2)
      obtain ⟨dm, lk, lt, ks, hmx⟩ := id hx
      refine ⟨rfl, yes_of ?_⟩
      refine ⟨_, rfl, x, dm, _, rfl, hmx.ha, mF_no (by decide +kernel) (by decide +kernel) (by decide +kernel) (by decide +kernel) (by decide +kernel), _, rfl, _, x, i, g.seed, _, Ge14.allSure g, rfl, hx, by rw [mok.kl]; exact n4, by omega, mok.k4, fun H2 xw s3 w3 wok => ?_⟩
      rw [wAt_row mok.kl] at w3 wok
      obtain ⟨dw, lp, lq, tc, ts, o1, o2, o3, nn1, hw1, _⟩ := id w3
      refine ⟨xw, dw, _, rfl, hw1, wF_no (by decide +kernel) (by decide +kernel) (by decide +kernel) (by decide +kernel), _, xw, _, rfl, w3, wok.1, fun H3 s4 => ?_⟩
      refine ⟨_, s4 _ _ (s3 _ _ d1), ?_, Same.own ((s2.trans s3).trans s4) hD, ?_⟩
      · rw [List.length_map, List.length_map, List.length_take]
        exact small1000 (by omega)
      · rw [upd_same, take_more em, List.map_append, List.map_append]
        rfl
    · rintro H1 ⟨s2, d1⟩
      rw [List.length_map, h.mm.1, List.take_length] at d1
      refine ⟨l, D, _, _, rfl, rfl, s2 _ _ hl1, d1, ?_, fun p hp => ?_⟩
      · rw [List.length_map, List.length_map]
        show 1 + g.machines.length ≤ sizeLine
        exact small_size (by omega)
      · refine q.same hg rfl (Same.new (s1.trans s2) hp) ((s1.trans s2).free hp) ?_
        rw [upd_same, ints_nV]
        rfl
end
end Bn

namespace Bn
open PySem PySem.Spec PyProof.Rows L2
section
variable {P : Program} {w : World} {K : PySem.W.Frag} {mg : Str → Option Value} {base : Heap} {CW CL CM CG : Addr}
/-! ### twice, lose -/
theorem net_none {g : Ge14.House} {i : Nat} (h : ¬ i < g.net.length) : g.net[i]? = none := List.getElem?_eq_none (by omega)
theorem twice_none {g : Ge14.House} {i : Nat} (h : g.net[i]? = none) : Ge14.step g (.twice i) = (g, [-2]) := by
  simp only [Ge14.step, h]
theorem twice_full {g : Ge14.House} {i : Nat} {l : Ge14.Letter} (h : g.net[i]? = some l) (hf : 40 ≤ g.net.length) : Ge14.step g (.twice i) = (g, [-5]) := by
  simp only [Ge14.step, h, hf, if_true]
theorem twice_some {g : Ge14.House} {i : Nat} {l : Ge14.Letter} (h : g.net[i]? = some l) (hf : ¬ 40 ≤ g.net.length) : Ge14.step g (.twice i) = ({ g with net := g.net ++ [l] }, Ge14.ints [g.net.length + 1]) := by
  simp only [Ge14.step, h, hf, if_false]
theorem scGTwice : FnScope ["self", "letter"] ["self", "letter"] (defScope sGTwice) := ⟨rfl, rfl, rfl, by decide +kernel, rfl, by decide +kernel, by decide +kernel⟩
theorem ok_gTwice {f : Addr} {fd : FuncData} (F : Fun K "twice" "Game.twice" sGTwice f fd) (T : TxtG K mg CG) (TM : TxtM K mg CL CM) (GH : MethOk P w K mg base CG "has_letter" 1 ["self", "letter"] (spGHasL CG CM CL)) :
    FnOk P w K mg base CX0 2 f fd ["self", "letter"] (spG1 CG CM CL .twice) := by
  obtain ⟨fH, fdH, mH, GH, bH⟩ := GH
  obtain ⟨tL, mL⟩ := T.mL
  refine F.ok scGTwice (fun vs H Q E h => ?_) (fun cdv A outer s H vs Q E hr h => ?_)
  · obtain ⟨O, a, g, i, rfl, _⟩ := h
    rfl
  · obtain ⟨O, a, g, i, rfl, _, hg, gok, q⟩ := h
    obtain ⟨dx, lm, ll, ms, ls, own, h⟩ := id hg
    refine ⟨_, pss_cons (ps_if (pt_not (pt_val (pe_meth (pv 0) T.cl mH GH hr bH .nil pass0 (pa_cons (pv 1) pa_nil)))) (pss_one (ps_ret (pe_lst (pa_cons (pe_un un_neg pe_int) pa_nil)))) pss_nil)
      (pss_cons (ps_if (pt_cmpR op_ge (pe_callB call_len_seq (by rfl) TM.len PySem.boot_len (pa_cons (pe_fld (pv 0) rfl) pa_nil)) (pe_glob (v := .int 40) rfl mL ⟨_, rfl⟩) (nomark _)) (pss_one (ps_ret (pe_lst (pa_cons (pe_un un_neg pe_int) pa_nil)))) pss_nil)
      (pss_cons (ps_expr (pe_bm PySem.F.plainAttrs_list PySem.F.slot_list_append PySem.F.type_list_append mt_append (pe_fld (pv 0) rfl) (pa_cons (pe_ix ix_list (pe_fld (pv 0) rfl) (pv 1) (fun _ _ => rfl)) pa_nil)))
      (pss_one (ps_ret (pe_lst (pa_cons (pe_callB call_len_seq (by rfl) TM.len PySem.boot_len (pa_cons (pe_fld (pv 0) rfl) pa_nil)) pa_nil)))))), ?_⟩
    refine ⟨_, rfl, a, dx, _, rfl, h.ha, gF_no (by decide +kernel) (by decide +kernel) (by decide +kernel), _, rfl, O, a, g, i, rfl, hg, _, rfl, ?_⟩
    by_cases c : i < g.net.length
    · rw [decide_eq_true c]
      refine iteF ?_
      obtain ⟨l, el⟩ : ∃ l, g.net[i]? = some l := ⟨_, List.getElem?_eq_getElem c⟩
      obtain ⟨x, ex, hx⟩ := h.letter el
      refine ⟨_, rfl, a, CG, dx, _, _, rfl, h.ha, T.cl, T.nLe, gF_letters, ll, _, rfl, .inl (SqL.of h.hl), _, _, rfl, rfl, _, rfl, ?_⟩
      rw [List.length_map, h.lt.1]
      refine ite2 (fun d => ?_) (fun d => ?_)
      · have d : (40 : Int) ≤ (g.net.length : Int) := of_decide_eq_true d
        refine ⟨_, rfl, (by show 1 ≤ sizeLine; decide), fun p hp => ?_⟩
        exact q.same hg (twice_full el (by omega)) (same_new hp) hp upd_same
      · have d : ¬ (40 : Int) ≤ (g.net.length : Int) := fun z => d (decide_eq_true z)
        have d' : ¬ 40 ≤ g.net.length := by omega
        refine ⟨_, rfl, a, CG, dx, _, _, rfl, h.ha, T.cl, T.nLe, gF_letters, .inl ⟨rfl, _, SqL.of h.hl⟩, _, rfl, a, CG, dx, _, _, rfl, h.ha, T.cl, T.nLe, gF_letters, _, rfl, ll, _, _, .ref x, rfl, rfl, SqL.of h.hl, atI_nat (by rw [List.getElem?_map, ex]; rfl), ll, _, _, rfl, rfl, h.hl, ?_, ?_⟩
        · rw [List.length_map, h.lt.1]
          exact small1000 (by omega)
        have e1 : ls.map V.ref ++ [V.ref x] = (ls ++ [x]).map V.ref := by rw [List.map_append]; rfl
        rw [e1]
        have hl' : LettersAt CL O own H (ls ++ [x]) (g.net ++ [l]) := by
          refine ⟨by rw [List.length_append, List.length_append, h.lt.1]; rfl, fun j y k e1 e2 => ?_⟩
          by_cases hj : j < ls.length
          · rw [List.getElem?_append_left hj] at e1
            rw [List.getElem?_append_left (by rw [← h.lt.1]; exact hj)] at e2
            exact h.lt.2 j y k e1 e2
          · rw [List.getElem?_append_right (by omega)] at e1
            rw [List.getElem?_append_right (by rw [← h.lt.1]; omega), ← h.lt.1] at e2
            have hz : j - ls.length = 0 := by
              have := (List.getElem?_eq_some_iff.mp e1).1
              simp at this
              omega
            rw [hz] at e1 e2
            cases e1
            cases e2
            exact hx
        have h2 := h.setLetters hl'
        refine ⟨_, rfl, a, CG, dx, _, _, rfl, h2.ha, T.cl, T.nLe, gF_letters, ll, _, rfl, .inl (SqL.of h2.hl), (by show 1 ≤ sizeLine; decide), fun p hp => ?_⟩
        have r := q.fin (twice_some el d') ((Keeps.refl _ _).upd (.inl h.ol.1)) ⟨dx, lm, ll, ms, _, own, h2.mono fun _ z => Or.l z⟩ hp
        rw [ints_nV] at r
        rw [List.length_map, List.length_append, h.lt.1]
        exact r
    · rw [decide_eq_false c]
      refine iteT ?_
      refine ⟨_, rfl, (by show 1 ≤ sizeLine; decide), fun p hp => ?_⟩
      exact q.same hg (twice_none (net_none c)) (same_new hp) hp upd_same
theorem lose_none {g : Ge14.House} {i : Nat} (h : ¬ i < g.net.length) : Ge14.step g (.lose i) = (g, [-2]) := by
  have h' : g.net.length ≤ i := by omega
  simp only [Ge14.step, h', if_true]
theorem lose_some {g : Ge14.House} {i : Nat} (h : i < g.net.length) : Ge14.step g (.lose i) = ({ g with net := g.net.eraseIdx i }, Ge14.ints [g.net.length - 1]) := by
  have h' : ¬ g.net.length ≤ i := by omega
  simp only [Ge14.step, h', if_false]
theorem LettersAt.erase {O : Addr → Prop} {own : Addr → Nat} {H : Hp} {ls : List Addr} {net : List Ge14.Letter} (h : LettersAt CL O own H ls net) (i : Nat) : LettersAt CL O own H (ls.eraseIdx i) (net.eraseIdx i) := by
  refine ⟨by rw [List.length_eraseIdx, List.length_eraseIdx, h.1], fun j y k e1 e2 => ?_⟩
  rw [List.getElem?_eraseIdx] at e1 e2
  split at e1
  · rename_i c
    rw [if_pos c] at e2
    exact h.2 j y k e1 e2
  · rename_i c
    rw [if_neg c] at e2
    exact h.2 (j + 1) y k e1 e2
theorem seqIx {i n : Nat} (h : i < n) : seqIndex? (i : Int) n = some i := by
  unfold seqIndex?
  have h1 : ¬ (i : Int) < 0 := by omega
  simp only [h1, if_false]
  have h2 : (decide ((0 : Int) ≤ (i : Int)) && decide ((i : Int) < (n : Int))) = true := by
    rw [Bool.and_eq_true, decide_eq_true_eq, decide_eq_true_eq]
    omega
  rw [if_pos h2, Int.toNat_natCast]
theorem map_erase (ls : List Addr) (i : Nat) : (ls.map V.ref).eraseIdx i = (ls.eraseIdx i).map V.ref := by
  apply List.ext_getElem?
  intro j
  rw [List.getElem?_map, List.getElem?_eraseIdx, List.getElem?_eraseIdx, List.getElem?_map, List.getElem?_map]
  split <;> rfl
theorem scGLose : FnScope ["self", "letter"] ["self", "letter"] (defScope sGLose) := ⟨rfl, rfl, rfl, by decide +kernel, rfl, by decide +kernel, by decide +kernel⟩
theorem ok_gLose {f : Addr} {fd : FuncData} (F : Fun K "lose" "Game.lose" sGLose f fd) (T : TxtG K mg CG) (TM : TxtM K mg CL CM) (GH : MethOk P w K mg base CG "has_letter" 1 ["self", "letter"] (spGHasL CG CM CL)) :
    FnOk P w K mg base CX0 2 f fd ["self", "letter"] (spG1 CG CM CL .lose) := by
  obtain ⟨fH, fdH, mH, GH, bH⟩ := GH
  refine F.ok scGLose (fun vs H Q E h => ?_) (fun cdv A outer s H vs Q E hr h => ?_)
  · obtain ⟨O, a, g, i, rfl, _⟩ := h
    rfl
  · obtain ⟨O, a, g, i, rfl, i32, hg, gok, q⟩ := h
    obtain ⟨dx, lm, ll, ms, ls, own, h⟩ := id hg
    refine ⟨_, pss_cons (ps_if (pt_not (pt_val (pe_meth (pv 0) T.cl mH GH hr bH .nil pass0 (pa_cons (pv 1) pa_nil)))) (pss_one (ps_ret (pe_lst (pa_cons (pe_un un_neg pe_int) pa_nil)))) pss_nil)
      (pss_cons (ps_expr (pe_bm PySem.F.plainAttrs_list PySem.F.slot_list_pop PySem.F.type_list_pop mt_popAt (pe_fld (pv 0) rfl) (pa_cons (pv 1) pa_nil)))
      (pss_one (ps_ret (pe_lst (pa_cons (pe_callB call_len_seq (by rfl) TM.len PySem.boot_len (pa_cons (pe_fld (pv 0) rfl) pa_nil)) pa_nil))))), ?_⟩
    refine ⟨_, rfl, a, dx, _, rfl, h.ha, gF_no (by decide +kernel) (by decide +kernel) (by decide +kernel), _, rfl, O, a, g, i, rfl, hg, _, rfl, ?_⟩
    by_cases c : i < g.net.length
    · rw [decide_eq_true c]
      refine iteF ?_
      obtain ⟨l, el⟩ : ∃ l, g.net[i]? = some l := ⟨_, List.getElem?_eq_getElem c⟩
      obtain ⟨x, ex, hx⟩ := h.letter el
      refine ⟨_, rfl, a, CG, dx, _, _, rfl, h.ha, T.cl, T.nLe, gF_letters, .inl ⟨rfl, _, SqL.of h.hl⟩, _, rfl, ll, _, (i : Int), i, .ref x, rfl, rfl, h.hl, by omega, by omega, seqIx (by rw [List.length_map, h.lt.1]; exact c), by rw [List.getElem?_map, ex]; rfl, ?_⟩
      rw [map_erase]
      have h2 := h.setLetters (h.lt.erase i)
      refine ⟨_, rfl, a, CG, dx, _, _, rfl, h2.ha, T.cl, T.nLe, gF_letters, ll, _, rfl, .inl (SqL.of h2.hl), (by show 1 ≤ sizeLine; decide), fun p hp => ?_⟩
      have r := q.fin (lose_some c) ((Keeps.refl _ _).upd (.inl h.ol.1)) ⟨dx, lm, ll, ms, _, own, h2.mono fun _ z => Or.l z⟩ hp
      rw [ints_nV] at r
      rw [List.length_map, List.length_eraseIdx, h.lt.1, if_pos c]
      exact r
    · rw [decide_eq_false c]
      refine iteT ?_
      refine ⟨_, rfl, (by show 1 ≤ sizeLine; decide), fun p hp => ?_⟩
      exact q.same hg (lose_none c) (same_new hp) hp upd_same
/-! ### arrive -/
theorem arrive_none {g : Ge14.House} {i : Nat} (h : g.net[i]? = none) : Ge14.step g (.arrive i) = (g, [-2]) := by
  simp only [Ge14.step, h]
theorem arrive_some {g : Ge14.House} {i : Nat} {l : Ge14.Letter} {m : Ge14.Machine} (h : g.net[i]? = some l) (hm : g.machines[l.to]? = some m) :
    Ge14.step g (.arrive i) = ({ g with machines := g.machines.set l.to (Ge14.comes g m l), net := g.net.eraseIdx i }, Ge14.ints [l.to, Ge14.sure (Ge14.comes g m l), (Ge14.comes g m l).again]) := by
  have e1 : Ge14.deliver g i true = { g with machines := g.machines.set l.to (Ge14.comes g m l), net := g.net.eraseIdx i } := by
    rw [deliver_eq h]
    unfold comesTo
    rw [hm]
  have e2 : (g.machines.set l.to (Ge14.comes g m l))[l.to]? = some (Ge14.comes g m l) := List.getElem?_set_self (List.getElem?_eq_some_iff.mp hm).1
  simp only [Ge14.step, h, e1, e2]
  rfl
theorem scGArrive : FnScope ["self", "letter", "coming", "receiver"] ["self", "letter"] (defScope sGArrive) := ⟨rfl, rfl, rfl, by decide +kernel, rfl, by decide +kernel, by decide +kernel⟩
theorem ok_gArrive {f : Addr} {fd : FuncData} (F : Fun K "arrive" "Game.arrive" sGArrive f fd) (T : TxtG K mg CG) (TM : TxtM K mg CL CM) (GH : MethOk P w K mg base CG "has_letter" 1 ["self", "letter"] (spGHasL CG CM CL))
    (GR : MethOk P w K mg base CM "receive" 3 ["self", "letter"] (spMReceive CM CL)) (GS : MethOk P w K mg base CM "sure" 1 ["self"] (spMSure CM)) :
    FnOk P w K mg base CX0 4 f fd ["self", "letter"] (spG1 CG CM CL .arrive) := by
  obtain ⟨fH, fdH, mH, GH, bH⟩ := GH
  obtain ⟨fR, fdR, mR, GR, bR⟩ := GR
  obtain ⟨fS, fdS, mS, GS, bS⟩ := GS
  refine F.ok scGArrive (fun vs H Q E h => ?_) (fun cdv A outer s H vs Q E hr h => ?_)
  · obtain ⟨O, a, g, i, rfl, _⟩ := h
    rfl
  · obtain ⟨O, a, g, i, rfl, i32, hg, gok, q⟩ := h
    obtain ⟨dx, lm, ll, ms, ls, own, h⟩ := id hg
    have hr1 : Room 1 _ := hr.mono (by decide)
    refine ⟨_, pss_cons (ps_if (pt_not (pt_val (pe_meth (pv 0) T.cl mH GH hr1 bH .nil pass0 (pa_cons (pv 1) pa_nil)))) (pss_one (ps_ret (pe_lst (pa_cons (pe_un un_neg pe_int) pa_nil)))) pss_nil)
      (pss_cons (ps_set (i := 2) scGArrive.nd rfl (.inl rfl) (pe_bm PySem.F.plainAttrs_list PySem.F.slot_list_pop PySem.F.type_list_pop mt_popAt (pe_fld (pv 0) rfl) (pa_cons (pv 1) pa_nil)))
      (pss_cons (ps_set (i := 3) scGArrive.nd rfl (.inl rfl) (pe_ix ix_list (pe_fld (pv 0) rfl) (pe_fld (pv 2) rfl) (fun _ _ => rfl)))
      (pss_cons (ps_expr (pe_meth (pv 3) TM.cl mR GR hr bR .nil pass0 (pa_cons (pv 2) pa_nil)))
      (pss_one (ps_ret (pe_lst (pa_cons (pe_fld (pv 3) rfl) (pa_cons (pe_meth0 (pv 3) TM.cl mS GS hr1 bS .nil pass0) (pa_cons (pe_fld (pv 3) rfl) pa_nil))))))))), ?_⟩
    refine ⟨_, rfl, a, dx, _, rfl, h.ha, gF_no (by decide +kernel) (by decide +kernel) (by decide +kernel), _, rfl, O, a, g, i, rfl, hg, _, rfl, ?_⟩
    by_cases c : i < g.net.length
    · rw [decide_eq_true c]
      refine iteF ?_
      obtain ⟨l, el⟩ : ∃ l, g.net[i]? = some l := ⟨_, List.getElem?_eq_getElem c⟩
      have lok := gok.lo l (List.mem_of_getElem? el)
      obtain ⟨m, em, mok⟩ := mach_at gok lok.t
      obtain ⟨x, ex, hx⟩ := h.letter el
      obtain ⟨y, ey, hy⟩ := h.mach em
      refine ⟨_, rfl, a, CG, dx, _, _, rfl, h.ha, T.cl, T.nLe, gF_letters, .inl ⟨rfl, _, SqL.of h.hl⟩, _, rfl, ll, _, (i : Int), i, .ref x, rfl, rfl, h.hl, by omega, by omega, seqIx (by rw [List.length_map, h.lt.1]; exact c), by rw [List.getElem?_map, ex]; rfl, ?_⟩
      rw [map_erase]
      have h2 := h.setLetters (h.lt.erase i)
      have kll : Keeps (fun z => z = ll) H (upd H ll (.lst ((ls.eraseIdx i).map V.ref))) := (Keeps.refl _ _).upd (.inl rfl)
      have hx2 : LetterIn CL (fun z => O z ∧ own z = 0) (upd H ll (.lst ((ls.eraseIdx i).map V.ref))) x l := hx.keeps kll fun z hz q => by
        have q : z = ll := q
        subst q
        have := h.ol.2
        omega
      obtain ⟨dl, lp, _, _, hxa, hxp⟩ := id hx2
      refine ⟨_, rfl, a, CG, dx, _, _, rfl, h2.ha, T.cl, T.nMa, gF_machines, _, rfl, x, CL, dl, _, _, rfl, hxa, TM.clL, TM.lRe, lF_receiver, lm, _, _, .ref y, rfl, rfl, SqL.of h2.hm, atI_nat (by rw [List.getElem?_map, ey]; rfl), ?_⟩
      have hy2 := h2.mm.2 l.to y m ey em
      obtain ⟨dm, lk, lt, ks, hmy⟩ := id hy2
      refine ⟨_, rfl, y, dm, _, rfl, hmy.ha, mF_no (by decide +kernel) (by decide +kernel) (by decide +kernel) (by decide +kernel) (by decide +kernel), _, rfl, _, _, y, x, l.to, g.seed, m, l, g, rfl, hy2, hx2, ?_, mok, lok, lok.ne, fun H3 k3 hy3 => ?_⟩
      · intro z h1 h2
        have e1 := h1.2
        have e2 := h2.2
        omega
      have h3 := h2.setMach ey k3 hy3
      have cok := comes_ok mok lok lok.ne
      obtain ⟨dm3, lk3, lt3, ks3, hmy3⟩ := id hy3
      refine ⟨_, rfl, y, CM, dm3, _, _, rfl, hmy3.ha, TM.cl, TM.nNu, mF_number, ?_⟩
      refine ⟨_, rfl, y, dm3, _, rfl, hmy3.ha, mF_no (by decide +kernel) (by decide +kernel) (by decide +kernel) (by decide +kernel) (by decide +kernel), _, y, l.to, g.seed, _, rfl, hy3, by rw [cok.kl]; exact gok.n1, by rw [cok.kl]; exact gok.n4, fun H4 s4 => ?_⟩
      obtain ⟨dm4, lk4, lt4, ks4, hmy4⟩ := hy3.same s4
      refine ⟨_, rfl, y, CM, dm4, _, _, rfl, hmy4.ha, TM.cl, TM.nAg, mF_again, (by show 3 ≤ sizeLine; decide), fun p hp => ?_⟩
      have kA : Keeps O H H3 := fun b o e n => k3 b o ((Keeps.upd (Keeps.refl O H) (.inl h.ol.1)) b o e n) fun z => n z.1
      have kB : Keeps O H H4 := kA.same s4
      have r := q.fin (arrive_some el em) kB ⟨dx, lm, ll, ms, _, own, (h3.same s4).mono fun _ z => Or.l z⟩ hp
      rw [ints_nV] at r
      exact r
    · rw [decide_eq_false c]
      refine iteT ?_
      refine ⟨_, rfl, (by show 1 ≤ sizeLine; decide), fun p hp => ?_⟩
      exact q.same hg (arrive_none (net_none c)) (same_new hp) hp upd_same
end
end Bn

namespace Bn
open PySem PySem.Spec PyProof.Rows L2
section
variable {P : Program} {w : World} {K : PySem.W.Frag} {mg : Str → Option Value} {base : Heap} {CW CL CM CG : Addr}
/-! ### the letters that a machine writes -/
def others (n i : Nat) : List Nat := (List.range n).filter fun j => j != i
theorem others_more {n i : Nat} : others (n + 1) i = others n i ++ if n = i then [] else [n] := by
  unfold others
  rw [List.range_succ, List.filter_append]
  congr 1
  by_cases c : n = i
  · subst c
    simp
  · simp [c]
theorem others_len (n i : Nat) : (others n i).length ≤ n := by
  have := List.length_filter_le (fun j => j != i) (List.range n)
  rw [List.length_range] at this
  exact this
theorem lettersOf_eq {g : Ge14.House} {i : Nat} {m : Ge14.Machine} (e : g.machines[i]? = some m) : Ge14.lettersOf g i = (others g.n i).map (Ge14.letterFor m i) := by
  unfold Ge14.lettersOf
  rw [e]
  rfl
theorem lettersOf_len (g : Ge14.House) (i : Nat) : (Ge14.lettersOf g i).length ≤ g.n := by
  cases e : g.machines[i]? with
  | none =>
    unfold Ge14.lettersOf
    rw [e]
    exact Nat.zero_le _
  | some m =>
    rw [lettersOf_eq e, List.length_map]
    exact others_len _ _
theorem scGLettersOf : FnScope ["self", "machine", "others", "other"] ["self", "machine"] (defScope sGLettersOf) := ⟨rfl, rfl, rfl, by decide +kernel, rfl, by decide +kernel, by decide +kernel⟩
theorem ok_gLettersOf {f : Addr} {fd : FuncData} (F : Fun K "letters_of" "Game.letters_of" sGLettersOf f fd) (T : TxtG K mg CG) (TM : TxtM K mg CL CM) (GL : MethOk P w K mg base CM "letter_to" 3 ["self", "receiver"] (spMLetter CM CL)) :
    FnOk P w K mg base CX0 4 f fd ["self", "machine"] (spGLettersOf CG CM CL) := by
  obtain ⟨fL, fdL, mL, GL, bL⟩ := GL
  refine F.ok scGLettersOf (fun vs H Q E h => ?_) (fun cdv A outer s H vs Q E hr h => ?_)
  · obtain ⟨O, a, g, i, rfl, _⟩ := h
    rfl
  · obtain ⟨O, a, g, i, rfl, hg, gok, hi, q⟩ := h
    obtain ⟨dx, lm, ll, ms, ls, own, h⟩ := id hg
    have n4 := gok.n4
    have hml := gok.ml
    obtain ⟨m, em, mok⟩ := mach_at gok hi
    obtain ⟨x, ex, hx⟩ := h.mach em
    refine ⟨_, pss_cons (ps_setLc (i := 2) (own := [("other", 3)]) (g := gName 3) (tt := tTest (tOp rNe (tVar 3) (tVar 1))) (te := tVar 3) rfl scGLettersOf.nd rfl rfl (sw_true rfl rfl rfl (by decide +kernel)) (pi_range1 rfl TM.range (pa_cons (pe_callB call_len_seq (by rfl) TM.len PySem.boot_len (pa_cons (pe_fld (pv 0) rfl) pa_nil)) pa_nil)) (blkOk_by (own := [("other", 3)]) (N := ["self", "machine", "others", "other"]) (sc := defScope sGLettersOf) (by decide +kernel))
        (fun _ _ _ _ _ => pg_name (i := 3) scGLettersOf.nd rfl (Or.inl rfl)) (fun _ _ _ _ _ => pts_one (pt_cmpR op_ne (pv 3) (pv 1) (nomark _))) (fun _ _ _ _ _ => pv 3))
      (pss_one (ps_ret (pe_lc (own := [("other", 3)]) (g := gName 3) (tt := tYes) (te := tMeth CM "letter_to" (spMLetter CM CL) [] E0 (tOp (rIxL K) (tFld K (tVar 0) "machines") (tVar 1)) (tCons (tVar 3) tNil)) rfl scGLettersOf.nd (pi_list (pv 2)) (blkOk_by (own := [("other", 3)]) (N := ["self", "machine", "others", "other"]) (sc := defScope sGLettersOf) (by decide +kernel))
        (fun _ _ _ _ _ => pg_name (i := 3) scGLettersOf.nd rfl (Or.inl rfl)) (fun _ _ _ _ _ => pts_nil) (fun _ _ _ _ _ => pe_meth (pe_ix ix_list (pe_fld (pv 0) rfl) (pv 1) (fun _ _ => rfl)) TM.cl mL GL hr bL .nil pass0 (pa_cons (pv 3) pa_nil))))), ?_⟩
    refine ⟨_, rfl, a, CG, dx, _, _, rfl, h.ha, T.cl, T.nMa, gF_machines, lm, _, rfl, .inl (SqL.of h.hm), _, rfl, by rw [List.length_map, h.mm.1]; omega, by rw [List.length_map, h.mm.1]; omega, fun D hD => ?_⟩
    rw [List.length_map, h.mm.1, hml]
    refine lc_range (lo := 0) (n := ((g.n : Int)).toNat) (fun j H1 => Same H H1 ∧ H1 D = some (.lst ((others j i).map nV))) ?_ ?_ ?_
    · exact ⟨same_new hD, upd_same⟩
    · rintro j H1 hj ⟨s1, d1⟩
      rw [Int.toNat_natCast] at hj
      have z1 : (0 : Int) + (j : Int) = (j : Int) := Int.zero_add _
      rw [z1]
      have hl := others_len j i
      refine ⟨rfl, _, rfl, _, rfl, rfl, _, rfl, ?_⟩
      by_cases c : j = i
      · subst c
        rw [decide_eq_true (p := V.int (j : Int) = nV j) rfl]
        refine iteF ⟨s1, ?_⟩
        rw [others_more, if_pos rfl, List.append_nil]
        exact d1
      · rw [decide_eq_false (p := V.int (j : Int) = nV i) (fun z => c (nV_inj z))]
        refine iteT ⟨_, rfl, _, d1, ?_, Same.own s1 hD, ?_⟩
        · rw [List.length_map]
          exact small1000 (by omega)
        · rw [upd_same, others_more, if_neg c, List.map_append]
          rfl
    · rintro H1 ⟨s1, d1⟩
      rw [Int.toNat_natCast] at d1
      refine ⟨_, rfl, D, rfl, ⟨_, SqL.of d1⟩, fun p hp => ?_⟩
      have hp0 : H p = none := s1.free hp
      refine lc_list (K := K) (a := D) (xs := (others g.n i).map nV) (fun j H2 => ∃ xs : List Addr, Same H1 H2 ∧ H2 p = some (.lst (xs.map V.ref)) ∧ xs.length = j ∧ ∀ (k : Nat) (x : Addr) (l : Ge14.Letter), xs[k]? = some x → (Ge14.lettersOf g i)[k]? = some l → LetterIn CL (fun z => H z = none ∧ z ≠ p) H2 x l) ?_ ?_ ?_ ?_
      · exact ⟨[], same_new hp, upd_same, rfl, fun k x l e => nomatch e⟩
      · rintro j H2 _ ⟨_, s2, _⟩
        exact SqL.of (s2 _ _ d1)
      · rintro j y H2 hy ⟨xs, s2, d2, l2, a2⟩
        rw [List.getElem?_map] at hy
        obtain ⟨o, eo, rfl⟩ := Option.map_eq_some_iff.mp hy
        have hjl : j < (others g.n i).length := (List.getElem?_eq_some_iff.mp eo).1
        have hol := others_len g.n i
        have ho : o < g.n := List.mem_range.mp (List.mem_filter.mp (List.mem_of_getElem? eo)).1
        have s12 := s1.trans s2
        have hx2 := hx.same s12
        obtain ⟨dm, lk, lt, ks, hmx⟩ := id hx2
        refine ⟨rfl, yes_of ?_⟩
        refine ⟨_, rfl, a, CG, dx, _, _, rfl, s12 _ _ h.ha, T.cl, T.nMa, gF_machines, _, rfl, lm, _, _, .ref x, rfl, rfl, SqL.of (s12 _ _ h.hm), atI_nat (by rw [List.getElem?_map, ex]; rfl), ?_⟩
        refine ⟨x, dm, _, rfl, hmx.ha, mF_no (by decide +kernel) (by decide +kernel) (by decide +kernel) (by decide +kernel) (by decide +kernel), _, rfl, _, x, i, g.seed, m, o, rfl, hx2, by rw [mok.kl]; exact hi, by rw [mok.kl]; exact ho, by rw [mok.kl, mok.tl], fun H3 u s3 hu => ?_⟩
        have d3 := s3 _ _ d2
        have k3 : Keeps (fun z => z = p) H3 (upd H3 p (.lst (xs.map V.ref ++ [V.ref u]))) := (Keeps.refl _ _).upd (.inl rfl)
        refine ⟨_, d3, ?_, xs ++ [u], Same.own (s2.trans s3) hp, ?_, by rw [List.length_append, l2]; rfl, fun k y l e1 e2 => ?_⟩
        · rw [List.length_map, l2]
          exact small1000 (by omega)
        · rw [upd_same, List.map_append]
          rfl
        · by_cases hk : k < xs.length
          · rw [List.getElem?_append_left hk] at e1
            exact ((a2 k y l e1 e2).same s3).keeps k3 fun z hz q => hz.2 q
          · rw [List.getElem?_append_right (by omega)] at e1
            have hz : k - xs.length = 0 := by
              have := (List.getElem?_eq_some_iff.mp e1).1
              simp at this
              omega
            rw [hz] at e1
            cases e1
            have ek : k = j := by omega
            subst ek
            rw [lettersOf_eq em, List.getElem?_map, eo] at e2
            cases e2
            refine LetterIn.keeps (hu.mono (O' := fun z => H z = none ∧ z ≠ p) fun z hz => ⟨s12.free hz, fun q => ?_⟩) k3 fun z hz q => hz.2 q
            have hz : H2 z = none := hz
            rw [q, d2] at hz
            cases hz
      · rintro H2 ⟨xs, s2, d2, l2, a2⟩
        rw [List.length_map] at l2
        refine q _ p xs (s1.trans s2) hp0 d2 ⟨?_, fun k x l e1 e2 => (a2 k x l e1 e2).mono fun z hz => hz.1⟩
        rw [l2, lettersOf_eq em, List.length_map]
/-! ### all that's on its way comes -/
theorem scGLetAll : FnScope ["self", "letter"] ["self"] (defScope sGLetAll) := ⟨rfl, rfl, rfl, by decide +kernel, rfl, by decide +kernel, by decide +kernel⟩
theorem allCome_more {g : Ge14.House} {ls : List Ge14.Letter} {i : Nat} {l : Ge14.Letter} (e : ls[i]? = some l) : allCome g (ls.take (i + 1)) = comesTo (allCome g (ls.take i)) l := by
  unfold allCome
  rw [take_more e, List.foldl_append]
  rfl
theorem ok_gLetAll {f : Addr} {fd : FuncData} (F : Fun K "let_all_come" "Game.let_all_come" sGLetAll f fd) (T : TxtG K mg CG) (TM : TxtM K mg CL CM) (GR : MethOk P w K mg base CM "receive" 3 ["self", "letter"] (spMReceive CM CL)) :
    FnOk P w K mg base CX0 4 f fd ["self"] (spGLetAll CG CM CL) := by
  obtain ⟨fR, fdR, mR, GR, bR⟩ := GR
  refine F.ok scGLetAll (fun vs H Q E h => ?_) (fun cdv A outer s H vs Q E hr h => ?_)
  · obtain ⟨O, a, g, rfl, _⟩ := h
    rfl
  · obtain ⟨O, a, g, rfl, hg, gok, q⟩ := h
    obtain ⟨dx, lm, ll, ms, ls, own, h⟩ := id hg
    refine ⟨_, pss_cons (ps_for PassesOwn.never rfl (pi_list (pe_fld (pv 0) rfl)) (pg_name (i := 1) scGLetAll.nd rfl (.inl rfl))
        (pss_one (ps_expr (pe_meth (pe_ix ix_list (pe_fld (pv 0) rfl) (pe_fld (pv 1) rfl) (fun _ _ => rfl)) TM.cl mR GR hr bR .nil pass0 (pa_cons (pv 1) pa_nil)))))
      (pss_one (ps_fld (pv 0) (pe_lst pa_nil) rfl)), ?_⟩
    refine ⟨_, rfl, a, CG, dx, _, _, rfl, h.ha, T.cl, T.nLe, gF_letters, ll, rfl, ⟨_, SqL.of h.hl⟩, ?_⟩
    refine for_list (K := K) (a := ll) (xs := ls.map V.ref) (fun i σ H1 => ∃ v, σ = [some (.ref a), v] ∧ Keeps O H H1 ∧ GameAt CG CM CL O H1 a (allCome g (g.net.take i)) dx lm ll ms ls own) ?_ ?_ ?_ ?_
    · exact ⟨none, rfl, Keeps.refl _ _, h⟩
    · rintro i σ H1 _ ⟨v, _, _, h1⟩
      exact SqL.of h1.hl
    · rintro i x σ H1 hx ⟨v, rfl, k1, h1⟩
      rw [List.getElem?_map] at hx
      obtain ⟨u, eu, rfl⟩ := Option.map_eq_some_iff.mp hx
      obtain ⟨en, es, ea, et⟩ := allCome_n (g.net.take i) g
      have hil : i < g.net.length := by rw [← h.lt.1]; exact (List.getElem?_eq_some_iff.mp eu).1
      obtain ⟨l, el⟩ : ∃ l, g.net[i]? = some l := ⟨_, List.getElem?_eq_getElem hil⟩
      have lok := gok.lo l (List.mem_of_getElem? el)
      have gok1 := allCome_ok (g.net.take i) g gok fun x hx => gok.lo x (List.mem_of_mem_take hx)
      have lok1 : LOk (allCome g (g.net.take i)).n l := by rw [en]; exact lok
      obtain ⟨m, em, mok⟩ := mach_at gok1 lok1.t
      obtain ⟨y, ey, hy⟩ := h1.mach em
      have hu := h1.lt.2 i u l eu (by rw [et]; exact el)
      obtain ⟨dl, lp, _, _, hua, hup⟩ := id hu
      obtain ⟨dm, lk, lt, ks, hmy⟩ := id hy
      refine ⟨_, rfl, a, CG, dx, _, _, rfl, h1.ha, T.cl, T.nMa, gF_machines, _, rfl, u, CL, dl, _, _, rfl, hua, TM.clL, TM.lRe, lF_receiver, lm, _, _, .ref y, rfl, rfl, SqL.of h1.hm, atI_nat (by rw [List.getElem?_map, ey]; rfl), ?_⟩
      refine ⟨y, dm, _, rfl, hmy.ha, mF_no (by decide +kernel) (by decide +kernel) (by decide +kernel) (by decide +kernel) (by decide +kernel), _, rfl, _, _, y, u, l.to, _, m, l, allCome g (g.net.take i), rfl, hy, hu, ?_, mok, lok1, lok1.ne, fun H2 k2 hy2 => ?_⟩
      · intro z h1 h2
        have e1 := h1.2
        have e2 := h2.2
        omega
      have h2 := h1.setMach ey k2 hy2
      refine ⟨_, rfl, fun b o e n => k2 _ _ (k1 b o e n) fun z => n z.1, ?_⟩
      rw [allCome_more el]
      unfold comesTo
      rw [em]
      exact h2
    · rintro σ H1 ⟨v, rfl, k1, h1⟩
      rw [List.length_map, h.lt.1, List.take_length] at h1
      refine ⟨Nat.zero_le _, fun b hb => ?_⟩
      have nab : a ≠ b := ne_of_none h1.ha hb
      refine ⟨_, rfl, a, CG, dx, _, rfl, (upd_ne nab).trans h1.ha, T.cl, T.nLe, (by show 3 < 1000; decide), ?_⟩
      rw [gF_put_letters]
      obtain ⟨own', h2⟩ := h1.clearLetters hb
      refine q _ ?_ ⟨dx, lm, b, ms, [], own', h2.mono fun z hz => ?_⟩
      · refine Keeps.upd (k1.same (same_new hb)) (.inl h.oa.1)
      · rcases hz with hz | hz
        · exact Or.l hz
        · exact Or.back k1 z (.inr hz)
end
end Bn

namespace Bn
open PySem PySem.Spec PyProof.Rows L2
section
variable {P : Program} {w : World} {K : PySem.W.Frag} {mg : Str → Option Value} {base : Heap} {CW CL CM CG : Addr}
/-! ### send -/
def rowL (x : Ge14.Letter) : List Nat := [x.to, x.start, x.keys.length]
theorem rowL_len : ∀ l : List Ge14.Letter, (l.flatMap rowL).length = 3 * l.length
  | [] => rfl
  | p :: l => by
    rw [List.flatMap_cons, List.length_append, rowL_len l, List.length_cons]
    show 3 + 3 * l.length = _
    omega
theorem send_none {g : Ge14.House} {i : Nat} (h : g.machines[i]? = none) : Ge14.step g (.send i) = (g, [-2]) := by
  simp only [Ge14.step, h]
theorem send_full {g : Ge14.House} {i : Nat} {m : Ge14.Machine} (h : g.machines[i]? = some m) (hf : 40 < g.net.length + (Ge14.lettersOf g i).length) : Ge14.step g (.send i) = (g, [-5]) := by
  simp only [Ge14.step, h, hf, if_true]
theorem send_some {g : Ge14.House} {i : Nat} {m : Ge14.Machine} (h : g.machines[i]? = some m) (hf : ¬ 40 < g.net.length + (Ge14.lettersOf g i).length) :
    Ge14.step g (.send i) = ({ g with net := g.net ++ Ge14.lettersOf g i }, Ge14.ints ((Ge14.lettersOf g i).length :: (Ge14.lettersOf g i).flatMap rowL)) := by
  simp only [Ge14.step, h, hf, if_false]
  rfl
theorem scGSend : FnScope ["self", "machine", "written", "answer", "letter"] ["self", "machine"] (defScope sGSend) := ⟨rfl, rfl, rfl, by decide +kernel, rfl, by decide +kernel, by decide +kernel⟩
theorem ok_gSend {f : Addr} {fd : FuncData} (F : Fun K "send" "Game.send" sGSend f fd) (T : TxtG K mg CG) (TM : TxtM K mg CL CM) (GH : MethOk P w K mg base CG "has_machine" 1 ["self", "machine"] (spGHasM CG CM CL))
    (GL : MethOk P w K mg base CG "letters_of" 4 ["self", "machine"] (spGLettersOf CG CM CL)) :
    FnOk P w K mg base CX0 5 f fd ["self", "machine"] (spG1 CG CM CL .send) := by
  obtain ⟨fH, fdH, mH, GH, bH⟩ := GH
  obtain ⟨fL, fdL, mL, GL, bL⟩ := GL
  obtain ⟨tM, mM⟩ := T.mL
  refine F.ok scGSend (fun vs H Q E h => ?_) (fun cdv A outer s H vs Q E hr h => ?_)
  · obtain ⟨O, a, g, i, rfl, _⟩ := h
    rfl
  · obtain ⟨O, a, g, i, rfl, _, hg, gok, q⟩ := h
    obtain ⟨dx, lm, ll, ms, ls, own, h⟩ := id hg
    have n4 := gok.n4
    have l40 := gok.l40
    have hml := gok.ml
    have hr1 : Room 1 _ := hr.mono (by decide)
    refine ⟨_, pss_cons (ps_if (pt_not (pt_val (pe_meth (pv 0) T.cl mH GH hr1 bH .nil pass0 (pa_cons (pv 1) pa_nil)))) (pss_one (ps_ret (pe_lst (pa_cons (pe_un un_neg pe_int) pa_nil)))) pss_nil)
      (pss_cons (ps_set (i := 2) scGSend.nd rfl (.inl rfl) (pe_meth (pv 0) T.cl mL GL hr bL .nil pass0 (pa_cons (pv 1) pa_nil)))
      (pss_cons (ps_if (pt_cmpR op_gt (pe_op op_add (pe_callB call_len_seq (by rfl) TM.len PySem.boot_len (pa_cons (pe_fld (pv 0) rfl) pa_nil)) (pe_callB call_len_seq (by rfl) TM.len PySem.boot_len (pa_cons (pv 2) pa_nil))) (pe_glob (v := .int 40) rfl mM ⟨_, rfl⟩) (nomark _)) (pss_one (ps_ret (pe_lst (pa_cons (pe_un un_neg pe_int) pa_nil)))) pss_nil)
      (pss_cons (ps_expr (pe_bm PySem.F.plainAttrs_list PySem.F.slot_list_extend PySem.F.type_list_extend mt_extend (pe_fld (pv 0) rfl) (pa_cons (pv 2) pa_nil)))
      (pss_cons (ps_set (i := 3) scGSend.nd rfl (.inl rfl) (pe_lst (pa_cons (pe_callB call_len_seq (by rfl) TM.len PySem.boot_len (pa_cons (pv 2) pa_nil)) pa_nil)))
      (pss_cons (ps_for PassesOwn.never rfl (pi_list (pv 2)) (pg_name (i := 4) scGSend.nd rfl (.inl rfl))
        (pss_one (ps_expr (pe_bm PySem.F.plainAttrs_list PySem.F.slot_list_extend PySem.F.type_list_extend mt_extend (pv 3) (pa_cons (pe_lst (pa_cons (pe_fld (pv 4) rfl) (pa_cons (pe_fld (pv 4) rfl) (pa_cons (pe_callB call_len_seq (by rfl) TM.len PySem.boot_len (pa_cons (pe_fld (pv 4) rfl) pa_nil)) pa_nil)))) pa_nil)))))
      (pss_one (ps_ret (pv 3)))))))), ?_⟩
    refine ⟨_, rfl, a, dx, _, rfl, h.ha, gF_no (by decide +kernel) (by decide +kernel) (by decide +kernel), _, rfl, O, a, g, i, rfl, hg, _, rfl, ?_⟩
    by_cases c : i < g.machines.length
    · rw [decide_eq_true c]
      refine iteF ?_
      obtain ⟨m, em⟩ : ∃ m, g.machines[i]? = some m := ⟨_, List.getElem?_eq_getElem c⟩
      refine ⟨_, rfl, a, dx, _, rfl, h.ha, gF_no (by decide +kernel) (by decide +kernel) (by decide +kernel), _, rfl, O, a, g, i, rfl, hg, gok, by omega, fun H1 p xs s1 np hp hx => ?_⟩
      refine ⟨_, rfl, a, CG, dx, _, _, rfl, s1 _ _ h.ha, T.cl, T.nLe, gF_letters, ll, _, rfl, .inl (SqL.of (s1 _ _ h.hl)), _, rfl, p, _, rfl, .inl (SqL.of hp), _, _, rfl, rfl, _, _, rfl, rfl, _, rfl, ?_⟩
      rw [List.length_map, h.lt.1, List.length_map, hx.1]
      have hll := lettersOf_len g i
      refine ite2 (fun d => ?_) (fun d => ?_)
      · have d : (40 : Int) < (g.net.length : Int) + ((Ge14.lettersOf g i).length : Int) := of_decide_eq_true d
        refine ⟨_, rfl, (by show 1 ≤ sizeLine; decide), fun b hb => ?_⟩
        exact q.same hg (send_full em (by omega)) (Same.new s1 hb) (s1.free hb) upd_same
      · have d : ¬ (40 : Int) < (g.net.length : Int) + ((Ge14.lettersOf g i).length : Int) := fun z => d (decide_eq_true z)
        have d' : ¬ 40 < g.net.length + (Ge14.lettersOf g i).length := by omega
        refine ⟨_, rfl, a, CG, dx, _, _, rfl, s1 _ _ h.ha, T.cl, T.nLe, gF_letters, .inl ⟨rfl, _, SqL.of (s1 _ _ h.hl)⟩, _, rfl, ll, p, _, _, rfl, rfl, s1 _ _ h.hl, hp, ?_, ?_⟩
        · rw [List.length_map, h.lt.1, List.length_map, hx.1]
          exact small_size (by omega)
        rw [← List.map_append]
        obtain ⟨own', h2⟩ := h.newLetters s1 hx
        have k2 : Keeps O H (upd H1 ll (.lst ((ls ++ xs).map V.ref))) := (Keeps.of_same s1).upd (.inl h.ol.1)
        have kll : Keeps (fun z => z = ll) H1 (upd H1 ll (.lst ((ls ++ xs).map V.ref))) := (Keeps.refl _ _).upd (.inl rfl)
        have npl : p ≠ ll := fun z => by rw [z, h.hl] at np; cases np
        have hp2 : (upd H1 ll (.lst ((ls ++ xs).map V.ref))) p = some (.lst (xs.map V.ref)) := (upd_ne npl).trans hp
        have hx2 : NewLetters CL H (upd H1 ll (.lst ((ls ++ xs).map V.ref))) xs (Ge14.lettersOf g i) := ⟨hx.1, fun j u l e1 e2 => (hx.2 j u l e1 e2).keeps kll fun z hz q => by
          have hz : H z = none := hz
          rw [q, h.hl] at hz
          cases hz⟩
        revert h2 k2 hp2 hx2
        generalize upd H1 ll (.lst ((ls ++ xs).map V.ref)) = H2
        intro h2 k2 hp2 hx2
        refine ⟨_, rfl, p, _, rfl, .inl (SqL.of hp2), (by show 1 ≤ sizeLine; decide), fun b hb => ?_⟩
        rw [List.length_map, hx.1]
        have s2 := same_new (o := .lst [nV (Ge14.lettersOf g i).length]) hb
        refine ⟨_, rfl, p, rfl, ⟨_, SqL.of (s2 _ _ hp2)⟩, ?_⟩
        refine for_list (K := K) (a := p) (xs := xs.map V.ref) (fun j σ H3 => ∃ v, σ = [some (.ref a), some (nV i), some (.ref p), some (.ref b), v] ∧ Same H2 H3 ∧ H3 b = some (.lst (((Ge14.lettersOf g i).length :: ((Ge14.lettersOf g i).take j).flatMap rowL).map nV))) ?_ ?_ ?_ ?_
        · exact ⟨none, rfl, s2, upd_same⟩
        · rintro j σ H3 _ ⟨v, _, s3, _⟩
          exact SqL.of (s3 _ _ hp2)
        · rintro j y σ H3 hy ⟨v, rfl, s3, d3⟩
          rw [List.getElem?_map] at hy
          obtain ⟨u, eu, rfl⟩ := Option.map_eq_some_iff.mp hy
          have hjl : j < (Ge14.lettersOf g i).length := by rw [← hx.1]; exact (List.getElem?_eq_some_iff.mp eu).1
          have el : (Ge14.lettersOf g i)[j]? = some (Ge14.lettersOf g i)[j] := List.getElem?_eq_getElem hjl
          obtain ⟨dl, lp, _, _, hu, hup⟩ := (hx2.2 j u _ eu el).same s3
          refine ⟨_, rfl, .inl ⟨rfl, _, SqL.of d3⟩, ?_⟩
          refine ⟨_, rfl, u, CL, dl, _, _, rfl, hu, TM.clL, TM.lRe, lF_receiver, _, rfl, u, CL, dl, _, _, rfl, hu, TM.clL, TM.lFi, lF_first, ?_⟩
          refine ⟨_, rfl, u, CL, dl, _, _, rfl, hu, TM.clL, TM.lPr, lF_pressed, lp, _, rfl, .inl (SqL.of hup), (by show 3 ≤ sizeLine; decide), fun t ht => ?_⟩
          have nbt : b ≠ t := ne_of_none d3 ht
          refine ⟨b, t, _, _, rfl, rfl, (upd_ne nbt).trans d3, upd_same, ?_, ?_⟩
          · rw [List.length_map, List.length_cons, rowL_len, List.length_take]
            show 3 * min j (Ge14.lettersOf g i).length + 1 + 3 ≤ sizeLine
            exact small_size (by omega)
          · refine ⟨_, rfl, Same.own (Same.new s3 ht) hb, ?_⟩
            rw [upd_same, take_more el, List.flatMap_append, List.length_map, List.map_cons, List.map_cons, List.map_append]
            rfl
        · rintro σ H3 ⟨v, rfl, s3, d3⟩
          rw [List.length_map, hx.1, List.take_length] at d3
          refine ⟨_, rfl, q _ b (k2.same s3) ?_ (Or.back k2 b (.inr hb)) ?_⟩
          · rw [send_some em d']
            exact ⟨dx, lm, ll, ms, _, own', h2.same s3⟩
          · rw [send_some em d', ints_nV]
            exact d3
    · rw [decide_eq_false c]
      refine iteT ?_
      refine ⟨_, rfl, (by show 1 ≤ sizeLine; decide), fun p hp => ?_⟩
      exact q.same hg (send_none (none_of c)) (same_new hp) hp upd_same
/-! ### heal -/
def lettersTo (g : Ge14.House) (j : Nat) : List Ge14.Letter := (List.range j).flatMap (Ge14.lettersOf g)
theorem lettersTo_more (g : Ge14.House) (j : Nat) : lettersTo g (j + 1) = lettersTo g j ++ Ge14.lettersOf g j := by
  unfold lettersTo
  rw [List.range_succ, List.flatMap_append]
  simp
theorem lettersTo_len (g : Ge14.House) : ∀ j, (lettersTo g j).length ≤ j * g.n
  | 0 => Nat.zero_le _
  | j + 1 => by
    rw [lettersTo_more, List.length_append]
    have h1 := lettersTo_len g j
    have h2 := lettersOf_len g j
    rw [Nat.succ_mul]
    omega
theorem lettersTo_ok {g : Ge14.House} (h : GOk g) (j : Nat) : ∀ l ∈ lettersTo g j, LOk g.n l := by
  intro l hl
  obtain ⟨i, _, hl⟩ := List.mem_flatMap.mp hl
  exact lettersOf_ok h l hl
theorem lettersTo_40 {g : Ge14.House} (h : GOk g) {j : Nat} (hj : j ≤ g.n) : (lettersTo g j).length ≤ 16 := by
  have h1 := lettersTo_len g j
  have h2 : j * g.n ≤ 4 * 4 := Nat.mul_le_mul (Nat.le_trans hj h.n4) h.n4
  omega
def withNet (g : Ge14.House) (net : List Ge14.Letter) : Ge14.House := ⟨g.n, g.seed, g.ahead, g.machines, net⟩
theorem heal_two (g g1 : Ge14.House) (e : g1 = withNet (allCome g g.net) []) : Ge14.heal g = withNet (allCome (withNet g1 (lettersTo g1 g1.n)) (lettersTo g1 g1.n)) [] := by
  subst e
  have e1 : lettersTo (withNet (allCome g g.net) []) (withNet (allCome g g.net) []).n = allLetters (allCome g g.net) := rfl
  have e3 : withNet (withNet (allCome g g.net) []) (allLetters (allCome g g.net)) = withNet (allCome g g.net) (allLetters (allCome g g.net)) := rfl
  have e4 : ∀ (x : Ge14.House) (ls net : List Ge14.Letter), allCome (withNet x net) ls = withNet (allCome x ls) net := fun x ls net => allCome_net ls x net
  rw [heal_eq, e1, e3, e4]
  rfl
theorem scGHeal : FnScope ["self", "machine"] ["self"] (defScope sGHeal) := ⟨rfl, rfl, rfl, by decide +kernel, rfl, by decide +kernel, by decide +kernel⟩
theorem ok_gHeal {f : Addr} {fd : FuncData} (F : Fun K "heal" "Game.heal" sGHeal f fd) (T : TxtG K mg CG) (TM : TxtM K mg CL CM) (GA : MethOk P w K mg base CG "let_all_come" 4 ["self"] (spGLetAll CG CM CL))
    (GL : MethOk P w K mg base CG "letters_of" 4 ["self", "machine"] (spGLettersOf CG CM CL)) (GE : MethOk P w K mg base CG "sure_everywhere" 2 ["self"] (spGSureE CG CM CL)) :
    FnOk P w K mg base CX0 5 f fd ["self"] (spG0 CG CM CL .heal) := by
  obtain ⟨fA, fdA, mA, GA, bA⟩ := GA
  obtain ⟨fL, fdL, mL, GL, bL⟩ := GL
  obtain ⟨fE, fdE, mE, GE, bE⟩ := GE
  refine F.ok scGHeal (fun vs H Q E h => ?_) (fun cdv A outer s H vs Q E hr h => ?_)
  · obtain ⟨O, a, g, rfl, _⟩ := h
    rfl
  · obtain ⟨O, a, g, rfl, hg, gok, q⟩ := h
    obtain ⟨dx, lm, ll, ms, ls, own, h⟩ := id hg
    have hr2 : Room 2 _ := hr.mono (by decide)
    refine ⟨_, pss_cons (ps_expr (pe_meth0 (pv 0) T.cl mA GA hr bA .nil pass0))
      (pss_cons (ps_for PassesOwn.never rfl (pi_range1 rfl TM.range (pa_cons (pe_callB call_len_seq (by rfl) TM.len PySem.boot_len (pa_cons (pe_fld (pv 0) rfl) pa_nil)) pa_nil)) (pg_name (i := 1) scGHeal.nd rfl (.inl rfl))
        (pss_one (ps_expr (pe_bm PySem.F.plainAttrs_list PySem.F.slot_list_extend PySem.F.type_list_extend mt_extend (pe_fld (pv 0) rfl) (pa_cons (pe_meth (pv 0) T.cl mL GL hr bL .nil pass0 (pa_cons (pv 1) pa_nil)) pa_nil)))))
      (pss_cons (ps_expr (pe_meth0 (pv 0) T.cl mA GA hr bA .nil pass0))
      (pss_one (ps_ret (pe_op op_cat (pe_lst (pa_cons (pe_meth0 (pv 0) T.cl mE GE hr2 bE .nil pass0) pa_nil)) (pe_lc (own := [("machine", 1)]) (g := gName 1) (tt := tYes) (te := tFld K (tVar 1) "again") rfl scGHeal.nd (pi_list (pe_fld (pv 0) rfl)) (blkOk_by (own := [("machine", 1)]) (N := ["self", "machine"]) (sc := defScope sGHeal) (by decide +kernel))
        (fun _ _ _ _ _ => pg_name (i := 1) scGHeal.nd rfl (Or.inl rfl)) (fun _ _ _ _ _ => pts_nil) (fun _ _ _ _ _ => pe_fld (pv 1) rfl))))))), ?_⟩
    refine ⟨_, rfl, a, dx, _, rfl, h.ha, gF_no (by decide +kernel) (by decide +kernel) (by decide +kernel), O, a, g, rfl, hg, gok, fun H1 k1 hg1 => ?_⟩
    have gok1 : GOk (withNet (allCome g g.net) []) := net_ok (allCome_ok g.net g gok gok.lo) (fun l hl => nomatch hl) (Nat.zero_le _)
    have hg1 : GameIn CG CM CL (Or O H) H1 a (withNet (allCome g g.net) []) := hg1
    have e0 : (withNet (allCome g g.net) []).net = [] := rfl
    have es := heal_two g _ rfl
    revert hg1 gok1 e0 es
    generalize withNet (allCome g g.net) [] = g1
    intro gok1 hg1 e0 es
    have ml1 := gok1.ml
    have n1 := gok1.n1
    have n4 := gok1.n4
    obtain ⟨dx1, lm1, ll1, ms1, ls1, own1, h1⟩ := id hg1
    refine ⟨_, rfl, a, CG, dx1, _, _, rfl, h1.ha, T.cl, T.nMa, gF_machines, lm1, _, rfl, .inl (SqL.of h1.hm), _, rfl, by rw [List.length_map, h1.mm.1]; omega, by rw [List.length_map, h1.mm.1]; omega, ?_⟩
    rw [List.length_map, h1.mm.1, ml1]
    refine for_range (lo := 0) (n := ((g1.n : Int)).toNat) (fun j σ H2 => ∃ v, σ = [some (.ref a), v] ∧ Keeps O H H2 ∧ GameIn CG CM CL (Or O H) H2 a (withNet g1 (lettersTo g1 j))) ?_ ?_ ?_
    · refine ⟨none, rfl, k1, ?_⟩
      have e1 : withNet g1 (lettersTo g1 0) = g1 := by
        show withNet g1 [] = g1
        rw [← e0]
        rfl
      rw [e1]
      exact hg1
    · rintro j σ H2 hj ⟨v, rfl, k2, hg2⟩
      rw [Int.toNat_natCast] at hj
      have z0 : (0 : Int) + (j : Int) = (j : Int) := Int.zero_add _
      rw [z0]
      have b16 := lettersTo_40 gok1 (Nat.le_of_lt hj)
      have gok2 : GOk (withNet g1 (lettersTo g1 j)) := net_ok gok1 (lettersTo_ok gok1 j) (by omega)
      obtain ⟨dx2, lm2, ll2, ms2, ls2, own2, h2⟩ := id hg2
      have hlo := lettersOf_len g1 j
      refine ⟨_, rfl, a, CG, dx2, _, _, rfl, h2.ha, T.cl, T.nLe, gF_letters, .inl ⟨rfl, _, SqL.of h2.hl⟩, ?_⟩
      refine ⟨_, rfl, a, dx2, _, rfl, h2.ha, gF_no (by decide +kernel) (by decide +kernel) (by decide +kernel), _, rfl, _, a, _, j, rfl, hg2, gok2, hj, fun H3 p xs s3 np hp hx => ?_⟩
      have hx : NewLetters CL H2 H3 xs (Ge14.lettersOf g1 j) := hx
      have ell : ls2.length = (lettersTo g1 j).length := h2.lt.1
      refine ⟨ll2, p, _, _, rfl, rfl, s3 _ _ h2.hl, hp, ?_, ?_⟩
      · rw [List.length_map, List.length_map, hx.1, ell]
        exact small_size (by omega)
      · rw [← List.map_append]
        obtain ⟨own3, h3⟩ := h2.newLetters s3 hx
        refine ⟨_, rfl, ?_, ⟨dx2, lm2, ll2, ms2, ls2 ++ xs, own3, ?_⟩⟩
        · intro b o e n
          have e2 := s3 _ _ (k2 b o e n)
          have nb : b ≠ ll2 := fun z => by
            subst z
            rcases h2.ol.1 with z | z
            · exact n z
            · rw [z] at e
              cases e
          exact (upd_ne nb).trans e2
        · rw [lettersTo_more]
          exact h3.mono fun z hz => Or.back k2 z hz
    · rintro σ H2 ⟨v, rfl, k2, hg2⟩
      rw [Int.toNat_natCast] at hg2
      have b16 := lettersTo_40 gok1 (Nat.le_refl _)
      have gok2 : GOk (withNet g1 (lettersTo g1 g1.n)) := net_ok gok1 (lettersTo_ok gok1 _) (by omega)
      obtain ⟨dx2, lm2, ll2, ms2, ls2, own2, h2⟩ := id hg2
      refine ⟨_, rfl, a, dx2, _, rfl, h2.ha, gF_no (by decide +kernel) (by decide +kernel) (by decide +kernel), _, a, _, rfl, hg2, gok2, fun H3 k3 hg3 => ?_⟩
      have hg3 : GameIn CG CM CL (Or (Or O H) H2) H3 a (withNet (allCome (withNet g1 (lettersTo g1 g1.n)) (lettersTo g1 g1.n)) []) := hg3
      rw [← es] at hg3
      have gok3 := heal_ok gok
      have k03 : Keeps O H H3 := k2.trans k3
      have hg4 : GameIn CG CM CL (Or O H) H3 a (Ge14.heal g) := hg3.mono fun z hz => Or.back k2 z hz
      have eh : Ge14.step g .heal = (Ge14.heal g, Ge14.ints (Ge14.allSure (Ge14.heal g) :: (Ge14.heal g).machines.map fun m => m.again)) := rfl
      clear hg3 es
      revert hg4 gok3 eh
      generalize Ge14.heal g = g4
      intro gok3 hg4 eh
      have ml4 := gok3.ml
      have n44 := gok3.n4
      obtain ⟨dx4, lm4, ll4, ms4, ls4, own4, h4⟩ := id hg4
      refine ⟨_, rfl, a, dx4, _, rfl, h4.ha, gF_no (by decide +kernel) (by decide +kernel) (by decide +kernel), _, a, g4, rfl, hg4, gok3, fun H5 s5 => ?_⟩
      refine ⟨(by show 1 ≤ sizeLine; decide), fun l hl => ?_⟩
      have s6 := s5.trans (same_new (o := .lst [nV (Ge14.allSure g4)]) hl)
      have hl6 : (upd H5 l (.lst [nV (Ge14.allSure g4)])) l = some (.lst [nV (Ge14.allSure g4)]) := upd_same
      refine ⟨_, rfl, a, CG, dx4, _, _, rfl, s6 _ _ h4.ha, T.cl, T.nMa, gF_machines, lm4, rfl, ⟨_, SqL.of (s6 _ _ h4.hm)⟩, fun D hD => ?_⟩
      refine lc_list (K := K) (a := lm4) (xs := ms4.map V.ref) (fun i H7 => Same (upd H5 l (.lst [nV (Ge14.allSure g4)])) H7 ∧ H7 D = some (.lst (((g4.machines.take i).map fun m => m.again).map nV))) ?_ ?_ ?_ ?_
      · exact ⟨same_new hD, upd_same⟩
      · rintro i H7 _ ⟨s7, _⟩
        exact SqL.of (s7 _ _ (s6 _ _ h4.hm))
      · rintro i y H7 hy ⟨s7, d7⟩
        rw [List.getElem?_map] at hy
        obtain ⟨x, ex, rfl⟩ := Option.map_eq_some_iff.mp hy
        have hil : i < g4.machines.length := by rw [← h4.mm.1]; exact (List.getElem?_eq_some_iff.mp ex).1
        have em : g4.machines[i]? = some g4.machines[i] := List.getElem?_eq_getElem hil
        have hx := (h4.mm.2 i x _ ex em).same (s6.trans s7)
        obtain ⟨dm, lk, lt, ks, hmx⟩ := id hx
        refine ⟨rfl, yes_of ?_⟩
        refine ⟨_, rfl, x, CM, dm, _, _, rfl, hmx.ha, TM.cl, TM.nAg, mF_again, _, d7, ?_, Same.own s7 hD, ?_⟩
        · rw [List.length_map, List.length_map, List.length_take]
          exact small1000 (by omega)
        · rw [upd_same, take_more em, List.map_append, List.map_append]
          rfl
      · rintro H7 ⟨s7, d7⟩
        rw [List.length_map, h4.mm.1, List.take_length] at d7
        refine ⟨l, D, _, _, rfl, rfl, s7 _ _ hl6, d7, ?_, fun p hp => ?_⟩
        · rw [List.length_map, List.length_map]
          show 1 + g4.machines.length ≤ sizeLine
          exact small_size (by omega)
        · have r := q.fin eh (k03.same (s6.trans s7)) (hg4.same (s6.trans s7)) hp
          rw [ints_nV] at r
          exact r
end
end Bn

namespace Bn
open PySem PySem.Spec PyProof.Rows L2
section
variable {P : Program} {w : World} {K : PySem.W.Frag} {mg : Str → Option Value} {base : Heap} {CW CL CM CG : Addr}
/-! ### start -/
theorem start_fields {fs : List (Str × V)} {lm ll : Addr} {ahead : Nat} (h : fs = [] ∨ ∃ lm ll ah, fs = gF lm ll ah) : putF "ahead" (nV ahead) (putF "letters" (.ref ll) (putF "machines" (.ref lm) fs)) = gF lm ll ahead := by
  rcases h with rfl | ⟨x, y, z, rfl⟩
  · exact gF_new
  · rw [gF_put_machines, gF_put_letters, gF_put_ahead]
theorem scGStart : FnScope ["self", "players", "seed", "ahead", "number"] ["self", "players", "seed", "ahead"] (defScope sGStart) := ⟨rfl, rfl, rfl, by decide +kernel, rfl, by decide +kernel, by decide +kernel⟩
theorem ok_gStart {f : Addr} {fd : FuncData} (F : Fun K "start" "Game.start" sGStart f fd) (T : TxtG K mg CG) (TM : TxtM K mg CL CM) (GM : MakeOk P w K mg base "Machine" CM 1 ["self", "number", "players", "seed"] (spMInit CM)) :
    FnOk P w K mg base CX0 3 f fd ["self", "players", "seed", "ahead"] (spGStart CG CM CL) := by
  obtain ⟨fM, fdM, mM, MM, GM, bM⟩ := GM
  refine F.ok scGStart (fun vs H Q E h => ?_) (fun cdv A outer s H vs Q E hr h => ?_)
  · obtain ⟨a, dx, fs, n, seed, ahead, rfl, _⟩ := h
    rfl
  · obtain ⟨a, dx, fs, n, seed, ahead, rfl, hn, ha, hfs, q⟩ := h
    have hfl : fs.length ≤ 3 := by
      rcases hfs with rfl | ⟨x, y, z, rfl⟩
      · exact Nat.zero_le _
      · exact Nat.le_refl _
    refine ⟨_, pss_cons (ps_fld (pv 0) (pe_lc (own := [("number", 4)]) (g := gName 4) (tt := tYes) (te := tMake CM (spMInit CM) [] E0 (tCons (tVar 4) (tCons (tVar 1) (tCons (tVar 2) tNil)))) rfl scGStart.nd (pi_range1 rfl TM.range (pa_cons (pv 1) pa_nil)) (blkOk_by (own := [("number", 4)]) (N := ["self", "players", "seed", "ahead", "number"]) (sc := defScope sGStart) (by decide +kernel))
        (fun _ _ _ _ _ => pg_name (i := 4) scGStart.nd rfl (Or.inl rfl)) (fun _ _ _ _ _ => pts_nil) (fun _ _ _ _ _ => pe_make MM GM hr rfl mM bM .nil pass0 (pa_cons (pv 4) (pa_cons (pv 1) (pa_cons (pv 2) pa_nil))))) rfl)
      (pss_cons (ps_fld (pv 0) (pe_lst pa_nil) rfl)
      (pss_one (ps_fld (pv 0) (pv 3) rfl))), ?_⟩
    refine ⟨_, rfl, (n : Int), rfl, by omega, by omega, fun D hD => ?_⟩
    refine lc_range (lo := 0) (n := ((n : Int)).toNat) (fun i H1 => ∃ (ms : List Addr) (own : Addr → Nat), Same H H1 ∧ H1 D = some (.lst (ms.map V.ref)) ∧ ms.length = i ∧ ∀ (j : Nat) (x : Addr), ms[j]? = some x → MachIn CM (fun z => (H z = none ∧ z ≠ D) ∧ own z = j + 2) H1 x j seed (Ge14.fresh n)) ?_ ?_ ?_
    · exact ⟨[], fun _ => 0, same_new hD, upd_same, rfl, fun j x e => nomatch e⟩
    · rintro i H1 hi ⟨ms, own, s1, d1, l1, a1⟩
      rw [Int.toNat_natCast] at hi
      have z0 : (0 : Int) + (i : Int) = (i : Int) := Int.zero_add _
      rw [z0]
      refine ⟨rfl, yes_of ?_⟩
      refine ⟨_, rfl, _, rfl, _, rfl, ?_⟩
      intro x dm nx nd nex
      refine ⟨x, dm, i, n, seed, rfl, hn, upd_same, fun H2 k2 hm2 => ⟨rfl, ?_⟩⟩
      have s2 : Same H1 H2 := Same.made nx nd k2
      have nz : ∀ z, (z = x ∨ (upd (upd H1 dm (.own x)) x (.ins CM dm [])) z = none) → H1 z = none := fun z hz => by
        rcases hz with rfl | hz
        · exact nx
        · by_cases zx : z = x
          · rw [zx]
            exact nx
          · by_cases zd : z = dm
            · rw [zd]
              exact nd
            · rw [upd_ne zx, upd_ne zd] at hz
              exact hz
      have d2 := s2 _ _ d1
      have k3 : Keeps (fun z => z = D) H2 (upd H2 D (.lst (ms.map V.ref ++ [V.ref x]))) := (Keeps.refl _ _).upd (.inl rfl)
      refine ⟨_, d2, ?_, ms ++ [x], fun z => match H1 z with | none => i + 2 | some _ => own z, Same.own (s1.trans s2) hD, ?_, by rw [List.length_append, l1]; rfl, fun j y e => ?_⟩
      · rw [List.length_map, l1]
        exact small1000 (by omega)
      · rw [upd_same, List.map_append]
        rfl
      · by_cases hj : j < ms.length
        · rw [List.getElem?_append_left hj] at e
          refine (((a1 j y e).strict.same s2).keeps k3 fun z hz q => hz.1.1.2 q).mono fun z hz => ⟨hz.1.1, ?_⟩
          cases c : H1 z with
          | none => exact absurd c hz.2
          | some o =>
            simp only [c]
            exact hz.1.2
        · rw [List.getElem?_append_right (by omega)] at e
          have hz : j - ms.length = 0 := by
            have := (List.getElem?_eq_some_iff.mp e).1
            simp at this
            omega
          rw [hz] at e
          cases e
          have ej : j = i := by omega
          subst ej
          refine ((hm2.mono fun z hz => nz z hz).keeps k3 fun z hz q => ?_).mono fun z hz => ⟨⟨s1.free hz, fun q => ?_⟩, ?_⟩
          · have hz : H1 z = none := hz
            rw [q, d1] at hz
            cases hz
          · have hz : H1 z = none := hz
            rw [q, d1] at hz
            cases hz
          · have hz : H1 z = none := hz
            simp only [hz]
    · rintro H1 ⟨ms, own, s1, d1, l1, a1⟩
      rw [Int.toNat_natCast] at l1
      have p1 := s1 _ _ ha
      have b1 := putF_len "machines" (.ref D) fs
      refine ⟨_, rfl, a, CG, dx, fs, rfl, p1, T.cl, T.nMa, by omega, ?_⟩
      refine ⟨Nat.zero_le _, fun b hb => ?_⟩
      have nab : a ≠ b := fun z => by rw [← z, upd_same] at hb; cases hb
      have hb1 : H1 b = none := by rw [upd_ne nab.symm] at hb; exact hb
      have b2 := putF_len "letters" (.ref b) (putF "machines" (.ref D) fs)
      refine ⟨_, rfl, a, CG, dx, _, rfl, (upd_ne nab).trans upd_same, T.cl, T.nLe, by omega, ?_⟩
      refine ⟨_, rfl, _, rfl, a, CG, dx, _, rfl, upd_same, T.cl, T.nAh, by omega, ?_⟩
      have eF : putF "ahead" (nV ahead) (putF "letters" (.ref b) (putF "machines" (.ref D) fs)) = gF D b ahead := start_fields hfs
      have nDa : D ≠ a := (ne_of_none ha hD).symm
      have nDb : D ≠ b := ne_of_none d1 hb1
      have kA : Keeps (fun z => z = a ∨ z = b) H1 (upd (upd (upd (upd H1 a (.ins CG dx (putF "machines" (.ref D) fs))) b (.lst [])) a (.ins CG dx (putF "letters" (.ref b) (putF "machines" (.ref D) fs)))) a (.ins CG dx (gF D b ahead))) := by
        refine Keeps.upd (Keeps.upd (Keeps.upd (Keeps.upd (Keeps.refl _ _) ?_) ?_) ?_) ?_
        · exact .inl (.inl rfl)
        · exact .inl (.inr rfl)
        · exact .inl (.inl rfl)
        · exact .inl (.inl rfl)
      have nD' : ¬ (D = a ∨ D = b) := fun z => z.elim nDa nDb
      refine q _ (fun c o e hc => ?_) ⟨dx, D, b, ms, [], fun z => if z = a ∨ z = D ∨ z = b then 1 else own z, ⟨.inl rfl, if_pos (.inl rfl)⟩, ⟨.inr hD, if_pos (.inr (.inl rfl))⟩, ⟨.inr (s1.free hb1), if_pos (.inr (.inr rfl))⟩, nDb, ?_, ?_, ?_, ⟨?_, fun j x m e1 e2 => ?_⟩, rfl, fun j x l e1 e2 => nomatch e1⟩
      · have e1 := s1 _ _ e
        have := kA c o e1 fun z => z.elim hc (ne_of_none e1 hb1)
        rw [← eF] at this
        exact this
      · exact upd_same.trans (congrArg (fun z => some (HO.ins CG dx z)) eF)
      · have := kA D _ d1 nD'
        rw [← eF] at this
        exact this
      · rw [upd_ne nab.symm, upd_ne nab.symm, upd_same]
        rfl
      · rw [l1]
        simp
      · have em : m = Ge14.fresh n := by
          have z : (List.replicate n (Ge14.fresh n))[j]? = some m := e2
          rw [List.getElem?_replicate] at z
          split at z
          · cases z
            rfl
          · cases z
        subst em
        have r := (((a1 j x e1).strict).keeps kA fun z hz q => ?_).mono (O' := fun z => (z = a ∨ H z = none) ∧ (if z = a ∨ z = D ∨ z = b then 1 else own z) = j + 2) fun z hz => ?_
        · rw [← eF] at r
          exact r
        · rcases q with q | q
          · have z1 := hz.1.1.1
            rw [q, ha] at z1
            cases z1
          · exact hz.2 (by rw [q]; exact hb1)
        · refine ⟨.inr hz.1.1.1, ?_⟩
          rw [if_neg]
          · exact hz.1.2
          · rintro (q | q | q)
            · have z1 := hz.1.1.1
              rw [q, ha] at z1
              cases z1
            · exact hz.1.1.2 q
            · exact hz.2 (by rw [q]; exact hb1)
theorem scGInit : FnScope ["self"] ["self"] (defScope sGInit) := ⟨rfl, rfl, rfl, by decide +kernel, rfl, by decide +kernel, by decide +kernel⟩
theorem ok_gInit {f : Addr} {fd : FuncData} (F : Fun K "__init__" "Game.__init__" sGInit f fd) (T : TxtG K mg CG) (GS : MethOk P w K mg base CG "start" 3 ["self", "players", "seed", "ahead"] (spGStart CG CM CL)) :
    FnOk P w K mg base CX0 4 f fd ["self"] (spGInit CG CM CL) := by
  obtain ⟨fS, fdS, mS, GS, bS⟩ := GS
  refine F.ok scGInit (fun vs H Q E h => ?_) (fun cdv A outer s H vs Q E hr h => ?_)
  · obtain ⟨a, dx, rfl, _⟩ := h
    rfl
  · obtain ⟨a, dx, rfl, ha, q⟩ := h
    refine ⟨_, pss_one (ps_expr (pe_meth (pv 0) T.cl mS GS hr bS .nil pass0 (pa_cons pe_int (pa_cons pe_int (pa_cons pe_int pa_nil))))), ?_⟩
    exact ⟨_, rfl, a, dx, _, rfl, ha, rfl, a, dx, [], 2, 1, 6, rfl, by decide, ha, .inl rfl, fun H' k hg => q H' k hg⟩
/-! ### begins -/
theorem chain_le {σ : L2.St} {H : Hp} {i sl : Nat} {hi : Int} (hσ : σ[sl]? = some (some (nV i))) {Q : Bool → Hp → Prop} (h : Q (decide (1 ≤ i ∧ (i : Int) ≤ hi)) H) :
    tTest (tChain (rI0 fun i j => .bl (decide (i ≤ j))) (rI0 fun i j => .bl (decide (i ≤ j))) (tC (.int 1)) (tVar sl) (tC (.int hi))) σ H Q := by
  refine ⟨_, hσ, _, _, rfl, rfl, _, rfl, ?_⟩
  by_cases c : (1 : Int) ≤ (i : Int)
  · rw [decide_eq_true c]
    refine iteT ⟨_, _, rfl, rfl, _, rfl, ?_⟩
    have e : decide (1 ≤ i ∧ (i : Int) ≤ hi) = decide ((i : Int) ≤ hi) := decide_eq_decide.mpr ⟨fun z => z.2, fun z => ⟨by omega, z⟩⟩
    rw [e] at h
    exact h
  · rw [decide_eq_false c]
    refine iteF ⟨_, rfl, ?_⟩
    have e : decide (1 ≤ i ∧ (i : Int) ≤ hi) = false := decide_eq_false fun z => c (by omega)
    rw [e] at h
    exact h
theorem begins_no {g : Ge14.House} {n s a : Nat} (h : ¬ ((1 ≤ n ∧ (n : Int) ≤ 4) ∧ (1 ≤ a ∧ (a : Int) ≤ 20))) : Ge14.step g (.begins n s a) = (g, [-1]) := by
  have h' : n = 0 ∨ 4 < n ∨ a = 0 ∨ 20 < a := by omega
  simp only [Ge14.step, h', if_true]
theorem begins_yes {g : Ge14.House} {n s a : Nat} (h1 : 1 ≤ n ∧ (n : Int) ≤ 4) (h2 : 1 ≤ a ∧ (a : Int) ≤ 20) : Ge14.step g (.begins n s a) = (⟨n, s, a, List.replicate n (Ge14.fresh n), []⟩, Ge14.ints (Ge14.worldRow (Ge14.start n s))) := by
  have h' : ¬ (n = 0 ∨ 4 < n ∨ a = 0 ∨ 20 < a) := by omega
  simp only [Ge14.step, h', if_false]
theorem scGBegins : FnScope ["self", "players", "seed", "ahead"] ["self", "players", "seed", "ahead"] (defScope sGBegins) := ⟨rfl, rfl, rfl, by decide +kernel, rfl, by decide +kernel, by decide +kernel⟩
theorem ok_gBegins {f : Addr} {fd : FuncData} (F : Fun K "begins" "Game.begins" sGBegins f fd) (T : TxtG K mg CG) (TM : TxtM K mg CL CM) (TW : TxtW K mg CW) (GS : MethOk P w K mg base CG "start" 3 ["self", "players", "seed", "ahead"] (spGStart CG CM CL))
    (GW : MethOk P w K mg base CM "world_behind" 5 ["self", "ticks"] (spMWorld CM CW)) (GN : MethOk P w K mg base CW "numbers" 1 ["self"] (spNumbers CW)) :
    FnOk P w K mg base CX0 6 f fd ["self", "players", "seed", "ahead"] (spG3 CG CM CL .begins) := by
  obtain ⟨fS, fdS, mS, GS, bS⟩ := GS
  obtain ⟨fW, fdW, mW, GW, bW⟩ := GW
  obtain ⟨fN, fdN, mN, GN, bN⟩ := GN
  obtain ⟨tP, mP⟩ := T.mP
  obtain ⟨tA, mA⟩ := T.mA
  refine F.ok scGBegins (fun vs H Q E h => ?_) (fun cdv A outer s H vs Q E hr h => ?_)
  · obtain ⟨O, a, g, n, sd, ah, rfl, _⟩ := h
    rfl
  · obtain ⟨O, a, g, n, sd, ah, rfl, hg, gok, q⟩ := h
    obtain ⟨dx, lm, ll, ms, ls, own, h⟩ := id hg
    have hr1 : Room 1 _ := hr.mono (by decide)
    have hr3 : Room 3 _ := hr.mono (by decide)
    refine ⟨_, pss_cons (ps_if (PW.pt (pw_or (pt_not (pt_chain op_le op_le pe_int (pv 1) (pe_glob (v := .int 4) rfl mP ⟨_, rfl⟩))) (pw_or1 (pt_not (pt_chain op_le op_le pe_int (pv 3) (pe_glob (v := .int 20) rfl mA ⟨_, rfl⟩)))))) (pss_one (ps_ret (pe_lst (pa_cons (pe_un un_neg pe_int) pa_nil)))) pss_nil)
      (pss_cons (ps_expr (pe_meth (pv 0) T.cl mS GS hr3 bS .nil pass0 (pa_cons (pv 1) (pa_cons (pv 2) (pa_cons (pv 3) pa_nil)))))
      (pss_one (ps_ret (pe_meth0 (pe_meth (pe_ix ix_list (pe_fld (pv 0) rfl) pe_int (fun _ _ => rfl)) TM.cl mW GW hr bW .nil pass0 (pa_cons pe_int pa_nil)) TW.cl mN GN hr1 bN .nil pass0)))), ?_⟩
    refine chain_le (i := n) rfl ?_
    by_cases c1 : 1 ≤ n ∧ (n : Int) ≤ 4
    · rw [decide_eq_true c1]
      refine iteF ?_
      refine chain_le (i := ah) rfl ?_
      by_cases c2 : 1 ≤ ah ∧ (ah : Int) ≤ 20
      · rw [decide_eq_true c2]
        refine iteF ?_
        refine ⟨_, rfl, a, dx, _, rfl, h.ha, gF_no (by decide +kernel) (by decide +kernel) (by decide +kernel), _, rfl, _, rfl, _, rfl, a, dx, _, n, sd, ah, rfl, by omega, h.ha, .inr ⟨_, _, _, rfl⟩, fun H1 k1 hg1 => ?_⟩
        have gok1 := begins_ok (s := sd) c1.1 (by omega) c2.1 (by omega : ah ≤ 20)
        have hn0 : 0 < n := c1.1
        have em : (List.replicate n (Ge14.fresh n))[0]? = some (Ge14.fresh n) := by
          rw [List.getElem?_replicate, if_pos hn0]
        have mok := gok1.mo 0 _ em
        obtain ⟨dx1, lm1, ll1, ms1, ls1, own1, h1⟩ := id hg1
        obtain ⟨x, ex, hx⟩ := h1.mach (i := 0) em
        obtain ⟨dm, lk, lt, ks, hmx⟩ := id hx
        refine ⟨_, rfl, a, CG, dx1, _, _, rfl, h1.ha, T.cl, T.nMa, gF_machines, lm1, _, _, .ref x, rfl, rfl, SqL.of h1.hm, atI_nat (j := 0) (by rw [List.getElem?_map, ex]; rfl), ?_⟩
        refine ⟨x, dm, _, rfl, hmx.ha, mF_no (by decide +kernel) (by decide +kernel) (by decide +kernel) (by decide +kernel) (by decide +kernel), _, x, 0, sd, Ge14.fresh n, 0, rfl, hx, by rw [mok.kl]; exact mok.n4, by omega, mok.k4, fun H2 xw s2 w2 wok => ?_⟩
        have ew : wAt (Ge14.fresh n).keys.length sd (Ge14.fresh n) 0 = Ge14.start n sd := by
          rw [mok.kl]
          rfl
        rw [ew] at w2 wok
        obtain ⟨dw, lp, lq, tc, ts, o1, o2, o3, nn1, hw1, _⟩ := id w2
        refine ⟨xw, dw, _, rfl, hw1, wF_no (by decide +kernel) (by decide +kernel) (by decide +kernel) (by decide +kernel), _, xw, _, rfl, w2, wok.1, fun H3 p np s3 hp => ?_⟩
        have kA : Keeps O H H1 := fun b o e nO => k1 b o e fun z => nO (z ▸ h.oa.1)
        have kB : Keeps O H H2 := kA.same s2
        refine q _ p (kB.same s3) ?_ (Or.back kB p (.inr np)) ?_
        · rw [begins_yes c1 c2]
          refine ((hg1.same s2).same s3).mono fun z hz => ?_
          rcases hz with rfl | hz
          · exact Or.l h.oa.1
          · exact Or.r hz
        · rw [begins_yes c1 c2, ints_nV]
          exact hp
      · rw [decide_eq_false c2]
        refine iteT ?_
        refine ⟨_, rfl, (by show 1 ≤ sizeLine; decide), fun p hp => ?_⟩
        exact q.same hg (begins_no fun z => c2 z.2) (same_new hp) hp upd_same
    · rw [decide_eq_false c1]
      refine iteT (iteT ?_)
      refine ⟨_, rfl, (by show 1 ≤ sizeLine; decide), fun p hp => ?_⟩
      exact q.same hg (begins_no fun z => c1 z.1) (same_new hp) hp upd_same
/-! ### press -/
def pressed (m : Ge14.Machine) (i k : Nat) : Ge14.Machine := { m with keys := m.keys.set i (Ge14.keysOf m i ++ [k]), now := m.now + 1 }
theorem press_key {g : Ge14.House} {i k : Nat} (h : 4 < k) : Ge14.step g (.press i k) = (g, [-1]) := by
  simp only [Ge14.step, h, if_true]
theorem press_none {g : Ge14.House} {i k : Nat} (h : ¬ 4 < k) (hm : g.machines[i]? = none) : Ge14.step g (.press i k) = (g, [-2]) := by
  simp only [Ge14.step, h, if_false, hm]
theorem press_60 {g : Ge14.House} {i k : Nat} {m : Ge14.Machine} (h : ¬ 4 < k) (hm : g.machines[i]? = some m) (h60 : 60 ≤ m.now) : Ge14.step g (.press i k) = (g, [-5]) := by
  simp only [Ge14.step, h, if_false, hm, h60, if_true]
theorem press_far {g : Ge14.House} {i k : Nat} {m : Ge14.Machine} (h : ¬ 4 < k) (hm : g.machines[i]? = some m) (h60 : ¬ 60 ≤ m.now) (hf : Ge14.sure m + g.ahead ≤ m.now) : Ge14.step g (.press i k) = (g, [-6]) := by
  simp only [Ge14.step, h, if_false, hm, h60, hf, if_true]
theorem press_some {g : Ge14.House} {i k : Nat} {m : Ge14.Machine} (h : ¬ 4 < k) (hm : g.machines[i]? = some m) (h60 : ¬ 60 ≤ m.now) (hf : ¬ Ge14.sure m + g.ahead ≤ m.now) :
    Ge14.step g (.press i k) = ({ g with machines := g.machines.set i (pressed m i k) }, Ge14.ints ((pressed m i k).now :: Ge14.worldRow (Ge14.worldAt g (pressed m i k) (pressed m i k).now))) := by
  simp only [Ge14.step, h, if_false, hm, h60, hf]
  rfl
theorem scGPress : FnScope ["self", "machine", "key", "presser"] ["self", "machine", "key"] (defScope sGPress) := ⟨rfl, rfl, rfl, by decide +kernel, rfl, by decide +kernel, by decide +kernel⟩
theorem ok_gPress {f : Addr} {fd : FuncData} (F : Fun K "press" "Game.press" sGPress f fd) (T : TxtG K mg CG) (TM : TxtM K mg CL CM) (GH : MethOk P w K mg base CG "has_machine" 1 ["self", "machine"] (spGHasM CG CM CL))
    (GD : MethOk P w K mg base CM "shown" 1 ["self"] (spMShown CM)) (GS : MethOk P w K mg base CM "sure" 1 ["self"] (spMSure CM)) (GP : MethOk P w K mg base CM "press" 1 ["self", "key"] (spMPress CM)) (GG : MethOk P w K mg base CG "shown" 6 ["self", "machine"] (spG1 CG CM CL .shown)) :
    FnOk P w K mg base CX0 7 f fd ["self", "machine", "key"] (spG2 CG CM CL .press) := by
  obtain ⟨fH, fdH, mH, GH, bH⟩ := GH
  obtain ⟨fD, fdD, mD, GD, bD⟩ := GD
  obtain ⟨fS, fdS, mS, GS, bS⟩ := GS
  obtain ⟨fP, fdP, mP, GP, bP⟩ := GP
  obtain ⟨fG, fdG, mG, GG, bG⟩ := GG
  obtain ⟨tK, mK⟩ := T.mK
  obtain ⟨tS, m60⟩ := T.mS
  refine F.ok scGPress (fun vs H Q E h => ?_) (fun cdv A outer s H vs Q E hr h => ?_)
  · obtain ⟨O, a, g, i, k, rfl, _⟩ := h
    rfl
  · obtain ⟨O, a, g, i, k, rfl, i32, hg, gok, q⟩ := h
    obtain ⟨dx, lm, ll, ms, ls, own, h⟩ := id hg
    have hr1 : Room 1 _ := hr.mono (by decide)
    refine ⟨_, pss_cons (ps_if (pt_cmpR op_gt (pv 2) (pe_glob (v := .int 4) rfl mK ⟨_, rfl⟩) (nomark _)) (pss_one (ps_ret (pe_lst (pa_cons (pe_un un_neg pe_int) pa_nil)))) pss_nil)
      (pss_cons (ps_if (pt_not (pt_val (pe_meth (pv 0) T.cl mH GH hr1 bH .nil pass0 (pa_cons (pv 1) pa_nil)))) (pss_one (ps_ret (pe_lst (pa_cons (pe_un un_neg pe_int) pa_nil)))) pss_nil)
      (pss_cons (ps_set (i := 3) scGPress.nd rfl (.inl rfl) (pe_ix ix_list (pe_fld (pv 0) rfl) (pv 1) (fun _ _ => rfl)))
      (pss_cons (ps_if (pt_cmpR op_ge (pe_meth0 (pv 3) TM.cl mD GD hr1 bD .nil pass0) (pe_glob (v := .int 60) rfl m60 ⟨_, rfl⟩) (nomark _)) (pss_one (ps_ret (pe_lst (pa_cons (pe_un un_neg pe_int) pa_nil)))) pss_nil)
      (pss_cons (ps_if (pt_cmpR op_ge (pe_op op_sub (pe_meth0 (pv 3) TM.cl mD GD hr1 bD .nil pass0) (pe_meth0 (pv 3) TM.cl mS GS hr1 bS .nil pass0)) (pe_fld (pv 0) rfl) (nomark _)) (pss_one (ps_ret (pe_lst (pa_cons (pe_un un_neg pe_int) pa_nil)))) pss_nil)
      (pss_cons (ps_expr (pe_meth (pv 3) TM.cl mP GP hr1 bP .nil pass0 (pa_cons (pv 2) pa_nil)))
      (pss_one (ps_ret (pe_meth (pv 0) T.cl mG GG hr bG .nil pass0 (pa_cons (pv 1) pa_nil))))))))), ?_⟩
    refine ⟨_, rfl, _, _, rfl, rfl, _, rfl, ?_⟩
    refine ite2 (fun ck => ?_) (fun ck => ?_)
    · have ck : (4 : Int) < (k : Int) := of_decide_eq_true ck
      refine ⟨_, rfl, (by show 1 ≤ sizeLine; decide), fun p hp => ?_⟩
      exact q.same hg (press_key (by omega)) (same_new hp) hp upd_same
    have ck : ¬ (4 : Int) < (k : Int) := fun z => ck (decide_eq_true z)
    have ck' : ¬ 4 < k := by omega
    refine ⟨_, rfl, a, dx, _, rfl, h.ha, gF_no (by decide +kernel) (by decide +kernel) (by decide +kernel), _, rfl, O, a, g, i, rfl, hg, _, rfl, ?_⟩
    by_cases c : i < g.machines.length
    · rw [decide_eq_true c]
      refine iteF ?_
      obtain ⟨m, em⟩ : ∃ m, g.machines[i]? = some m := ⟨_, List.getElem?_eq_getElem c⟩
      have mok := gok.mo i m em
      have hn : i < m.keys.length := by rw [mok.kl]; exact mok.lt
      have hn4 : m.keys.length ≤ 4 := by rw [mok.kl]; exact mok.n4
      have h60 := now_le mok
      have hsn := sure_now mok
      have hnow := mok.now
      obtain ⟨x, ex, hx⟩ := h.mach em
      refine ⟨_, rfl, a, CG, dx, _, _, rfl, h.ha, T.cl, T.nMa, gF_machines, _, rfl, lm, _, _, .ref x, rfl, rfl, SqL.of h.hm, atI_nat (by rw [List.getElem?_map, ex]; rfl), ?_⟩
      obtain ⟨dm, lk, lt, ks, hmx⟩ := id hx
      refine ⟨_, rfl, x, dm, _, rfl, hmx.ha, mF_no (by decide +kernel) (by decide +kernel) (by decide +kernel) (by decide +kernel) (by decide +kernel), _, x, i, g.seed, m, rfl, hx, hn, ?_⟩
      rw [← mok.now]
      refine ⟨_, _, rfl, rfl, _, rfl, ?_⟩
      refine ite2 (fun d => ?_) (fun d => ?_)
      · have d : (60 : Int) ≤ (m.now : Int) := of_decide_eq_true d
        refine ⟨_, rfl, (by show 1 ≤ sizeLine; decide), fun p hp => ?_⟩
        exact q.same hg (press_60 ck' em (by omega)) (same_new hp) hp upd_same
      have d : ¬ (60 : Int) ≤ (m.now : Int) := fun z => d (decide_eq_true z)
      have d' : ¬ 60 ≤ m.now := by omega
      refine ⟨_, rfl, x, dm, _, rfl, hmx.ha, mF_no (by decide +kernel) (by decide +kernel) (by decide +kernel) (by decide +kernel) (by decide +kernel), _, x, i, g.seed, m, rfl, hx, hn, ?_⟩
      rw [← mok.now]
      refine ⟨_, rfl, x, dm, _, rfl, hmx.ha, mF_no (by decide +kernel) (by decide +kernel) (by decide +kernel) (by decide +kernel) (by decide +kernel), _, x, i, g.seed, m, rfl, hx, by omega, hn4, fun H1 s1 => ?_⟩
      refine ⟨_, _, rfl, rfl, _, rfl, a, CG, dx, _, _, rfl, s1 _ _ h.ha, T.cl, T.nAh, gF_ahead, _, _, rfl, rfl, _, rfl, ?_⟩
      have h1 := h.same s1
      refine ite2 (fun e => ?_) (fun e => ?_)
      · have e : (g.ahead : Int) ≤ (m.now : Int) - (Ge14.sure m : Int) := of_decide_eq_true e
        refine ⟨_, rfl, (by show 1 ≤ sizeLine; decide), fun p hp => ?_⟩
        exact q.same hg (press_far ck' em d' (by omega)) (Same.new s1 hp) (s1.free hp) upd_same
      have e : ¬ (g.ahead : Int) ≤ (m.now : Int) - (Ge14.sure m : Int) := fun z => e (decide_eq_true z)
      have hf : ¬ Ge14.sure m + g.ahead ≤ m.now := by omega
      have hx1 := hx.same s1
      obtain ⟨dm1, lk1, lt1, ks1, hmx1⟩ := id hx1
      refine ⟨_, rfl, x, dm1, _, rfl, hmx1.ha, mF_no (by decide +kernel) (by decide +kernel) (by decide +kernel) (by decide +kernel) (by decide +kernel), _, rfl, _, x, i, g.seed, m, k, rfl, hx1, hn, by omega, fun H2 k2 hx2 => ?_⟩
      have h2 := h1.setMach ex k2 hx2
      have gok2 : GOk { g with machines := g.machines.set i (pressed m i k) } := set_ok gok (press_ok mok (by omega) (by omega))
      have hg2 : GameIn CG CM CL O H2 a { g with machines := g.machines.set i (pressed m i k) } := ⟨dx, lm, ll, ms, ls, own, h2⟩
      have k02 : Keeps O H H2 := fun b o eb nO => k2 b o (s1 _ _ eb) fun z => nO z.1
      have em2 : ({ g with machines := g.machines.set i (pressed m i k) } : Ge14.House).machines[i]? = some (pressed m i k) := List.getElem?_set_self c
      refine ⟨_, rfl, a, dx, _, rfl, h2.ha, gF_no (by decide +kernel) (by decide +kernel) (by decide +kernel), _, rfl, O, a, _, i, rfl, i32, hg2, gok2, fun H3 p k3 hg3 op hp => ?_⟩
      rw [shown_some em2] at hg3 hp
      refine q _ p (k02.trans (k3.mono fun z hz => Or.l hz)) ?_ ?_ ?_
      · rw [press_some ck' em d' hf]
        refine hg3.mono fun z hz => ?_
        rcases hz with hz | hz
        · exact Or.l hz
        · exact Or.back k02 z (.inr hz)
      · rcases op with hz | hz
        · exact Or.l hz
        · exact Or.back k02 p (.inr hz)
      · rw [press_some ck' em d' hf]
        exact hp
    · rw [decide_eq_false c]
      refine iteT ?_
      refine ⟨_, rfl, (by show 1 ≤ sizeLine; decide), fun p hp => ?_⟩
      exact q.same hg (press_none ck' (none_of c)) (same_new hp) hp upd_same
end
end Bn

namespace Bn
/-! ### the request as calls of natural numbers -/
def stepN (g : Ge14.St) (c : List Nat) : Ge14.St × List Int := match Ge14Neutral.callIn c with
  | none => (g, [])
  | some x => Ge14.step g x
def runN : Ge14.St → List (List Nat) → List (List Int)
  | _, [] => []
  | g, c :: r => (stepN g c).2 :: runN (stepN g c).1 r
def stateN : Ge14.St → List (List Nat) → Ge14.St
  | g, [] => g
  | g, c :: r => stateN (stepN g c).1 r
theorem runN_append : ∀ (a b : List (List Nat)) (g : Ge14.St), runN g (a ++ b) = runN g a ++ runN (stateN g a) b
  | [], _, _ => rfl
  | c :: a, b, g => by
    show _ :: runN _ (a ++ b) = _ :: (runN _ a ++ _)
    rw [runN_append a b]
    rfl
theorem stateN_append : ∀ (a b : List (List Nat)) (g : Ge14.St), stateN g (a ++ b) = stateN (stateN g a) b
  | [], _, _ => rfl
  | c :: a, b, g => stateN_append a b _
def iz (l : List Nat) : List Int := l.map fun (n : Nat) => (n : Int)
/-- the shape of a call -/
def Good (c : List Int) : Prop := ∃ p r n, c = p :: r ∧ PyGe14.shape p = some (n, 0) ∧ r.length = n
theorem shape_cases {p : Int} {n k : Nat} (h : PyGe14.shape p = some (n, k)) : k = 0 ∧ ((p = 0 ∧ n = 3) ∨ (p = 1 ∧ n = 2) ∨ (p = 2 ∧ n = 1) ∨ (p = 3 ∧ n = 1) ∨ (p = 4 ∧ n = 1) ∨ (p = 5 ∧ n = 1) ∨ (p = 6 ∧ n = 1) ∨ (p = 7 ∧ n = 1) ∨ (p = 8 ∧ n = 0) ∨ (p = 9 ∧ n = 0) ∨ (p = 10 ∧ n = 0) ∨ (p = 11 ∧ n = 1) ∨ (p = 12 ∧ n = 2)) := by
  unfold PyGe14.shape at h
  by_cases c : p = 0
  · rw [if_pos c] at h
    cases h
    exact ⟨rfl, .inl ⟨c, rfl⟩⟩
  rw [if_neg c] at h
  clear c
  by_cases c : p = 1
  · rw [if_pos c] at h
    cases h
    exact ⟨rfl, .inr (.inl ⟨c, rfl⟩)⟩
  rw [if_neg c] at h
  clear c
  by_cases c : p = 2
  · rw [if_pos c] at h
    cases h
    exact ⟨rfl, .inr (.inr (.inl ⟨c, rfl⟩))⟩
  rw [if_neg c] at h
  clear c
  by_cases c : p = 3
  · rw [if_pos c] at h
    cases h
    exact ⟨rfl, .inr (.inr (.inr (.inl ⟨c, rfl⟩)))⟩
  rw [if_neg c] at h
  clear c
  by_cases c : p = 4
  · rw [if_pos c] at h
    cases h
    exact ⟨rfl, .inr (.inr (.inr (.inr (.inl ⟨c, rfl⟩))))⟩
  rw [if_neg c] at h
  clear c
  by_cases c : p = 5
  · rw [if_pos c] at h
    cases h
    exact ⟨rfl, .inr (.inr (.inr (.inr (.inr (.inl ⟨c, rfl⟩)))))⟩
  rw [if_neg c] at h
  clear c
  by_cases c : p = 6
  · rw [if_pos c] at h
    cases h
    exact ⟨rfl, .inr (.inr (.inr (.inr (.inr (.inr (.inl ⟨c, rfl⟩))))))⟩
  rw [if_neg c] at h
  clear c
  by_cases c : p = 7
  · rw [if_pos c] at h
    cases h
    exact ⟨rfl, .inr (.inr (.inr (.inr (.inr (.inr (.inr (.inl ⟨c, rfl⟩)))))))⟩
  rw [if_neg c] at h
  clear c
  by_cases c : p = 8
  · rw [if_pos c] at h
    cases h
    exact ⟨rfl, .inr (.inr (.inr (.inr (.inr (.inr (.inr (.inr (.inl ⟨c, rfl⟩))))))))⟩
  rw [if_neg c] at h
  clear c
  by_cases c : p = 9
  · rw [if_pos c] at h
    cases h
    exact ⟨rfl, .inr (.inr (.inr (.inr (.inr (.inr (.inr (.inr (.inr (.inl ⟨c, rfl⟩)))))))))⟩
  rw [if_neg c] at h
  clear c
  by_cases c : p = 10
  · rw [if_pos c] at h
    cases h
    exact ⟨rfl, .inr (.inr (.inr (.inr (.inr (.inr (.inr (.inr (.inr (.inr (.inl ⟨c, rfl⟩))))))))))⟩
  rw [if_neg c] at h
  clear c
  by_cases c : p = 11
  · rw [if_pos c] at h
    cases h
    exact ⟨rfl, .inr (.inr (.inr (.inr (.inr (.inr (.inr (.inr (.inr (.inr (.inr (.inl ⟨c, rfl⟩)))))))))))⟩
  rw [if_neg c] at h
  clear c
  by_cases c : p = 12
  · rw [if_pos c] at h
    cases h
    exact ⟨rfl, .inr (.inr (.inr (.inr (.inr (.inr (.inr (.inr (.inr (.inr (.inr (.inr (⟨c, rfl⟩))))))))))))⟩
  rw [if_neg c] at h
  clear c
  cases h
theorem shape_rows {p : Int} {n k : Nat} (h : PyGe14.shape p = some (n, k)) : k = 0 := (shape_cases h).1
theorem parse : ∀ (f : Nat) (l : List Int) (raw : List (List (List Int))), PyFlat.calls PyGe14.shape f l = some raw → ∃ cs : List (List Int), raw = cs.map (fun c => [c]) ∧ l = cs.flatten ∧ ∀ c ∈ cs, Good c
  | 0, [], raw, h => by
    cases h
    exact ⟨[], rfl, rfl, fun c h => nomatch h⟩
  | f + 1, [], raw, h => by
    cases h
    exact ⟨[], rfl, rfl, fun c h => nomatch h⟩
  | 0, p :: r, raw, h => by cases h
  | f + 1, p :: r, raw, h => by
    unfold PyFlat.calls at h
    cases e1 : PyFlat.call PyGe14.shape (p :: r) with
    | none =>
      rw [e1] at h
      cases h
    | some ct =>
      obtain ⟨c, t⟩ := ct
      rw [e1] at h
      simp only at h
      cases e2 : PyFlat.calls PyGe14.shape f t with
      | none =>
        rw [e2] at h
        cases h
      | some cs =>
        rw [e2] at h
        cases h
        have e1 : (match PyGe14.shape p with
          | none => none
          | some (n, k) => if r.length < n then none else match PyFlat.rows k (r.drop n) with
            | none => none
            | some (xs, t) => some ((p :: r.take n) :: xs, t)) = some (c, t) := e1
        cases e3 : PyGe14.shape p with
        | none =>
          rw [e3] at e1
          cases e1
        | some nk =>
          obtain ⟨n, k⟩ := nk
          have hk := shape_rows e3
          subst hk
          rw [e3] at e1
          simp only at e1
          split at e1
          · cases e1
          · rename_i hlt
            simp only [PyFlat.rows, Option.some.injEq, Prod.mk.injEq] at e1
            obtain ⟨rfl, rfl⟩ := e1
            obtain ⟨cs', rfl, e4, hg⟩ := parse f (r.drop n) cs e2
            refine ⟨(p :: r.take n) :: cs', rfl, ?_, ?_⟩
            · rw [List.flatten_cons, ← e4, List.cons_append, List.take_append_drop]
            · intro c hc
              rcases List.mem_cons.mp hc with rfl | hc
              · exact ⟨p, r.take n, n, rfl, e3, by rw [List.length_take]; omega⟩
              · exact hg c hc
theorem good_nat {c : List Int} (h : Good c) (hn : ∀ x ∈ c, 0 ≤ x ∧ x ≤ 4294967295) : ∃ d : List Nat, c = iz d ∧ (∃ x, Ge14Neutral.callIn d = some x) ∧ (∀ x ∈ d, x ≤ 4294967295) ∧ PyGe14.whole [c] = [c] ∧ ∀ g, Ge14Neutral.step g c = stepN g d := by
  obtain ⟨p, r, n, rfl, hs, hr⟩ := h
  have key : ∀ d : List Nat, p :: r = iz d → (∃ x, Ge14Neutral.callIn d = some x) → PyGe14.whole [p :: r] = [p :: r] → ∃ d : List Nat, p :: r = iz d ∧ (∃ x, Ge14Neutral.callIn d = some x) ∧ (∀ x ∈ d, x ≤ 4294967295) ∧ PyGe14.whole [p :: r] = [p :: r] ∧ ∀ g, Ge14Neutral.step g (p :: r) = stepN g d := by
    intro d e1 e2 e3
    refine ⟨d, e1, e2, ?_, e3, fun g => ?_⟩
    · intro x hx
      have := hn (x : Int) (by rw [e1]; exact List.mem_map.mpr ⟨x, hx, rfl⟩)
      omega
    · have e4 : Ge14Neutral.callOf (p :: r) = Ge14Neutral.callIn d := by
        unfold Ge14Neutral.callOf
        have e5 : (p :: r).all Ge14Neutral.nat = true := by
          rw [List.all_eq_true]
          intro x hx
          have := hn x hx
          simp only [Ge14Neutral.nat, Bool.and_eq_true, decide_eq_true_eq]
          omega
        have e6 : (p :: r).map Int.toNat = d := by
          rw [e1]
          unfold iz
          rw [List.map_map]
          have : (Int.toNat ∘ fun (n : Nat) => (n : Int)) = id := by
            funext x
            simp
          rw [this, List.map_id]
        rw [e5, e6]
        simp
      unfold Ge14Neutral.step stepN
      rw [e4]
      cases e7 : Ge14Neutral.callIn d with
      | none => rfl
      | some x => rfl
  have nat : ∀ x : Int, x ∈ p :: r → ((x.toNat : Nat) : Int) = x := fun x hx => by
    have := hn x hx
    omega
  rcases (shape_cases hs).2 with hp | hp | hp | hp | hp | hp | hp | hp | hp | hp | hp | hp | hp
  all_goals obtain ⟨rfl, rfl⟩ := hp
  all_goals rcases r with _ | ⟨x0, _ | ⟨x1, _ | ⟨x2, _ | ⟨x3, r⟩⟩⟩⟩
  all_goals simp only [List.length_nil, List.length_cons] at hr
  all_goals first | omega | skip
  · refine key [0, x0.toNat, x1.toNat, x2.toNat] ?_ ⟨_, rfl⟩ rfl
    simp only [iz, List.map_cons, List.map_nil]
    rw [nat x0 (by simp), nat x1 (by simp), nat x2 (by simp)]
    rfl
  · refine key [1, x0.toNat, x1.toNat] ?_ ⟨_, rfl⟩ rfl
    simp only [iz, List.map_cons, List.map_nil]
    rw [nat x0 (by simp), nat x1 (by simp)]
    rfl
  · refine key [2, x0.toNat] ?_ ⟨_, rfl⟩ rfl
    simp only [iz, List.map_cons, List.map_nil]
    rw [nat x0 (by simp)]
    rfl
  · refine key [3, x0.toNat] ?_ ⟨_, rfl⟩ rfl
    simp only [iz, List.map_cons, List.map_nil]
    rw [nat x0 (by simp)]
    rfl
  · refine key [4, x0.toNat] ?_ ⟨_, rfl⟩ rfl
    simp only [iz, List.map_cons, List.map_nil]
    rw [nat x0 (by simp)]
    rfl
  · refine key [5, x0.toNat] ?_ ⟨_, rfl⟩ rfl
    simp only [iz, List.map_cons, List.map_nil]
    rw [nat x0 (by simp)]
    rfl
  · refine key [6, x0.toNat] ?_ ⟨_, rfl⟩ rfl
    simp only [iz, List.map_cons, List.map_nil]
    rw [nat x0 (by simp)]
    rfl
  · refine key [7, x0.toNat] ?_ ⟨_, rfl⟩ rfl
    simp only [iz, List.map_cons, List.map_nil]
    rw [nat x0 (by simp)]
    rfl
  · exact key [8] rfl ⟨_, rfl⟩ rfl
  · exact key [9] rfl ⟨_, rfl⟩ rfl
  · exact key [10] rfl ⟨_, rfl⟩ rfl
  · refine key [11, x0.toNat] ?_ ⟨_, rfl⟩ rfl
    simp only [iz, List.map_cons, List.map_nil]
    rw [nat x0 (by simp)]
    rfl
  · refine key [12, x0.toNat, x1.toNat] ?_ ⟨_, rfl⟩ rfl
    simp only [iz, List.map_cons, List.map_nil]
    rw [nat x0 (by simp), nat x1 (by simp)]
    rfl
theorem good_list : ∀ cs : List (List Int), (∀ c ∈ cs, Good c) → (∀ x ∈ cs.flatten, 0 ≤ x ∧ x ≤ 4294967295) → ∃ ns : List (List Nat), cs.flatten = iz ns.flatten ∧ cs.length = ns.length ∧ (∀ d ∈ ns, (∃ x, Ge14Neutral.callIn d = some x) ∧ ∀ x ∈ d, x ≤ 4294967295) ∧
    (cs.map (fun c => [c])).map PyGe14.whole = cs.map (fun c => [c]) ∧ ∀ g, PyFlat.played (fun s c => Ge14Neutral.step s (c.headD [])) g (cs.map fun c => [c]) = runN g ns
  | [], _, _ => ⟨[], rfl, rfl, (fun d h => nomatch h), rfl, fun g => rfl⟩
  | c :: cs, hg, hn => by
    obtain ⟨d, e1, e2, e3, e4, e5⟩ := good_nat (hg c List.mem_cons_self) fun x hx => hn x (by rw [List.flatten_cons]; exact List.mem_append_left _ hx)
    obtain ⟨ns, f1, f2, f3, f4, f5⟩ := good_list cs (fun c hc => hg c (List.mem_cons_of_mem _ hc)) fun x hx => hn x (by rw [List.flatten_cons]; exact List.mem_append_right _ hx)
    refine ⟨d :: ns, ?_, ?_, ?_, ?_, fun g => ?_⟩
    · rw [List.flatten_cons, List.flatten_cons, f1, e1]
      unfold iz
      rw [List.map_append]
    · rw [List.length_cons, List.length_cons, f2]
    · intro x hx
      rcases List.mem_cons.mp hx with rfl | hx
      · exact ⟨e2, e3⟩
      · exact f3 x hx
    · rw [List.map_cons, List.map_cons, e4, f4]
    · show (Ge14Neutral.step g c).2 :: PyFlat.played _ (Ge14Neutral.step g c).1 (cs.map fun c => [c]) = (stepN g d).2 :: runN (stepN g d).1 ns
      rw [e5, f5]
/-- **what is asked, as calls** -/
theorem asked_calls {l : List Int} (hn : ∀ x ∈ l, 0 ≤ x ∧ x ≤ 4294967295) (h : PyGe14.answers_asked l = true) : ∃ ns : List (List Nat), l = iz ns.flatten ∧ ns.length ≤ 40 ∧ (∀ d ∈ ns, (∃ x, Ge14Neutral.callIn d = some x) ∧ ∀ x ∈ d, x ≤ 4294967295) ∧
    PyGe14.answers l = PyFlat.told (runN Ge14.init ns) ∧ (PyFlat.told (runN Ge14.init ns)).length ≤ 10000000 := by
  unfold PyGe14.answers_asked at h
  cases e : PyFlat.calls PyGe14.shape l.length l with
  | none =>
    rw [e] at h
    cases h
  | some raw =>
    rw [e] at h
    simp only [Bool.and_eq_true] at h
    obtain ⟨⟨⟨⟨_, h40⟩, _⟩, _⟩, hsh⟩ := h
    obtain ⟨cs, rfl, e1, hg⟩ := parse _ _ _ e
    obtain ⟨ns, f1, f2, f3, f4, f5⟩ := good_list cs hg (by rw [← e1]; exact hn)
    have ea : PyGe14.answers l = PyFlat.told (runN Ge14.init ns) := by
      unfold PyGe14.answers PyGe14.calls
      rw [e]
      simp only
      rw [f4, f5]
      rfl
    refine ⟨ns, e1.trans f1, ?_, f3, ea, ?_⟩
    · have := of_decide_eq_true (show decide ((cs.map fun c => [c]).length ≤ 40) = true from h40)
      rw [List.length_map] at this
      omega
    · rw [← ea]
      exact of_decide_eq_true hsh
theorem callIn_cases {c : List Nat} {x : Ge14.Call} (h : Ge14Neutral.callIn c = some x) : (∃ n s a, c = [0, n, s, a] ∧ x = .begins n s a) ∨ (∃ i k, c = [1, i, k] ∧ x = .press i k) ∨ (∃ i, c = [2, i] ∧ x = .send i) ∨ (∃ i, c = [3, i] ∧ x = .arrive i) ∨ (∃ i, c = [4, i] ∧ x = .twice i) ∨ (∃ i, c = [5, i] ∧ x = .lose i) ∨
    (∃ i, c = [6, i] ∧ x = .shown i) ∨ (∃ i, c = [7, i] ∧ x = .sure i) ∨ (c = [8] ∧ x = .net) ∨ (c = [9] ∧ x = .agree) ∨ (c = [10] ∧ x = .heal) ∨ (∃ i, c = [11, i] ∧ x = .machine i) ∨ (∃ i t, c = [12, i, t] ∧ x = .at_ i t) := by
  unfold Ge14Neutral.callIn at h
  split at h <;> first | cases h | skip
  all_goals simp
end Bn

namespace Bn
open PySem PySem.Spec PyProof.Rows L2
abbrev sAnswerTo : Stmt := top 22
abbrev sAnswers : Stmt := top 23
def spAnswerTo (CG CM CL : Addr) : Sp := fun vs H Q _ => ∃ (O : Addr → Prop) (a b : Addr) (g : Ge14.House) (c : Nat) (ns : List Nat) (x : Ge14.Call), vs = [.ref a, nV c, .ref b] ∧ H b = some (.lst (ns.map nV)) ∧ Ge14Neutral.callIn (c :: ns) = some x ∧ (∀ z ∈ ns, z ≤ 4294967295) ∧
  GameIn CG CM CL O H a g ∧ GOk g ∧ Done CG CM CL O H a g x Q
structure GameOk (P : Program) (w : World) (K : PySem.W.Frag) (mg : Str → Option Value) (base : Heap) (CG CM CL : Addr) : Prop where
  begins : MethOk P w K mg base CG "begins" 6 ["self", "players", "seed", "ahead"] (spG3 CG CM CL .begins)
  press : MethOk P w K mg base CG "press" 7 ["self", "machine", "key"] (spG2 CG CM CL .press)
  send : MethOk P w K mg base CG "send" 5 ["self", "machine"] (spG1 CG CM CL .send)
  arrive : MethOk P w K mg base CG "arrive" 4 ["self", "letter"] (spG1 CG CM CL .arrive)
  twice : MethOk P w K mg base CG "twice" 2 ["self", "letter"] (spG1 CG CM CL .twice)
  lose : MethOk P w K mg base CG "lose" 2 ["self", "letter"] (spG1 CG CM CL .lose)
  shown : MethOk P w K mg base CG "shown" 6 ["self", "machine"] (spG1 CG CM CL .shown)
  sure : MethOk P w K mg base CG "sure" 6 ["self", "machine"] (spG1 CG CM CL .sure)
  net : MethOk P w K mg base CG "net" 1 ["self"] (spG0 CG CM CL .net)
  agree : MethOk P w K mg base CG "agree" 6 ["self"] (spG0 CG CM CL .agree)
  heal : MethOk P w K mg base CG "heal" 5 ["self"] (spG0 CG CM CL .heal)
  machine : MethOk P w K mg base CG "machine" 2 ["self", "machine"] (spG1 CG CM CL .machine)
  at_ : MethOk P w K mg base CG "at" 6 ["self", "machine", "ticks"] (spG2 CG CM CL .at_)
theorem is_yes {c : Nat} {A B : Prop} (h : A) : if decide (nV c = nV c) = true then A else B := by
  rw [decide_eq_true rfl, if_pos rfl]
  exact h
theorem is_no {c k : Nat} {A B : Prop} (hc : c ≠ k) (h : B) : if decide (nV c = nV k) = true then A else B := by
  rw [decide_eq_false (p := nV c = nV k) fun z => hc (nV_inj z), if_neg Bool.false_ne_true]
  exact h
section
variable {P : Program} {w : World} {K : PySem.W.Frag} {mg : Str → Option Value} {base : Heap} {CW CL CM CG : Addr}
theorem scAnswerTo : FnScope ["game", "call", "numbers"] ["game", "call", "numbers"] (defScope sAnswerTo) := ⟨rfl, rfl, rfl, by decide +kernel, rfl, by decide +kernel, by decide +kernel⟩
theorem ok_answerTo {f : Addr} {fd : FuncData} (F : Fun K "answer_to" "answer_to" sAnswerTo f fd) (T : TxtG K mg CG) (G : GameOk P w K mg base CG CM CL) :
    FnOk P w K mg base CX0 8 f fd ["game", "call", "numbers"] (spAnswerTo CG CM CL) := by
  obtain ⟨f0, fd0, m0, G0, b0⟩ := G.begins
  obtain ⟨f1, fd1, m1, G1, b1⟩ := G.press
  obtain ⟨f2, fd2, m2, G2, b2⟩ := G.send
  obtain ⟨f3, fd3, m3, G3, b3⟩ := G.arrive
  obtain ⟨f4, fd4, m4, G4, b4⟩ := G.twice
  obtain ⟨f5, fd5, m5, G5, b5⟩ := G.lose
  obtain ⟨f6, fd6, m6, G6, b6⟩ := G.shown
  obtain ⟨f7, fd7, m7, G7, b7⟩ := G.sure
  obtain ⟨f8, fd8, m8, G8, b8⟩ := G.net
  obtain ⟨f9, fd9, m9, G9, b9⟩ := G.agree
  obtain ⟨f10, fd10, m10, G10, b10⟩ := G.heal
  obtain ⟨f11, fd11, m11, G11, b11⟩ := G.machine
  obtain ⟨f12, fd12, m12, G12, b12⟩ := G.at_
  refine F.ok scAnswerTo (fun vs H Q E h => ?_) (fun cdv A outer s H vs Q E hr h => ?_)
  · obtain ⟨O, a, b, g, c, ns, x, rfl, _⟩ := h
    rfl
  · obtain ⟨O, a, b, g, c, ns, x, rfl, hb, hx, h32, hg, gok, q⟩ := h
    obtain ⟨dx, lm, ll, ms, ls, own, h⟩ := id hg
    have hr1 : Room 1 _ := hr.mono (by decide)
    have hr2 : Room 2 _ := hr.mono (by decide)
    have hr4 : Room 4 _ := hr.mono (by decide)
    have hr5 : Room 5 _ := hr.mono (by decide)
    have hr6 : Room 6 _ := hr.mono (by decide)
    have hr7 : Room 7 _ := hr
    refine ⟨_, (pss_cons (ps_if (pt_cmpR op_eq (pv 1) pe_int (nomark _)) (pss_one (ps_ret (pe_meth (pv 0) T.cl m0 G0 hr6 b0 .nil pass0 (pa_cons (pe_ix ix_list (pv 2) pe_int (fun _ _ => rfl)) (pa_cons (pe_ix ix_list (pv 2) pe_int (fun _ _ => rfl)) (pa_cons (pe_ix ix_list (pv 2) pe_int (fun _ _ => rfl)) pa_nil)))))) pss_nil)
      (pss_cons (ps_if (pt_cmpR op_eq (pv 1) pe_int (nomark _)) (pss_one (ps_ret (pe_meth (pv 0) T.cl m1 G1 hr7 b1 .nil pass0 (pa_cons (pe_ix ix_list (pv 2) pe_int (fun _ _ => rfl)) (pa_cons (pe_ix ix_list (pv 2) pe_int (fun _ _ => rfl)) pa_nil))))) pss_nil)
      (pss_cons (ps_if (pt_cmpR op_eq (pv 1) pe_int (nomark _)) (pss_one (ps_ret (pe_meth (pv 0) T.cl m2 G2 hr5 b2 .nil pass0 (pa_cons (pe_ix ix_list (pv 2) pe_int (fun _ _ => rfl)) pa_nil)))) pss_nil)
      (pss_cons (ps_if (pt_cmpR op_eq (pv 1) pe_int (nomark _)) (pss_one (ps_ret (pe_meth (pv 0) T.cl m3 G3 hr4 b3 .nil pass0 (pa_cons (pe_ix ix_list (pv 2) pe_int (fun _ _ => rfl)) pa_nil)))) pss_nil)
      (pss_cons (ps_if (pt_cmpR op_eq (pv 1) pe_int (nomark _)) (pss_one (ps_ret (pe_meth (pv 0) T.cl m4 G4 hr2 b4 .nil pass0 (pa_cons (pe_ix ix_list (pv 2) pe_int (fun _ _ => rfl)) pa_nil)))) pss_nil)
      (pss_cons (ps_if (pt_cmpR op_eq (pv 1) pe_int (nomark _)) (pss_one (ps_ret (pe_meth (pv 0) T.cl m5 G5 hr2 b5 .nil pass0 (pa_cons (pe_ix ix_list (pv 2) pe_int (fun _ _ => rfl)) pa_nil)))) pss_nil)
      (pss_cons (ps_if (pt_cmpR op_eq (pv 1) pe_int (nomark _)) (pss_one (ps_ret (pe_meth (pv 0) T.cl m6 G6 hr6 b6 .nil pass0 (pa_cons (pe_ix ix_list (pv 2) pe_int (fun _ _ => rfl)) pa_nil)))) pss_nil)
      (pss_cons (ps_if (pt_cmpR op_eq (pv 1) pe_int (nomark _)) (pss_one (ps_ret (pe_meth (pv 0) T.cl m7 G7 hr6 b7 .nil pass0 (pa_cons (pe_ix ix_list (pv 2) pe_int (fun _ _ => rfl)) pa_nil)))) pss_nil)
      (pss_cons (ps_if (pt_cmpR op_eq (pv 1) pe_int (nomark _)) (pss_one (ps_ret (pe_meth0 (pv 0) T.cl m8 G8 hr1 b8 .nil pass0))) pss_nil)
      (pss_cons (ps_if (pt_cmpR op_eq (pv 1) pe_int (nomark _)) (pss_one (ps_ret (pe_meth0 (pv 0) T.cl m9 G9 hr6 b9 .nil pass0))) pss_nil)
      (pss_cons (ps_if (pt_cmpR op_eq (pv 1) pe_int (nomark _)) (pss_one (ps_ret (pe_meth0 (pv 0) T.cl m10 G10 hr5 b10 .nil pass0))) pss_nil)
      (pss_cons (ps_if (pt_cmpR op_eq (pv 1) pe_int (nomark _)) (pss_one (ps_ret (pe_meth (pv 0) T.cl m11 G11 hr2 b11 .nil pass0 (pa_cons (pe_ix ix_list (pv 2) pe_int (fun _ _ => rfl)) pa_nil)))) pss_nil)
      (pss_one (ps_ret (pe_meth (pv 0) T.cl m12 G12 hr6 b12 .nil pass0 (pa_cons (pe_ix ix_list (pv 2) pe_int (fun _ _ => rfl)) (pa_cons (pe_ix ix_list (pv 2) pe_int (fun _ _ => rfl)) pa_nil))))))))))))))))), ?_⟩
    rcases callIn_cases hx with h0 | h1 | h2 | h3 | h4 | h5 | h6 | h7 | h8 | h9 | h10 | h11 | h12
    · obtain ⟨x0, x1, x2, e, rfl⟩ := h0
      cases e
      refine ⟨_, rfl, rfl, _, rfl, is_yes (c := 0) ?_⟩
      exact ⟨_, rfl, a, dx, _, rfl, h.ha, gF_no (by decide +kernel) (by decide +kernel) (by decide +kernel), _, rfl, b, _, _, nV x0, rfl, rfl, SqL.of hb, atI_nat (j := 0) rfl, _, rfl, b, _, _, nV x1, rfl, rfl, SqL.of hb, atI_nat (j := 1) rfl, _, rfl, b, _, _, nV x2, rfl, rfl, SqL.of hb, atI_nat (j := 2) rfl, O, a, g, x0, x1, x2, rfl, hg, gok, q⟩
    · obtain ⟨x0, x1, e, rfl⟩ := h1
      cases e
      refine ⟨_, rfl, rfl, _, rfl, is_no (c := 1) (k := 0) (by decide) ?_⟩
      refine ⟨_, rfl, rfl, _, rfl, is_yes (c := 1) ?_⟩
      exact ⟨_, rfl, a, dx, _, rfl, h.ha, gF_no (by decide +kernel) (by decide +kernel) (by decide +kernel), _, rfl, b, _, _, nV x0, rfl, rfl, SqL.of hb, atI_nat (j := 0) rfl, _, rfl, b, _, _, nV x1, rfl, rfl, SqL.of hb, atI_nat (j := 1) rfl, O, a, g, x0, x1, rfl, h32 _ (by simp), hg, gok, q⟩
    · obtain ⟨x0, e, rfl⟩ := h2
      cases e
      refine ⟨_, rfl, rfl, _, rfl, is_no (c := 2) (k := 0) (by decide) ?_⟩
      refine ⟨_, rfl, rfl, _, rfl, is_no (c := 2) (k := 1) (by decide) ?_⟩
      refine ⟨_, rfl, rfl, _, rfl, is_yes (c := 2) ?_⟩
      exact ⟨_, rfl, a, dx, _, rfl, h.ha, gF_no (by decide +kernel) (by decide +kernel) (by decide +kernel), _, rfl, b, _, _, nV x0, rfl, rfl, SqL.of hb, atI_nat (j := 0) rfl, O, a, g, x0, rfl, h32 _ (by simp), hg, gok, q⟩
    · obtain ⟨x0, e, rfl⟩ := h3
      cases e
      refine ⟨_, rfl, rfl, _, rfl, is_no (c := 3) (k := 0) (by decide) ?_⟩
      refine ⟨_, rfl, rfl, _, rfl, is_no (c := 3) (k := 1) (by decide) ?_⟩
      refine ⟨_, rfl, rfl, _, rfl, is_no (c := 3) (k := 2) (by decide) ?_⟩
      refine ⟨_, rfl, rfl, _, rfl, is_yes (c := 3) ?_⟩
      exact ⟨_, rfl, a, dx, _, rfl, h.ha, gF_no (by decide +kernel) (by decide +kernel) (by decide +kernel), _, rfl, b, _, _, nV x0, rfl, rfl, SqL.of hb, atI_nat (j := 0) rfl, O, a, g, x0, rfl, h32 _ (by simp), hg, gok, q⟩
    · obtain ⟨x0, e, rfl⟩ := h4
      cases e
      refine ⟨_, rfl, rfl, _, rfl, is_no (c := 4) (k := 0) (by decide) ?_⟩
      refine ⟨_, rfl, rfl, _, rfl, is_no (c := 4) (k := 1) (by decide) ?_⟩
      refine ⟨_, rfl, rfl, _, rfl, is_no (c := 4) (k := 2) (by decide) ?_⟩
      refine ⟨_, rfl, rfl, _, rfl, is_no (c := 4) (k := 3) (by decide) ?_⟩
      refine ⟨_, rfl, rfl, _, rfl, is_yes (c := 4) ?_⟩
      exact ⟨_, rfl, a, dx, _, rfl, h.ha, gF_no (by decide +kernel) (by decide +kernel) (by decide +kernel), _, rfl, b, _, _, nV x0, rfl, rfl, SqL.of hb, atI_nat (j := 0) rfl, O, a, g, x0, rfl, h32 _ (by simp), hg, gok, q⟩
    · obtain ⟨x0, e, rfl⟩ := h5
      cases e
      refine ⟨_, rfl, rfl, _, rfl, is_no (c := 5) (k := 0) (by decide) ?_⟩
      refine ⟨_, rfl, rfl, _, rfl, is_no (c := 5) (k := 1) (by decide) ?_⟩
      refine ⟨_, rfl, rfl, _, rfl, is_no (c := 5) (k := 2) (by decide) ?_⟩
      refine ⟨_, rfl, rfl, _, rfl, is_no (c := 5) (k := 3) (by decide) ?_⟩
      refine ⟨_, rfl, rfl, _, rfl, is_no (c := 5) (k := 4) (by decide) ?_⟩
      refine ⟨_, rfl, rfl, _, rfl, is_yes (c := 5) ?_⟩
      exact ⟨_, rfl, a, dx, _, rfl, h.ha, gF_no (by decide +kernel) (by decide +kernel) (by decide +kernel), _, rfl, b, _, _, nV x0, rfl, rfl, SqL.of hb, atI_nat (j := 0) rfl, O, a, g, x0, rfl, h32 _ (by simp), hg, gok, q⟩
    · obtain ⟨x0, e, rfl⟩ := h6
      cases e
      refine ⟨_, rfl, rfl, _, rfl, is_no (c := 6) (k := 0) (by decide) ?_⟩
      refine ⟨_, rfl, rfl, _, rfl, is_no (c := 6) (k := 1) (by decide) ?_⟩
      refine ⟨_, rfl, rfl, _, rfl, is_no (c := 6) (k := 2) (by decide) ?_⟩
      refine ⟨_, rfl, rfl, _, rfl, is_no (c := 6) (k := 3) (by decide) ?_⟩
      refine ⟨_, rfl, rfl, _, rfl, is_no (c := 6) (k := 4) (by decide) ?_⟩
      refine ⟨_, rfl, rfl, _, rfl, is_no (c := 6) (k := 5) (by decide) ?_⟩
      refine ⟨_, rfl, rfl, _, rfl, is_yes (c := 6) ?_⟩
      exact ⟨_, rfl, a, dx, _, rfl, h.ha, gF_no (by decide +kernel) (by decide +kernel) (by decide +kernel), _, rfl, b, _, _, nV x0, rfl, rfl, SqL.of hb, atI_nat (j := 0) rfl, O, a, g, x0, rfl, h32 _ (by simp), hg, gok, q⟩
    · obtain ⟨x0, e, rfl⟩ := h7
      cases e
      refine ⟨_, rfl, rfl, _, rfl, is_no (c := 7) (k := 0) (by decide) ?_⟩
      refine ⟨_, rfl, rfl, _, rfl, is_no (c := 7) (k := 1) (by decide) ?_⟩
      refine ⟨_, rfl, rfl, _, rfl, is_no (c := 7) (k := 2) (by decide) ?_⟩
      refine ⟨_, rfl, rfl, _, rfl, is_no (c := 7) (k := 3) (by decide) ?_⟩
      refine ⟨_, rfl, rfl, _, rfl, is_no (c := 7) (k := 4) (by decide) ?_⟩
      refine ⟨_, rfl, rfl, _, rfl, is_no (c := 7) (k := 5) (by decide) ?_⟩
      refine ⟨_, rfl, rfl, _, rfl, is_no (c := 7) (k := 6) (by decide) ?_⟩
      refine ⟨_, rfl, rfl, _, rfl, is_yes (c := 7) ?_⟩
      exact ⟨_, rfl, a, dx, _, rfl, h.ha, gF_no (by decide +kernel) (by decide +kernel) (by decide +kernel), _, rfl, b, _, _, nV x0, rfl, rfl, SqL.of hb, atI_nat (j := 0) rfl, O, a, g, x0, rfl, h32 _ (by simp), hg, gok, q⟩
    · obtain ⟨e, rfl⟩ := h8
      cases e
      refine ⟨_, rfl, rfl, _, rfl, is_no (c := 8) (k := 0) (by decide) ?_⟩
      refine ⟨_, rfl, rfl, _, rfl, is_no (c := 8) (k := 1) (by decide) ?_⟩
      refine ⟨_, rfl, rfl, _, rfl, is_no (c := 8) (k := 2) (by decide) ?_⟩
      refine ⟨_, rfl, rfl, _, rfl, is_no (c := 8) (k := 3) (by decide) ?_⟩
      refine ⟨_, rfl, rfl, _, rfl, is_no (c := 8) (k := 4) (by decide) ?_⟩
      refine ⟨_, rfl, rfl, _, rfl, is_no (c := 8) (k := 5) (by decide) ?_⟩
      refine ⟨_, rfl, rfl, _, rfl, is_no (c := 8) (k := 6) (by decide) ?_⟩
      refine ⟨_, rfl, rfl, _, rfl, is_no (c := 8) (k := 7) (by decide) ?_⟩
      refine ⟨_, rfl, rfl, _, rfl, is_yes (c := 8) ?_⟩
      exact ⟨_, rfl, a, dx, _, rfl, h.ha, gF_no (by decide +kernel) (by decide +kernel) (by decide +kernel), O, a, g, rfl, hg, gok, q⟩
    · obtain ⟨e, rfl⟩ := h9
      cases e
      refine ⟨_, rfl, rfl, _, rfl, is_no (c := 9) (k := 0) (by decide) ?_⟩
      refine ⟨_, rfl, rfl, _, rfl, is_no (c := 9) (k := 1) (by decide) ?_⟩
      refine ⟨_, rfl, rfl, _, rfl, is_no (c := 9) (k := 2) (by decide) ?_⟩
      refine ⟨_, rfl, rfl, _, rfl, is_no (c := 9) (k := 3) (by decide) ?_⟩
      refine ⟨_, rfl, rfl, _, rfl, is_no (c := 9) (k := 4) (by decide) ?_⟩
      refine ⟨_, rfl, rfl, _, rfl, is_no (c := 9) (k := 5) (by decide) ?_⟩
      refine ⟨_, rfl, rfl, _, rfl, is_no (c := 9) (k := 6) (by decide) ?_⟩
      refine ⟨_, rfl, rfl, _, rfl, is_no (c := 9) (k := 7) (by decide) ?_⟩
      refine ⟨_, rfl, rfl, _, rfl, is_no (c := 9) (k := 8) (by decide) ?_⟩
      refine ⟨_, rfl, rfl, _, rfl, is_yes (c := 9) ?_⟩
      exact ⟨_, rfl, a, dx, _, rfl, h.ha, gF_no (by decide +kernel) (by decide +kernel) (by decide +kernel), O, a, g, rfl, hg, gok, q⟩
    · obtain ⟨e, rfl⟩ := h10
      cases e
      refine ⟨_, rfl, rfl, _, rfl, is_no (c := 10) (k := 0) (by decide) ?_⟩
      refine ⟨_, rfl, rfl, _, rfl, is_no (c := 10) (k := 1) (by decide) ?_⟩
      refine ⟨_, rfl, rfl, _, rfl, is_no (c := 10) (k := 2) (by decide) ?_⟩
      refine ⟨_, rfl, rfl, _, rfl, is_no (c := 10) (k := 3) (by decide) ?_⟩
      refine ⟨_, rfl, rfl, _, rfl, is_no (c := 10) (k := 4) (by decide) ?_⟩
      refine ⟨_, rfl, rfl, _, rfl, is_no (c := 10) (k := 5) (by decide) ?_⟩
      refine ⟨_, rfl, rfl, _, rfl, is_no (c := 10) (k := 6) (by decide) ?_⟩
      refine ⟨_, rfl, rfl, _, rfl, is_no (c := 10) (k := 7) (by decide) ?_⟩
      refine ⟨_, rfl, rfl, _, rfl, is_no (c := 10) (k := 8) (by decide) ?_⟩
      refine ⟨_, rfl, rfl, _, rfl, is_no (c := 10) (k := 9) (by decide) ?_⟩
      refine ⟨_, rfl, rfl, _, rfl, is_yes (c := 10) ?_⟩
      exact ⟨_, rfl, a, dx, _, rfl, h.ha, gF_no (by decide +kernel) (by decide +kernel) (by decide +kernel), O, a, g, rfl, hg, gok, q⟩
    · obtain ⟨x0, e, rfl⟩ := h11
      cases e
      refine ⟨_, rfl, rfl, _, rfl, is_no (c := 11) (k := 0) (by decide) ?_⟩
      refine ⟨_, rfl, rfl, _, rfl, is_no (c := 11) (k := 1) (by decide) ?_⟩
      refine ⟨_, rfl, rfl, _, rfl, is_no (c := 11) (k := 2) (by decide) ?_⟩
      refine ⟨_, rfl, rfl, _, rfl, is_no (c := 11) (k := 3) (by decide) ?_⟩
      refine ⟨_, rfl, rfl, _, rfl, is_no (c := 11) (k := 4) (by decide) ?_⟩
      refine ⟨_, rfl, rfl, _, rfl, is_no (c := 11) (k := 5) (by decide) ?_⟩
      refine ⟨_, rfl, rfl, _, rfl, is_no (c := 11) (k := 6) (by decide) ?_⟩
      refine ⟨_, rfl, rfl, _, rfl, is_no (c := 11) (k := 7) (by decide) ?_⟩
      refine ⟨_, rfl, rfl, _, rfl, is_no (c := 11) (k := 8) (by decide) ?_⟩
      refine ⟨_, rfl, rfl, _, rfl, is_no (c := 11) (k := 9) (by decide) ?_⟩
      refine ⟨_, rfl, rfl, _, rfl, is_no (c := 11) (k := 10) (by decide) ?_⟩
      refine ⟨_, rfl, rfl, _, rfl, is_yes (c := 11) ?_⟩
      exact ⟨_, rfl, a, dx, _, rfl, h.ha, gF_no (by decide +kernel) (by decide +kernel) (by decide +kernel), _, rfl, b, _, _, nV x0, rfl, rfl, SqL.of hb, atI_nat (j := 0) rfl, O, a, g, x0, rfl, h32 _ (by simp), hg, gok, q⟩
    · obtain ⟨x0, x1, e, rfl⟩ := h12
      cases e
      refine ⟨_, rfl, rfl, _, rfl, is_no (c := 12) (k := 0) (by decide) ?_⟩
      refine ⟨_, rfl, rfl, _, rfl, is_no (c := 12) (k := 1) (by decide) ?_⟩
      refine ⟨_, rfl, rfl, _, rfl, is_no (c := 12) (k := 2) (by decide) ?_⟩
      refine ⟨_, rfl, rfl, _, rfl, is_no (c := 12) (k := 3) (by decide) ?_⟩
      refine ⟨_, rfl, rfl, _, rfl, is_no (c := 12) (k := 4) (by decide) ?_⟩
      refine ⟨_, rfl, rfl, _, rfl, is_no (c := 12) (k := 5) (by decide) ?_⟩
      refine ⟨_, rfl, rfl, _, rfl, is_no (c := 12) (k := 6) (by decide) ?_⟩
      refine ⟨_, rfl, rfl, _, rfl, is_no (c := 12) (k := 7) (by decide) ?_⟩
      refine ⟨_, rfl, rfl, _, rfl, is_no (c := 12) (k := 8) (by decide) ?_⟩
      refine ⟨_, rfl, rfl, _, rfl, is_no (c := 12) (k := 9) (by decide) ?_⟩
      refine ⟨_, rfl, rfl, _, rfl, is_no (c := 12) (k := 10) (by decide) ?_⟩
      refine ⟨_, rfl, rfl, _, rfl, is_no (c := 12) (k := 11) (by decide) ?_⟩
      exact ⟨_, rfl, a, dx, _, rfl, h.ha, gF_no (by decide +kernel) (by decide +kernel) (by decide +kernel), _, rfl, b, _, _, nV x0, rfl, rfl, SqL.of hb, atI_nat (j := 0) rfl, _, rfl, b, _, _, nV x1, rfl, rfl, SqL.of hb, atI_nat (j := 1) rfl, O, a, g, x0, x1, rfl, h32 _ (by simp), hg, gok, q⟩
end
end Bn

namespace Bn
open PySem PySem.Spec PyProof.Rows L2
def argN : List Nat := [3, 2, 1, 1, 1, 1, 1, 1, 0, 0, 0, 1, 2]
def ArgsOk (K : PySem.W.Frag) (mg : Str → Option Value) : Prop := ∃ aA : Addr, mg "ARGUMENTS" = some (.ref aA) ∧ ∀ H, SqT K H aA (argN.map nV)
theorem callIn_args {c : Nat} {ns : List Nat} {x : Ge14.Call} (h : Ge14Neutral.callIn (c :: ns) = some x) : argN[c]? = some ns.length := by
  rcases callIn_cases h with ⟨_, _, _, e, _⟩ | ⟨_, _, e, _⟩ | ⟨_, e, _⟩ | ⟨_, e, _⟩ | ⟨_, e, _⟩ | ⟨_, e, _⟩ | ⟨_, e, _⟩ | ⟨_, e, _⟩ | ⟨e, _⟩ | ⟨e, _⟩ | ⟨e, _⟩ | ⟨_, e, _⟩ | ⟨_, _, e, _⟩
  all_goals cases e
  all_goals rfl
theorem callIn_cons {d : List Nat} {x : Ge14.Call} (h : Ge14Neutral.callIn d = some x) : ∃ c ns, d = c :: ns := by
  cases d with
  | nil => cases h
  | cons c ns => exact ⟨c, ns, rfl⟩
theorem stepN_some {g : Ge14.St} {d : List Nat} {x : Ge14.Call} (h : Ge14Neutral.callIn d = some x) : stepN g d = Ge14.step g x := by
  unfold stepN
  rw [h]
theorem told_append (a b : List (List Int)) : PyFlat.told (a ++ b) = PyFlat.told a ++ PyFlat.told b := by
  unfold PyFlat.told
  rw [List.flatMap_append]
theorem told_one (a : List Int) : PyFlat.told [a] = (a.length : Int) :: a := by
  unfold PyFlat.told
  simp
theorem run_more {g : Ge14.St} {pre : List (List Nat)} {d : List Nat} {x : Ge14.Call} (h : Ge14Neutral.callIn d = some x) :
    PyFlat.told (runN g (pre ++ [d])) = PyFlat.told (runN g pre) ++ (((Ge14.step (stateN g pre) x).2.length : Int) :: (Ge14.step (stateN g pre) x).2) ∧ stateN g (pre ++ [d]) = (Ge14.step (stateN g pre) x).1 := by
  constructor
  · rw [runN_append, told_append]
    congr 1
    show PyFlat.told [(stepN (stateN g pre) d).2] = _
    rw [told_one, stepN_some h]
  · rw [stateN_append]
    show (stepN (stateN g pre) d).1 = _
    rw [stepN_some h]
def intOf : Option (Option V) → Int
  | some (some (V.int i)) => i
  | _ => 0
def placeOf (n : Nat) (σ : List (Option V)) : Nat := n - (intOf σ[3]?).toNat
theorem placeOf_is {n k : Nat} {u1 u2 u3 : Option V} {r : List (Option V)} : placeOf n (u1 :: u2 :: u3 :: some (nV k) :: r) = n - k := by
  show n - (k : Int).toNat = _
  rw [Int.toNat_natCast]
def spAnswers (K : PySem.W.Frag) : Sp := fun vs H Q _ => ∃ (c : Addr) (ns : List (List Nat)), vs = [.ref c] ∧ SqL K H c (ns.flatten.map nV) ∧ ns.flatten.length ≤ 1000 ∧ (∀ d ∈ ns, (∃ x, Ge14Neutral.callIn d = some x) ∧ ∀ x ∈ d, x ≤ 4294967295) ∧
  (PyFlat.told (runN Ge14.init ns)).length ≤ 10000000 ∧ ∀ (H' : Hp) (p : Addr), H' p = some (.lst ((PyFlat.told (runN Ge14.init ns)).map V.int)) → Q (.ref p) H'
theorem stateN_ok : ∀ (l : List (List Nat)) (g : Ge14.St), GOk g → GOk (stateN g l)
  | [], g, h => h
  | d :: l, g, h => by
    show GOk (stateN (stepN g d).1 l)
    refine stateN_ok l _ ?_
    unfold stepN
    split
    · exact h
    · exact step_ok h _
section
variable {P : Program} {w : World} {K : PySem.W.Frag} {mg : Str → Option Value} {base : Heap} {CW CL CM CG : Addr}
theorem scAnswers : FnScope ["calls", "game", "told", "place", "call", "behind", "answer"] ["calls"] (defScope sAnswers) := ⟨rfl, rfl, rfl, by decide +kernel, rfl, by decide +kernel, by decide +kernel⟩
theorem ok_answers {f : Addr} {fd : FuncData} (F : Fun K "answers" "answers" sAnswers f fd) (T : TxtG K mg CG) (TM : TxtM K mg CL CM) (TA : ArgsOk K mg) (GG : MakeOk P w K mg base "Game" CG 4 ["self"] (spGInit CG CM CL)) (GA : DefOk P w K mg base "answer_to" 8 ["game", "call", "numbers"] (spAnswerTo CG CM CL)) :
    FnOk P w K mg base CX0 9 f fd ["calls"] (spAnswers K) := by
  obtain ⟨fG, fdG, mG, MG, GG, bG⟩ := GG
  obtain ⟨fA, fdA, mA, kA, GA, bA⟩ := GA
  obtain ⟨aA, mT, hT⟩ := TA
  refine F.ok scAnswers (fun vs H Q E h => ?_) (fun cdv A outer s H vs Q E hr h => ?_)
  · obtain ⟨c, ns, rfl, _⟩ := h
    rfl
  · obtain ⟨c, ns, rfl, hc, h160, hd, hlen, q⟩ := h
    have hr5 : Room 5 _ := hr.mono (by decide)
    refine ⟨_, pss_cons (ps_set (i := 1) scAnswers.nd rfl (.inl rfl) (pe_make0 MG GG hr5 rfl mG bG .nil pass0))
      (pss_cons (ps_set (i := 2) scAnswers.nd rfl (.inl rfl) (pe_lst pa_nil))
      (pss_cons (ps_set (i := 3) scAnswers.nd rfl (.inl rfl) pe_int)
      (pss_cons (ps_while PassesOwn.never (pt_cmpR op_lt (pv 3) (pe_callB call_len_seq (by rfl) TM.len PySem.boot_len (pa_cons (pv 0) pa_nil)) (nomark _))
        (pss_cons (ps_set (i := 4) scAnswers.nd rfl (.inl rfl) (pe_ix ix_list (pv 0) (pv 3) (fun _ _ => rfl)))
        (pss_cons (ps_set (i := 5) scAnswers.nd rfl (.inl rfl) (pe_op op_add (pe_op op_add (pv 3) pe_int) (pe_ix ix_tup (pe_glob (v := .ref aA) rfl mT rfl) (pv 4) (fun _ _ => rfl))))
        (pss_cons (ps_set (i := 6) scAnswers.nd rfl (.inl rfl) (pe_call GA hr rfl mA kA bA .nil pass0 (pa_cons (pv 1) (pa_cons (pv 4) (pa_cons (pe_slice sl_list (pv 0) (po_some (pe_op op_add (pv 3) pe_int)) (po_some (pv 5))) pa_nil)))))
        (pss_cons (ps_expr (pe_bm PySem.F.plainAttrs_list PySem.F.slot_list_append PySem.F.type_list_append mt_append (pv 2) (pa_cons (pe_callB call_len_seq (by rfl) TM.len PySem.boot_len (pa_cons (pv 6) pa_nil)) pa_nil)))
        (pss_cons (ps_expr (pe_bm PySem.F.plainAttrs_list PySem.F.slot_list_extend PySem.F.type_list_extend mt_extend (pv 2) (pa_cons (pv 6) pa_nil)))
        (pss_one (ps_set (i := 3) scAnswers.nd rfl (.inl rfl) (pv 5)))))))))
      (pss_one (ps_ret (pv 2)))))), ?_⟩
    intro a dg na ndg nex
    refine ⟨a, dg, rfl, upd_same, fun H0 k0 hg0 => ⟨rfl, ?_⟩⟩
    have s0 : Same H H0 := Same.made na ndg k0
    have hg0' : GameIn CG CM CL (fun z => H z = none) H0 a Ge14.init := hg0.mono fun z hz => by
      rcases hz with rfl | hz
      · exact na
      · by_cases zx : z = a
        · rw [zx]
          exact na
        · by_cases zd : z = dg
          · rw [zd]
            exact ndg
          · rw [upd_ne zx, upd_ne zd] at hz
            exact hz
    refine ⟨Nat.zero_le _, fun t ht => ?_⟩
    have st := same_new (o := .lst []) ht
    refine while_by (fun σ H1 => ∃ (pre rest : List (List Nat)) (v4 v5 v6 : Option V), σ = [some (.ref c), some (.ref a), some (.ref t), some (nV pre.flatten.length), v4, v5, v6] ∧ pre ++ rest = ns ∧ Same H H1 ∧ GameIn CG CM CL (fun z => H z = none ∧ z ≠ t) H1 a (stateN Ge14.init pre) ∧ H1 t = some (.lst ((PyFlat.told (runN Ge14.init pre)).map V.int)))
      (fun σ _ => placeOf ns.flatten.length σ) ?_ ?_ ?_
    · refine ⟨[], ns, none, none, none, rfl, rfl, s0.trans st, ?_, upd_same⟩
      refine (hg0'.strict.same st).mono fun z hz => ⟨hz.1, fun e => hz.2 ?_⟩
      rw [e]
      exact ht
    · rintro σ H1 ⟨pre, rest, v4, v5, v6, rfl, rfl, s1, hg1, t1⟩
      have hc1 := s1.seq hc
      refine ⟨_, rfl, _, rfl, c, _, rfl, .inl hc1, _, _, rfl, rfl, _, rfl, ?_⟩
      rw [List.length_map]
      refine ite2 (fun d => ?_) (fun d => ?_)
      · have d : (pre.flatten.length : Int) < (((pre ++ rest).flatten.length : Nat) : Int) := of_decide_eq_true d
        cases rest with
        | nil =>
          rw [List.append_nil] at d
          omega
        | cons e rest =>
          obtain ⟨⟨x, hx⟩, he32⟩ := hd e (by simp)
          obtain ⟨cn, as, rfl⟩ := callIn_cons hx
          have efl : (pre ++ (cn :: as) :: rest).flatten = pre.flatten ++ (cn :: (as ++ rest.flatten)) := by
            rw [List.flatten_append, List.flatten_cons]
            rfl
          have e1 : ((pre ++ (cn :: as) :: rest).flatten.map nV)[pre.flatten.length]? = some (nV cn) := by
            rw [efl, List.getElem?_map, List.getElem?_append_right (Nat.le_refl _), Nat.sub_self]
            rfl
          have hA := callIn_args hx
          have gok1 : GOk (stateN Ge14.init pre) := stateN_ok pre _ init_ok
          refine ⟨_, rfl, _, rfl, c, _, _, nV cn, rfl, rfl, hc1, atI_nat e1, ?_⟩
          refine ⟨_, rfl, _, _, rfl, rfl, _, rfl, aA, _, _, nV as.length, rfl, rfl, hT H1, atI_nat (by rw [List.getElem?_map, hA]; rfl), _, _, rfl, rfl, ?_⟩
          have eb : (pre.flatten.length : Int) + 1 + (as.length : Int) = ((pre.flatten.length + 1 + as.length : Nat) : Int) := by omega
          have ep : (pre.flatten.length : Int) + 1 = ((pre.flatten.length + 1 : Nat) : Int) := by omega
          refine ⟨_, rfl, _, rfl, _, rfl, _, rfl, _, _, rfl, rfl, _, rfl, _, rfl, _, rfl, c, _, rfl, hc1, fun b hb => ?_⟩
          have ecut : cutV ((pre ++ (cn :: as) :: rest).flatten.map nV) (some ((pre.flatten.length : Int) + 1)) (some ((pre.flatten.length : Int) + 1 + (as.length : Int))) = as.map nV := by
            rw [eb, ep, cut_from_to _ _ _ (by rw [List.length_map, efl, List.length_append, List.length_cons, List.length_append]; omega), ← List.map_drop, ← List.map_take, efl]
            have e2 : (pre.flatten ++ cn :: (as ++ rest.flatten)).drop (pre.flatten.length + 1) = as ++ rest.flatten := by
              rw [List.drop_append]
              simp
            rw [e2]
            have e3 : pre.flatten.length + 1 + as.length - (pre.flatten.length + 1) = as.length := by omega
            rw [e3, List.take_left]
          rw [ecut]
          have sb := same_new (o := .lst (as.map nV)) hb
          have hgb : GameIn CG CM CL (fun z => H z = none ∧ z ≠ t) (upd H1 b (.lst (as.map nV))) a (stateN Ge14.init pre) := hg1.same sb
          have tb := sb _ _ t1
          have sHb := s1.trans sb
          obtain ⟨em1, em2⟩ := run_more (g := Ge14.init) (pre := pre) hx
          have hlen2 : (PyFlat.told (runN Ge14.init pre)).length + (1 + (Ge14.step (stateN Ge14.init pre) x).2.length) ≤ 10000000 := by
            have z : pre ++ (cn :: as) :: rest = (pre ++ [cn :: as]) ++ rest := by simp
            rw [z, runN_append, told_append, List.length_append, em1, List.length_append, List.length_cons] at hlen
            omega
          refine ⟨_, a, b, stateN Ge14.init pre, cn, as, x, rfl, upd_same, hx, fun z hz => he32 z (List.mem_cons_of_mem _ hz), hgb, gok1, fun H2 p k2 hg2 op hp => ?_⟩
          have nt : ∀ z, (Or (fun z => H z = none ∧ z ≠ t) (upd H1 b (.lst (as.map nV)))) z → H z = none ∧ z ≠ t := fun z hz => by
            rcases hz with hz | hz
            · exact hz
            · refine ⟨sHb.free hz, fun e => ?_⟩
              rw [e, tb] at hz
              cases hz
          have npt := (nt p op).2
          have s2 : Same H H2 := fun z o ez => k2 _ _ (sHb _ _ ez) fun hz => by
            rw [hz.1] at ez
            cases ez
          have t2 : H2 t = some (.lst ((PyFlat.told (runN Ge14.init pre)).map V.int)) := k2 _ _ tb fun hz => hz.2 rfl
          have hg2' := hg2.mono nt
          have big : ∀ n : Nat, n ≤ 10000000 → n ≤ sizeLine := fun n hn => Nat.le_trans hn (by decide)
          refine ⟨_, rfl, .inl ⟨rfl, _, SqL.of t2⟩, _, rfl, p, _, rfl, .inl (SqL.of hp), t, _, _, rfl, rfl, t2, ?_, ?_⟩
          · rw [List.length_map]
            exact Nat.lt_of_lt_of_le (Nat.lt_succ_self _) (big _ (by omega))
          refine ⟨_, rfl, .inl ⟨rfl, _, SqL.of upd_same⟩, _, rfl, t, p, _, _, rfl, rfl, upd_same, (upd_ne npt).trans hp, ?_, ?_⟩
          · rw [List.length_append, List.length_map, List.length_map]
            exact big _ (by simp only [List.length_cons, List.length_nil]; omega)
          refine ⟨_, rfl, ⟨pre ++ [cn :: as], rest, some (nV cn), some (nV (pre.flatten.length + 1 + as.length)), some (.ref p), ?_, by simp, ?_, ?_, ?_⟩, ?_⟩
          · have e4 : (pre ++ [cn :: as]).flatten.length = pre.flatten.length + 1 + as.length := by
              rw [List.flatten_append, List.length_append]
              simp
              omega
            rw [e4]
            show [some (V.ref c), some (V.ref a), some (V.ref t), some (V.int ((pre.flatten.length : Int) + 1 + (as.length : Int))), some (nV cn), some (V.int ((pre.flatten.length : Int) + 1 + (as.length : Int))), some (V.ref p)] = _
            rw [eb]
            rfl
          · exact Same.own (Same.own s2 (s0.free ht)) (s0.free ht)
          · rw [em2]
            have kt : Keeps (fun z => z = t) H2 (upd (upd H2 t (.lst ((PyFlat.told (runN Ge14.init pre)).map V.int ++ [V.int (((Ge14.step (stateN Ge14.init pre) x).2.map V.int).length : Int)]))) t (.lst (((PyFlat.told (runN Ge14.init pre)).map V.int ++ [V.int (((Ge14.step (stateN Ge14.init pre) x).2.map V.int).length : Int)]) ++ (Ge14.step (stateN Ge14.init pre) x).2.map V.int))) := ((Keeps.refl (fun z => z = t) H2).upd (.inl rfl)).upd (.inl rfl)
            exact hg2'.keeps kt fun z hz e => hz.2 e
          · rw [upd_same, em1, List.map_append, List.map_cons, List.length_map, List.append_assoc]
            rfl
          · show placeOf _ (_ :: _ :: _ :: some (V.int ((pre.flatten.length : Int) + 1 + (as.length : Int))) :: _) < placeOf _ _
            rw [eb]
            have e5 := placeOf_is (n := (pre ++ (cn :: as) :: rest).flatten.length) (k := pre.flatten.length + 1 + as.length) (u1 := some (V.ref c)) (u2 := some (V.ref a)) (u3 := some (V.ref t)) (r := [some (nV cn), some (nV (pre.flatten.length + 1 + as.length)), some (V.ref p)])
            have e6 := placeOf_is (n := (pre ++ (cn :: as) :: rest).flatten.length) (k := pre.flatten.length) (u1 := some (V.ref c)) (u2 := some (V.ref a)) (u3 := some (V.ref t)) (r := [v4, v5, v6])
            refine Nat.lt_of_le_of_lt (Nat.le_of_eq e5) (Nat.lt_of_lt_of_le ?_ (Nat.le_of_eq e6.symm))
            omega
      · have d : ¬ (pre.flatten.length : Int) < (((pre ++ rest).flatten.length : Nat) : Int) := fun z => d (decide_eq_true z)
        have er : rest = [] := by
          cases rest with
          | nil => rfl
          | cons e rest =>
            exfalso
            obtain ⟨⟨x, hx⟩, _⟩ := hd e (by simp)
            obtain ⟨cn, as, rfl⟩ := callIn_cons hx
            rw [List.flatten_append, List.length_append, List.flatten_cons] at d
            simp at d
            omega
        subst er
        rw [List.append_nil] at q
        exact ⟨_, rfl, q _ t t1⟩
    · intro σ H1 Q1 Q2 hq h
      obtain ⟨u, hu, u2, hu2, p, ys, e1, e2, i, j, e3, e4, k, e5, z⟩ := h
      exact ⟨u, hu, u2, hu2, p, ys, e1, e2, i, j, e3, e4, k, e5, hq _ _ z⟩
end
end Bn

namespace Bn
open PySem PySem.Spec PyProof.Rows L2
theorem all_mk {P : Program} {w : World} {K : PySem.W.Frag} {h : Heap} {mg : Str → Option Value} {fa CW CL CM CG aS aA u0 u1 u2 u3 u4 f1 f2 f3 f4 f5 f6 f7 f8 f9 f10 f11 f12 f13 f14 f15 f16 f17 f18 f19 f20 f21 f22 f23 f24 f25 f26 f27 f28 f29 f30 f31 f32 f33 f34 f35 f36 f37 f38 f39 f40 f41 f42 f43 : Addr} (X : K.In h) (G : h.Ns mainGlobals mg) (hfa : mg "answers" = some (.ref fa))
    {od1 an1 od2 an2 od3 an3 od4 an4 od5 an5 od6 an6 od7 an7 od8 an8 od9 an9 od10 an10 od11 an11 od12 an12 od13 an13 od14 an14 od15 an15 od16 an16 od17 an17 od18 an18 od19 an19 od20 an20 od21 an21 od22 an22 od23 an23 od24 an24 od25 an25 od26 an26 od27 an27 od28 an28 od29 an29 od30 an30 od31 an31 od32 an32 od33 an33 od34 an34 od35 an35 od36 an36 od37 an37 od38 an38 od39 an39 od40 an40 od41 an41 od42 an42 od43 an43 odS odA odS0 odS1 odS2 odS3 odS4 : Option Addr} {sl1 sl2 sl3 sl4 sl5 sl6 sl7 sl8 sl9 sl10 sl11 sl12 sl13 sl14 sl15 sl16 sl17 sl18 sl19 sl20 sl21 sl22 sl23 sl24 sl25 sl26 sl27 sl28 sl29 sl30 sl31 sl32 sl33 sl34 sl35 sl36 sl37 sl38 sl39 sl40 sl41 sl42 sl43 slS slA slS0 slS1 slS2 slS3 slS4 : Array (Option Value)}
    {oc1 kV1 dc1 pm1 cd1 ct1 oc2 kV2 dc2 pm2 cd2 ct2 oc3 kV3 dc3 pm3 cd3 ct3 oc4 kV4 dc4 pm4 cd4 ct4 oc5 kV5 dc5 pm5 cd5 ct5 oc6 kV6 dc6 pm6 cd6 ct6 oc7 kV7 dc7 pm7 cd7 ct7 oc8 kV8 dc8 pm8 cd8 ct8 oc9 kV9 dc9 pm9 cd9 ct9 oc10 kV10 dc10 pm10 cd10 ct10 oc11 kV11 dc11 pm11 cd11 ct11 oc12 kV12 dc12 pm12 cd12 ct12 oc13 kV13 dc13 pm13 cd13 ct13 oc14 kV14 dc14 pm14 cd14 ct14 oc15 kV15 dc15 pm15 cd15 ct15 oc16 kV16 dc16 pm16 cd16 ct16 oc17 kV17 dc17 pm17 cd17 ct17 oc18 kV18 dc18 pm18 cd18 ct18 oc19 kV19 dc19 pm19 cd19 ct19 oc20 kV20 dc20 pm20 cd20 ct20 oc21 kV21 dc21 pm21 cd21 ct21 oc22 kV22 dc22 pm22 cd22 ct22 oc23 kV23 dc23 pm23 cd23 ct23 oc24 kV24 dc24 pm24 cd24 ct24 oc25 kV25 dc25 pm25 cd25 ct25 oc26 kV26 dc26 pm26 cd26 ct26 oc27 kV27 dc27 pm27 cd27 ct27 oc28 kV28 dc28 pm28 cd28 ct28 oc29 kV29 dc29 pm29 cd29 ct29 oc30 kV30 dc30 pm30 cd30 ct30 oc31 kV31 dc31 pm31 cd31 ct31 oc32 kV32 dc32 pm32 cd32 ct32 oc33 kV33 dc33 pm33 cd33 ct33 oc34 kV34 dc34 pm34 cd34 ct34 oc35 kV35 dc35 pm35 cd35 ct35 oc36 kV36 dc36 pm36 cd36 ct36 oc37 kV37 dc37 pm37 cd37 ct37 oc38 kV38 dc38 pm38 cd38 ct38 oc39 kV39 dc39 pm39 cd39 ct39 oc40 kV40 dc40 pm40 cd40 ct40 oc41 kV41 dc41 pm41 cd41 ct41 oc42 kV42 dc42 pm42 cd42 ct42 oc43 kV43 dc43 pm43 cd43 ct43 : Value} {itS itA itS0 itS1 itS2 itS3 itS4 : Array Value} {nS nA nS0 nS1 nS2 nS3 nS4 : Nat} {tSIDE tLUCKS tSUMS tMOST_PLAYERS tMOST_AHEAD tMOST_KEY tMOST_SHOWN tMOST_LETTERS : Tok}
    (aCW : PySem.W.nsIn K mainGlobals "World" = some (some (.ref CW)))
    (aCL : PySem.W.nsIn K mainGlobals "Letter" = some (some (.ref CL)))
    (aCM : PySem.W.nsIn K mainGlobals "Machine" = some (some (.ref CM)))
    (aCG : PySem.W.nsIn K mainGlobals "Game" = some (some (.ref CG)))
    (gSIDE : PySem.W.nsIn K mainGlobals "SIDE" = some (some (.int 8 tSIDE)))
    (gLUCKS : PySem.W.nsIn K mainGlobals "LUCKS" = some (some (.int 2147483648 tLUCKS)))
    (gSUMS : PySem.W.nsIn K mainGlobals "SUMS" = some (some (.int 1000000007 tSUMS)))
    (gMOST_PLAYERS : PySem.W.nsIn K mainGlobals "MOST_PLAYERS" = some (some (.int 4 tMOST_PLAYERS)))
    (gMOST_AHEAD : PySem.W.nsIn K mainGlobals "MOST_AHEAD" = some (some (.int 20 tMOST_AHEAD)))
    (gMOST_KEY : PySem.W.nsIn K mainGlobals "MOST_KEY" = some (some (.int 4 tMOST_KEY)))
    (gMOST_SHOWN : PySem.W.nsIn K mainGlobals "MOST_SHOWN" = some (some (.int 60 tMOST_SHOWN)))
    (gMOST_LETTERS : PySem.W.nsIn K mainGlobals "MOST_LETTERS" = some (some (.int 40 tMOST_LETTERS)))
    (zrange : PySem.W.nsIn K mainGlobals "range" = some none)
    (zenumerate : PySem.W.nsIn K mainGlobals "enumerate" = some none)
    (zzip : PySem.W.nsIn K mainGlobals "zip" = some none)
    (zlen : PySem.W.nsIn K mainGlobals "len" = some none)
    (zmin : PySem.W.nsIn K mainGlobals "min" = some none)
    (zmax : PySem.W.nsIn K mainGlobals "max" = some none)
    (gST : PySem.W.nsIn K mainGlobals "STEPS" = some (some (.ref aS)))
    (lST : K.lookup aS = some ⟨.type "tuple", odS, .seq itS nS, slS⟩)
    (yST : itS.size ≤ sizeLine)
    (vST : Vals [.ref u0, .ref u1, .ref u2, .ref u3, .ref u4] itS.toList)
    (lS0 : K.lookup u0 = some ⟨.type "tuple", odS0, .seq itS0 nS0, slS0⟩)
    (yS0 : itS0.size ≤ sizeLine)
    (vS0 : Vals [.int 0, .int 0] itS0.toList)
    (lS1 : K.lookup u1 = some ⟨.type "tuple", odS1, .seq itS1 nS1, slS1⟩)
    (yS1 : itS1.size ≤ sizeLine)
    (vS1 : Vals [.int 1, .int 0] itS1.toList)
    (lS2 : K.lookup u2 = some ⟨.type "tuple", odS2, .seq itS2 nS2, slS2⟩)
    (yS2 : itS2.size ≤ sizeLine)
    (vS2 : Vals [.int 0, .int 1] itS2.toList)
    (lS3 : K.lookup u3 = some ⟨.type "tuple", odS3, .seq itS3 nS3, slS3⟩)
    (yS3 : itS3.size ≤ sizeLine)
    (vS3 : Vals [.int 7, .int 0] itS3.toList)
    (lS4 : K.lookup u4 = some ⟨.type "tuple", odS4, .seq itS4 nS4, slS4⟩)
    (yS4 : itS4.size ≤ sizeLine)
    (vS4 : Vals [.int 0, .int 7] itS4.toList)
    (gAR : PySem.W.nsIn K mainGlobals "ARGUMENTS" = some (some (.ref aA)))
    (lAR : K.lookup aA = some ⟨.type "tuple", odA, .seq itA nA, slA⟩)
    (yAR : itA.size ≤ sizeLine)
    (vAR : Vals [.int 3, .int 2, .int 1, .int 1, .int 1, .int 1, .int 1, .int 1, .int 0, .int 0, .int 0, .int 1, .int 2] itA.toList)
    (pgCW : PySem.W.plainGet K CW Str.empty = true)
    (hdCW : PySem.W.hasDictIn K CW = true)
    (poCW : PySem.W.plainOver K CW = true)
    (saCW : PySem.W.findIn K (.ref CW) "__setattr__" = some (some (.builtin "object.__setattr__")))
    (mkCW : PySem.W.makesIn K CW = true)
    (kcCW : PySem.W.keepIn K (.ref CW) = true)
    (pgCL : PySem.W.plainGet K CL Str.empty = true)
    (hdCL : PySem.W.hasDictIn K CL = true)
    (poCL : PySem.W.plainOver K CL = true)
    (saCL : PySem.W.findIn K (.ref CL) "__setattr__" = some (some (.builtin "object.__setattr__")))
    (mkCL : PySem.W.makesIn K CL = true)
    (kcCL : PySem.W.keepIn K (.ref CL) = true)
    (pgCM : PySem.W.plainGet K CM Str.empty = true)
    (hdCM : PySem.W.hasDictIn K CM = true)
    (poCM : PySem.W.plainOver K CM = true)
    (saCM : PySem.W.findIn K (.ref CM) "__setattr__" = some (some (.builtin "object.__setattr__")))
    (mkCM : PySem.W.makesIn K CM = true)
    (kcCM : PySem.W.keepIn K (.ref CM) = true)
    (pgCG : PySem.W.plainGet K CG Str.empty = true)
    (hdCG : PySem.W.hasDictIn K CG = true)
    (poCG : PySem.W.plainOver K CG = true)
    (saCG : PySem.W.findIn K (.ref CG) "__setattr__" = some (some (.builtin "object.__setattr__")))
    (mkCG : PySem.W.makesIn K CG = true)
    (kcCG : PySem.W.keepIn K (.ref CG) = true)
    (nCWplaces : PySem.W.findIn K (.ref CW) "places" = some none)
    (nCWpoints : PySem.W.findIn K (.ref CW) "points" = some none)
    (nCWcoin : PySem.W.findIn K (.ref CW) "coin" = some none)
    (nCWluck : PySem.W.findIn K (.ref CW) "luck" = some none)
    (nCLsender : PySem.W.findIn K (.ref CL) "sender" = some none)
    (nCLreceiver : PySem.W.findIn K (.ref CL) "receiver" = some none)
    (nCLfirst : PySem.W.findIn K (.ref CL) "first" = some none)
    (nCLpressed : PySem.W.findIn K (.ref CL) "pressed" = some none)
    (nCLtold : PySem.W.findIn K (.ref CL) "told" = some none)
    (nCMnumber : PySem.W.findIn K (.ref CM) "number" = some none)
    (nCMseed : PySem.W.findIn K (.ref CM) "seed" = some none)
    (nCMknown : PySem.W.findIn K (.ref CM) "known" = some none)
    (nCMthere : PySem.W.findIn K (.ref CM) "there" = some none)
    (nCMagain : PySem.W.findIn K (.ref CM) "again" = some none)
    (nCGmachines : PySem.W.findIn K (.ref CG) "machines" = some none)
    (nCGletters : PySem.W.findIn K (.ref CG) "letters" = some none)
    (nCGahead : PySem.W.findIn K (.ref CG) "ahead" = some none)
    (a1 : PySem.W.nsIn K mainGlobals "next_luck" = some (some (.ref f1)))
    (l1 : K.lookup f1 = some ⟨oc1, od1, .func (PySem.W.fnOf "next_luck" "next_luck" (defArgs sNextLuck) (defBody sNextLuck) (defScope sNextLuck) .none kV1 dc1 pm1 an1 cd1 ct1), sl1⟩)
    (c1 : PySem.W.codeIn K cd1 "next_luck" = true)
    (k1 : PySem.W.keepIn K (.ref f1) = true)
    (a2 : PySem.W.nsIn K mainGlobals "side_of" = some (some (.ref f2)))
    (l2 : K.lookup f2 = some ⟨oc2, od2, .func (PySem.W.fnOf "side_of" "side_of" (defArgs sSideOf) (defBody sSideOf) (defScope sSideOf) .none kV2 dc2 pm2 an2 cd2 ct2), sl2⟩)
    (c2 : PySem.W.codeIn K cd2 "side_of" = true)
    (k2 : PySem.W.keepIn K (.ref f2) = true)
    (a3 : PySem.W.nsIn K mainGlobals "place_beside" = some (some (.ref f3)))
    (l3 : K.lookup f3 = some ⟨oc3, od3, .func (PySem.W.fnOf "place_beside" "place_beside" (defArgs sPlaceBeside) (defBody sPlaceBeside) (defScope sPlaceBeside) .none kV3 dc3 pm3 an3 cd3 ct3), sl3⟩)
    (c3 : PySem.W.codeIn K cd3 "place_beside" = true)
    (k3 : PySem.W.keepIn K (.ref f3) = true)
    (a4 : PySem.W.nsIn K mainGlobals "first_difference" = some (some (.ref f4)))
    (l4 : K.lookup f4 = some ⟨oc4, od4, .func (PySem.W.fnOf "first_difference" "first_difference" (defArgs sFirstDiff) (defBody sFirstDiff) (defScope sFirstDiff) .none kV4 dc4 pm4 an4 cd4 ct4), sl4⟩)
    (c4 : PySem.W.codeIn K cd4 "first_difference" = true)
    (k4 : PySem.W.keepIn K (.ref f4) = true)
    (a5 : PySem.W.nsIn K mainGlobals "answer_to" = some (some (.ref f5)))
    (l5 : K.lookup f5 = some ⟨oc5, od5, .func (PySem.W.fnOf "answer_to" "answer_to" (defArgs sAnswerTo) (defBody sAnswerTo) (defScope sAnswerTo) .none kV5 dc5 pm5 an5 cd5 ct5), sl5⟩)
    (c5 : PySem.W.codeIn K cd5 "answer_to" = true)
    (k5 : PySem.W.keepIn K (.ref f5) = true)
    (a6 : PySem.W.nsIn K mainGlobals "answers" = some (some (.ref f6)))
    (l6 : K.lookup f6 = some ⟨oc6, od6, .func (PySem.W.fnOf "answers" "answers" (defArgs sAnswers) (defBody sAnswers) (defScope sAnswers) .none kV6 dc6 pm6 an6 cd6 ct6), sl6⟩)
    (c6 : PySem.W.codeIn K cd6 "answers" = true)
    (k6 : PySem.W.keepIn K (.ref f6) = true)
    (a7 : PySem.W.findIn K (.ref CW) "__init__" = some (some (.ref f7)))
    (i7 : PySem.W.isFn K (.ref f7) = true)
    (l7 : K.lookup f7 = some ⟨oc7, od7, .func (PySem.W.fnOf "__init__" "World.__init__" (defArgs sWInit) (defBody sWInit) (defScope sWInit) .none kV7 dc7 pm7 an7 cd7 ct7), sl7⟩)
    (c7 : PySem.W.codeIn K cd7 "World.__init__" = true)
    (k7 : PySem.W.keepIn K (.ref f7) = true)
    (a8 : PySem.W.findIn K (.ref CW) "tick" = some (some (.ref f8)))
    (i8 : PySem.W.isFn K (.ref f8) = true)
    (l8 : K.lookup f8 = some ⟨oc8, od8, .func (PySem.W.fnOf "tick" "World.tick" (defArgs sTick) (defBody sTick) (defScope sTick) .none kV8 dc8 pm8 an8 cd8 ct8), sl8⟩)
    (c8 : PySem.W.codeIn K cd8 "World.tick" = true)
    (k8 : PySem.W.keepIn K (.ref f8) = true)
    (a9 : PySem.W.findIn K (.ref CW) "move" = some (some (.ref f9)))
    (i9 : PySem.W.isFn K (.ref f9) = true)
    (l9 : K.lookup f9 = some ⟨oc9, od9, .func (PySem.W.fnOf "move" "World.move" (defArgs sMove) (defBody sMove) (defScope sMove) .none kV9 dc9 pm9 an9 cd9 ct9), sl9⟩)
    (c9 : PySem.W.codeIn K cd9 "World.move" = true)
    (k9 : PySem.W.keepIn K (.ref f9) = true)
    (a10 : PySem.W.findIn K (.ref CW) "lay_coin" = some (some (.ref f10)))
    (i10 : PySem.W.isFn K (.ref f10) = true)
    (l10 : K.lookup f10 = some ⟨oc10, od10, .func (PySem.W.fnOf "lay_coin" "World.lay_coin" (defArgs sLay) (defBody sLay) (defScope sLay) .none kV10 dc10 pm10 an10 cd10 ct10), sl10⟩)
    (c10 : PySem.W.codeIn K cd10 "World.lay_coin" = true)
    (k10 : PySem.W.keepIn K (.ref f10) = true)
    (a11 : PySem.W.findIn K (.ref CW) "numbers" = some (some (.ref f11)))
    (i11 : PySem.W.isFn K (.ref f11) = true)
    (l11 : K.lookup f11 = some ⟨oc11, od11, .func (PySem.W.fnOf "numbers" "World.numbers" (defArgs sNumbers) (defBody sNumbers) (defScope sNumbers) .none kV11 dc11 pm11 an11 cd11 ct11), sl11⟩)
    (c11 : PySem.W.codeIn K cd11 "World.numbers" = true)
    (k11 : PySem.W.keepIn K (.ref f11) = true)
    (a12 : PySem.W.findIn K (.ref CW) "world_sum" = some (some (.ref f12)))
    (i12 : PySem.W.isFn K (.ref f12) = true)
    (l12 : K.lookup f12 = some ⟨oc12, od12, .func (PySem.W.fnOf "world_sum" "World.world_sum" (defArgs sWSum) (defBody sWSum) (defScope sWSum) .none kV12 dc12 pm12 an12 cd12 ct12), sl12⟩)
    (c12 : PySem.W.codeIn K cd12 "World.world_sum" = true)
    (k12 : PySem.W.keepIn K (.ref f12) = true)
    (a13 : PySem.W.findIn K (.ref CL) "__init__" = some (some (.ref f13)))
    (i13 : PySem.W.isFn K (.ref f13) = true)
    (l13 : K.lookup f13 = some ⟨oc13, od13, .func (PySem.W.fnOf "__init__" "Letter.__init__" (defArgs sLInit) (defBody sLInit) (defScope sLInit) .none kV13 dc13 pm13 an13 cd13 ct13), sl13⟩)
    (c13 : PySem.W.codeIn K cd13 "Letter.__init__" = true)
    (k13 : PySem.W.keepIn K (.ref f13) = true)
    (a14 : PySem.W.findIn K (.ref CM) "__init__" = some (some (.ref f14)))
    (i14 : PySem.W.isFn K (.ref f14) = true)
    (l14 : K.lookup f14 = some ⟨oc14, od14, .func (PySem.W.fnOf "__init__" "Machine.__init__" (defArgs sMInit) (defBody sMInit) (defScope sMInit) .none kV14 dc14 pm14 an14 cd14 ct14), sl14⟩)
    (c14 : PySem.W.codeIn K cd14 "Machine.__init__" = true)
    (k14 : PySem.W.keepIn K (.ref f14) = true)
    (a15 : PySem.W.findIn K (.ref CM) "shown" = some (some (.ref f15)))
    (i15 : PySem.W.isFn K (.ref f15) = true)
    (l15 : K.lookup f15 = some ⟨oc15, od15, .func (PySem.W.fnOf "shown" "Machine.shown" (defArgs sMShown) (defBody sMShown) (defScope sMShown) .none kV15 dc15 pm15 an15 cd15 ct15), sl15⟩)
    (c15 : PySem.W.codeIn K cd15 "Machine.shown" = true)
    (k15 : PySem.W.keepIn K (.ref f15) = true)
    (a16 : PySem.W.findIn K (.ref CM) "sure" = some (some (.ref f16)))
    (i16 : PySem.W.isFn K (.ref f16) = true)
    (l16 : K.lookup f16 = some ⟨oc16, od16, .func (PySem.W.fnOf "sure" "Machine.sure" (defArgs sMSure) (defBody sMSure) (defScope sMSure) .none kV16 dc16 pm16 an16 cd16 ct16), sl16⟩)
    (c16 : PySem.W.codeIn K cd16 "Machine.sure" = true)
    (k16 : PySem.W.keepIn K (.ref f16) = true)
    (a17 : PySem.W.findIn K (.ref CM) "press" = some (some (.ref f17)))
    (i17 : PySem.W.isFn K (.ref f17) = true)
    (l17 : K.lookup f17 = some ⟨oc17, od17, .func (PySem.W.fnOf "press" "Machine.press" (defArgs sMPress) (defBody sMPress) (defScope sMPress) .none kV17 dc17 pm17 an17 cd17 ct17), sl17⟩)
    (c17 : PySem.W.codeIn K cd17 "Machine.press" = true)
    (k17 : PySem.W.keepIn K (.ref f17) = true)
    (a18 : PySem.W.findIn K (.ref CM) "taken" = some (some (.ref f18)))
    (i18 : PySem.W.isFn K (.ref f18) = true)
    (l18 : K.lookup f18 = some ⟨oc18, od18, .func (PySem.W.fnOf "taken" "Machine.taken" (defArgs sMTaken) (defBody sMTaken) (defScope sMTaken) .none kV18 dc18 pm18 an18 cd18 ct18), sl18⟩)
    (c18 : PySem.W.codeIn K cd18 "Machine.taken" = true)
    (k18 : PySem.W.keepIn K (.ref f18) = true)
    (a19 : PySem.W.findIn K (.ref CM) "world_behind" = some (some (.ref f19)))
    (i19 : PySem.W.isFn K (.ref f19) = true)
    (l19 : K.lookup f19 = some ⟨oc19, od19, .func (PySem.W.fnOf "world_behind" "Machine.world_behind" (defArgs sMWorld) (defBody sMWorld) (defScope sMWorld) .none kV19 dc19 pm19 an19 cd19 ct19), sl19⟩)
    (c19 : PySem.W.codeIn K cd19 "Machine.world_behind" = true)
    (k19 : PySem.W.keepIn K (.ref f19) = true)
    (a20 : PySem.W.findIn K (.ref CM) "letter_to" = some (some (.ref f20)))
    (i20 : PySem.W.isFn K (.ref f20) = true)
    (l20 : K.lookup f20 = some ⟨oc20, od20, .func (PySem.W.fnOf "letter_to" "Machine.letter_to" (defArgs sMLetter) (defBody sMLetter) (defScope sMLetter) .none kV20 dc20 pm20 an20 cd20 ct20), sl20⟩)
    (c20 : PySem.W.codeIn K cd20 "Machine.letter_to" = true)
    (k20 : PySem.W.keepIn K (.ref f20) = true)
    (a21 : PySem.W.findIn K (.ref CM) "receive" = some (some (.ref f21)))
    (i21 : PySem.W.isFn K (.ref f21) = true)
    (l21 : K.lookup f21 = some ⟨oc21, od21, .func (PySem.W.fnOf "receive" "Machine.receive" (defArgs sMReceive) (defBody sMReceive) (defScope sMReceive) .none kV21 dc21 pm21 an21 cd21 ct21), sl21⟩)
    (c21 : PySem.W.codeIn K cd21 "Machine.receive" = true)
    (k21 : PySem.W.keepIn K (.ref f21) = true)
    (a22 : PySem.W.findIn K (.ref CM) "taken_when_shown" = some (some (.ref f22)))
    (i22 : PySem.W.isFn K (.ref f22) = true)
    (l22 : K.lookup f22 = some ⟨oc22, od22, .func (PySem.W.fnOf "taken_when_shown" "Machine.taken_when_shown" (defArgs sMWhen) (defBody sMWhen) (defScope sMWhen) .none kV22 dc22 pm22 an22 cd22 ct22), sl22⟩)
    (c22 : PySem.W.codeIn K cd22 "Machine.taken_when_shown" = true)
    (k22 : PySem.W.keepIn K (.ref f22) = true)
    (a23 : PySem.W.findIn K (.ref CM) "learn" = some (some (.ref f23)))
    (i23 : PySem.W.isFn K (.ref f23) = true)
    (l23 : K.lookup f23 = some ⟨oc23, od23, .func (PySem.W.fnOf "learn" "Machine.learn" (defArgs sMLearn) (defBody sMLearn) (defScope sMLearn) .none kV23 dc23 pm23 an23 cd23 ct23), sl23⟩)
    (c23 : PySem.W.codeIn K cd23 "Machine.learn" = true)
    (k23 : PySem.W.keepIn K (.ref f23) = true)
    (a24 : PySem.W.findIn K (.ref CG) "__init__" = some (some (.ref f24)))
    (i24 : PySem.W.isFn K (.ref f24) = true)
    (l24 : K.lookup f24 = some ⟨oc24, od24, .func (PySem.W.fnOf "__init__" "Game.__init__" (defArgs sGInit) (defBody sGInit) (defScope sGInit) .none kV24 dc24 pm24 an24 cd24 ct24), sl24⟩)
    (c24 : PySem.W.codeIn K cd24 "Game.__init__" = true)
    (k24 : PySem.W.keepIn K (.ref f24) = true)
    (a25 : PySem.W.findIn K (.ref CG) "start" = some (some (.ref f25)))
    (i25 : PySem.W.isFn K (.ref f25) = true)
    (l25 : K.lookup f25 = some ⟨oc25, od25, .func (PySem.W.fnOf "start" "Game.start" (defArgs sGStart) (defBody sGStart) (defScope sGStart) .none kV25 dc25 pm25 an25 cd25 ct25), sl25⟩)
    (c25 : PySem.W.codeIn K cd25 "Game.start" = true)
    (k25 : PySem.W.keepIn K (.ref f25) = true)
    (a26 : PySem.W.findIn K (.ref CG) "has_machine" = some (some (.ref f26)))
    (i26 : PySem.W.isFn K (.ref f26) = true)
    (l26 : K.lookup f26 = some ⟨oc26, od26, .func (PySem.W.fnOf "has_machine" "Game.has_machine" (defArgs sGHasM) (defBody sGHasM) (defScope sGHasM) .none kV26 dc26 pm26 an26 cd26 ct26), sl26⟩)
    (c26 : PySem.W.codeIn K cd26 "Game.has_machine" = true)
    (k26 : PySem.W.keepIn K (.ref f26) = true)
    (a27 : PySem.W.findIn K (.ref CG) "has_letter" = some (some (.ref f27)))
    (i27 : PySem.W.isFn K (.ref f27) = true)
    (l27 : K.lookup f27 = some ⟨oc27, od27, .func (PySem.W.fnOf "has_letter" "Game.has_letter" (defArgs sGHasL) (defBody sGHasL) (defScope sGHasL) .none kV27 dc27 pm27 an27 cd27 ct27), sl27⟩)
    (c27 : PySem.W.codeIn K cd27 "Game.has_letter" = true)
    (k27 : PySem.W.keepIn K (.ref f27) = true)
    (a28 : PySem.W.findIn K (.ref CG) "letters_of" = some (some (.ref f28)))
    (i28 : PySem.W.isFn K (.ref f28) = true)
    (l28 : K.lookup f28 = some ⟨oc28, od28, .func (PySem.W.fnOf "letters_of" "Game.letters_of" (defArgs sGLettersOf) (defBody sGLettersOf) (defScope sGLettersOf) .none kV28 dc28 pm28 an28 cd28 ct28), sl28⟩)
    (c28 : PySem.W.codeIn K cd28 "Game.letters_of" = true)
    (k28 : PySem.W.keepIn K (.ref f28) = true)
    (a29 : PySem.W.findIn K (.ref CG) "let_all_come" = some (some (.ref f29)))
    (i29 : PySem.W.isFn K (.ref f29) = true)
    (l29 : K.lookup f29 = some ⟨oc29, od29, .func (PySem.W.fnOf "let_all_come" "Game.let_all_come" (defArgs sGLetAll) (defBody sGLetAll) (defScope sGLetAll) .none kV29 dc29 pm29 an29 cd29 ct29), sl29⟩)
    (c29 : PySem.W.codeIn K cd29 "Game.let_all_come" = true)
    (k29 : PySem.W.keepIn K (.ref f29) = true)
    (a30 : PySem.W.findIn K (.ref CG) "sure_everywhere" = some (some (.ref f30)))
    (i30 : PySem.W.isFn K (.ref f30) = true)
    (l30 : K.lookup f30 = some ⟨oc30, od30, .func (PySem.W.fnOf "sure_everywhere" "Game.sure_everywhere" (defArgs sGSureE) (defBody sGSureE) (defScope sGSureE) .none kV30 dc30 pm30 an30 cd30 ct30), sl30⟩)
    (c30 : PySem.W.codeIn K cd30 "Game.sure_everywhere" = true)
    (k30 : PySem.W.keepIn K (.ref f30) = true)
    (a31 : PySem.W.findIn K (.ref CG) "begins" = some (some (.ref f31)))
    (i31 : PySem.W.isFn K (.ref f31) = true)
    (l31 : K.lookup f31 = some ⟨oc31, od31, .func (PySem.W.fnOf "begins" "Game.begins" (defArgs sGBegins) (defBody sGBegins) (defScope sGBegins) .none kV31 dc31 pm31 an31 cd31 ct31), sl31⟩)
    (c31 : PySem.W.codeIn K cd31 "Game.begins" = true)
    (k31 : PySem.W.keepIn K (.ref f31) = true)
    (a32 : PySem.W.findIn K (.ref CG) "press" = some (some (.ref f32)))
    (i32 : PySem.W.isFn K (.ref f32) = true)
    (l32 : K.lookup f32 = some ⟨oc32, od32, .func (PySem.W.fnOf "press" "Game.press" (defArgs sGPress) (defBody sGPress) (defScope sGPress) .none kV32 dc32 pm32 an32 cd32 ct32), sl32⟩)
    (c32 : PySem.W.codeIn K cd32 "Game.press" = true)
    (k32 : PySem.W.keepIn K (.ref f32) = true)
    (a33 : PySem.W.findIn K (.ref CG) "send" = some (some (.ref f33)))
    (i33 : PySem.W.isFn K (.ref f33) = true)
    (l33 : K.lookup f33 = some ⟨oc33, od33, .func (PySem.W.fnOf "send" "Game.send" (defArgs sGSend) (defBody sGSend) (defScope sGSend) .none kV33 dc33 pm33 an33 cd33 ct33), sl33⟩)
    (c33 : PySem.W.codeIn K cd33 "Game.send" = true)
    (k33 : PySem.W.keepIn K (.ref f33) = true)
    (a34 : PySem.W.findIn K (.ref CG) "arrive" = some (some (.ref f34)))
    (i34 : PySem.W.isFn K (.ref f34) = true)
    (l34 : K.lookup f34 = some ⟨oc34, od34, .func (PySem.W.fnOf "arrive" "Game.arrive" (defArgs sGArrive) (defBody sGArrive) (defScope sGArrive) .none kV34 dc34 pm34 an34 cd34 ct34), sl34⟩)
    (c34 : PySem.W.codeIn K cd34 "Game.arrive" = true)
    (k34 : PySem.W.keepIn K (.ref f34) = true)
    (a35 : PySem.W.findIn K (.ref CG) "twice" = some (some (.ref f35)))
    (i35 : PySem.W.isFn K (.ref f35) = true)
    (l35 : K.lookup f35 = some ⟨oc35, od35, .func (PySem.W.fnOf "twice" "Game.twice" (defArgs sGTwice) (defBody sGTwice) (defScope sGTwice) .none kV35 dc35 pm35 an35 cd35 ct35), sl35⟩)
    (c35 : PySem.W.codeIn K cd35 "Game.twice" = true)
    (k35 : PySem.W.keepIn K (.ref f35) = true)
    (a36 : PySem.W.findIn K (.ref CG) "lose" = some (some (.ref f36)))
    (i36 : PySem.W.isFn K (.ref f36) = true)
    (l36 : K.lookup f36 = some ⟨oc36, od36, .func (PySem.W.fnOf "lose" "Game.lose" (defArgs sGLose) (defBody sGLose) (defScope sGLose) .none kV36 dc36 pm36 an36 cd36 ct36), sl36⟩)
    (c36 : PySem.W.codeIn K cd36 "Game.lose" = true)
    (k36 : PySem.W.keepIn K (.ref f36) = true)
    (a37 : PySem.W.findIn K (.ref CG) "shown" = some (some (.ref f37)))
    (i37 : PySem.W.isFn K (.ref f37) = true)
    (l37 : K.lookup f37 = some ⟨oc37, od37, .func (PySem.W.fnOf "shown" "Game.shown" (defArgs sGShown) (defBody sGShown) (defScope sGShown) .none kV37 dc37 pm37 an37 cd37 ct37), sl37⟩)
    (c37 : PySem.W.codeIn K cd37 "Game.shown" = true)
    (k37 : PySem.W.keepIn K (.ref f37) = true)
    (a38 : PySem.W.findIn K (.ref CG) "sure" = some (some (.ref f38)))
    (i38 : PySem.W.isFn K (.ref f38) = true)
    (l38 : K.lookup f38 = some ⟨oc38, od38, .func (PySem.W.fnOf "sure" "Game.sure" (defArgs sGSure) (defBody sGSure) (defScope sGSure) .none kV38 dc38 pm38 an38 cd38 ct38), sl38⟩)
    (c38 : PySem.W.codeIn K cd38 "Game.sure" = true)
    (k38 : PySem.W.keepIn K (.ref f38) = true)
    (a39 : PySem.W.findIn K (.ref CG) "net" = some (some (.ref f39)))
    (i39 : PySem.W.isFn K (.ref f39) = true)
    (l39 : K.lookup f39 = some ⟨oc39, od39, .func (PySem.W.fnOf "net" "Game.net" (defArgs sGNet) (defBody sGNet) (defScope sGNet) .none kV39 dc39 pm39 an39 cd39 ct39), sl39⟩)
    (c39 : PySem.W.codeIn K cd39 "Game.net" = true)
    (k39 : PySem.W.keepIn K (.ref f39) = true)
    (a40 : PySem.W.findIn K (.ref CG) "agree" = some (some (.ref f40)))
    (i40 : PySem.W.isFn K (.ref f40) = true)
    (l40 : K.lookup f40 = some ⟨oc40, od40, .func (PySem.W.fnOf "agree" "Game.agree" (defArgs sGAgree) (defBody sGAgree) (defScope sGAgree) .none kV40 dc40 pm40 an40 cd40 ct40), sl40⟩)
    (c40 : PySem.W.codeIn K cd40 "Game.agree" = true)
    (k40 : PySem.W.keepIn K (.ref f40) = true)
    (a41 : PySem.W.findIn K (.ref CG) "heal" = some (some (.ref f41)))
    (i41 : PySem.W.isFn K (.ref f41) = true)
    (l41 : K.lookup f41 = some ⟨oc41, od41, .func (PySem.W.fnOf "heal" "Game.heal" (defArgs sGHeal) (defBody sGHeal) (defScope sGHeal) .none kV41 dc41 pm41 an41 cd41 ct41), sl41⟩)
    (c41 : PySem.W.codeIn K cd41 "Game.heal" = true)
    (k41 : PySem.W.keepIn K (.ref f41) = true)
    (a42 : PySem.W.findIn K (.ref CG) "machine" = some (some (.ref f42)))
    (i42 : PySem.W.isFn K (.ref f42) = true)
    (l42 : K.lookup f42 = some ⟨oc42, od42, .func (PySem.W.fnOf "machine" "Game.machine" (defArgs sGMachine) (defBody sGMachine) (defScope sGMachine) .none kV42 dc42 pm42 an42 cd42 ct42), sl42⟩)
    (c42 : PySem.W.codeIn K cd42 "Game.machine" = true)
    (k42 : PySem.W.keepIn K (.ref f42) = true)
    (a43 : PySem.W.findIn K (.ref CG) "at" = some (some (.ref f43)))
    (i43 : PySem.W.isFn K (.ref f43) = true)
    (l43 : K.lookup f43 = some ⟨oc43, od43, .func (PySem.W.fnOf "at" "Game.at" (defArgs sGAt) (defBody sGAt) (defScope sGAt) .none kV43 dc43 pm43 an43 cd43 ct43), sl43⟩)
    (c43 : PySem.W.codeIn K cd43 "Game.at" = true)
    (k43 : PySem.W.keepIn K (.ref f43) = true) :
    ∃ fd : FuncData, (∀ (s : Shared) (us : List Value), us.length = (["calls"] : List Str).length → BindsTo s fd ⟨us, []⟩ ((["calls"] : List Str).zip us)) ∧ ∀ base : Heap, K.In base → base.Ns mainGlobals mg → FnOk P w K mg base CX0 9 fa fd ["calls"] (spAnswers K) := by
  have e := hfa.symm.trans (PySem.W.mg_of X G a6)
  cases e
  have hS : StepsOk K mg := ⟨aS, [u0, u1, u2, u3, u4], PySem.W.mg_of X G gST, rfl, fun H => .inr ⟨_, itS, nS, lST, rfl, rfl, yST, vST⟩, fun k s e H => by
    match k, e with
    | 0, e => cases e; exact .inr ⟨_, itS0, nS0, lS0, rfl, rfl, yS0, vS0⟩
    | 1, e => cases e; exact .inr ⟨_, itS1, nS1, lS1, rfl, rfl, yS1, vS1⟩
    | 2, e => cases e; exact .inr ⟨_, itS2, nS2, lS2, rfl, rfl, yS2, vS2⟩
    | 3, e => cases e; exact .inr ⟨_, itS3, nS3, lS3, rfl, rfl, yS3, vS3⟩
    | 4, e => cases e; exact .inr ⟨_, itS4, nS4, lS4, rfl, rfl, yS4, vS4⟩
    | k + 5, e => cases e⟩
  have hA : ArgsOk K mg := ⟨aA, PySem.W.mg_of X G gAR, fun H => .inr ⟨_, itA, nA, lAR, rfl, rfl, yAR, vAR⟩⟩
  have TW : TxtW K mg CW := { side := ⟨_, PySem.W.mg_of X G gSIDE⟩, lucks := ⟨_, PySem.W.mg_of X G gLUCKS⟩, sums := ⟨_, PySem.W.mg_of X G gSUMS⟩, steps := hS, cl := ⟨pgCW, hdCW, poCW, saCW⟩, nPl := nCWplaces, nPo := nCWpoints, nCo := nCWcoin, nLu := nCWluck, range := PySem.W.mg_none_of X G zrange, enumerate := PySem.W.mg_none_of X G zenumerate, zip := PySem.W.mg_none_of X G zzip }
  have TM : TxtM K mg CL CM := { clL := ⟨pgCL, hdCL, poCL, saCL⟩, cl := ⟨pgCM, hdCM, poCM, saCM⟩, lSe := nCLsender, lRe := nCLreceiver, lFi := nCLfirst, lPr := nCLpressed, lTo := nCLtold, nNu := nCMnumber, nSe := nCMseed, nKn := nCMknown, nTh := nCMthere, nAg := nCMagain, range := PySem.W.mg_none_of X G zrange, len := PySem.W.mg_none_of X G zlen, min := PySem.W.mg_none_of X G zmin, max := PySem.W.mg_none_of X G zmax }
  have T : TxtG K mg CG := { cl := ⟨pgCG, hdCG, poCG, saCG⟩, nMa := nCGmachines, nLe := nCGletters, nAh := nCGahead, mP := ⟨_, PySem.W.mg_of X G gMOST_PLAYERS⟩, mA := ⟨_, PySem.W.mg_of X G gMOST_AHEAD⟩, mK := ⟨_, PySem.W.mg_of X G gMOST_KEY⟩, mS := ⟨_, PySem.W.mg_of X G gMOST_SHOWN⟩, mL := ⟨_, PySem.W.mg_of X G gMOST_LETTERS⟩ }
  have F1 := fun_mk (st := sNextLuck) l1 c1 k1
  have b1 := F1.binds (ps := ["luck"]) fun _ _ _ _ _ _ us hl => match us, hl with | [_], _ => rfl
  have F2 := fun_mk (st := sSideOf) l2 c2 k2
  have b2 := F2.binds (ps := ["luck"]) fun _ _ _ _ _ _ us hl => match us, hl with | [_], _ => rfl
  have F3 := fun_mk (st := sPlaceBeside) l3 c3 k3
  have b3 := F3.binds (ps := ["place", "key"]) fun _ _ _ _ _ _ us hl => match us, hl with | [_, _], _ => rfl
  have F4 := fun_mk (st := sFirstDiff) l4 c4 k4
  have b4 := F4.binds (ps := ["before", "after"]) fun _ _ _ _ _ _ us hl => match us, hl with | [_, _], _ => rfl
  have F5 := fun_mk (st := sAnswerTo) l5 c5 k5
  have b5 := F5.binds (ps := ["game", "call", "numbers"]) fun _ _ _ _ _ _ us hl => match us, hl with | [_, _, _], _ => rfl
  have F6 := fun_mk (st := sAnswers) l6 c6 k6
  have b6 := F6.binds (ps := ["calls"]) fun _ _ _ _ _ _ us hl => match us, hl with | [_], _ => rfl
  have F7 := fun_mk (st := sWInit) l7 c7 k7
  have b7 := F7.binds (ps := ["self", "players", "seed"]) fun _ _ _ _ _ _ us hl => match us, hl with | [_, _, _], _ => rfl
  have F8 := fun_mk (st := sTick) l8 c8 k8
  have b8 := F8.binds (ps := ["self", "pressed"]) fun _ _ _ _ _ _ us hl => match us, hl with | [_, _], _ => rfl
  have F9 := fun_mk (st := sMove) l9 c9 k9
  have b9 := F9.binds (ps := ["self", "player", "key"]) fun _ _ _ _ _ _ us hl => match us, hl with | [_, _, _], _ => rfl
  have F10 := fun_mk (st := sLay) l10 c10 k10
  have b10 := F10.binds (ps := ["self"]) fun _ _ _ _ _ _ us hl => match us, hl with | [_], _ => rfl
  have F11 := fun_mk (st := sNumbers) l11 c11 k11
  have b11 := F11.binds (ps := ["self"]) fun _ _ _ _ _ _ us hl => match us, hl with | [_], _ => rfl
  have F12 := fun_mk (st := sWSum) l12 c12 k12
  have b12 := F12.binds (ps := ["self"]) fun _ _ _ _ _ _ us hl => match us, hl with | [_], _ => rfl
  have F13 := fun_mk (st := sLInit) l13 c13 k13
  have b13 := F13.binds (ps := ["self", "sender", "receiver", "first", "pressed", "told"]) fun _ _ _ _ _ _ us hl => match us, hl with | [_, _, _, _, _, _], _ => rfl
  have F14 := fun_mk (st := sMInit) l14 c14 k14
  have b14 := F14.binds (ps := ["self", "number", "players", "seed"]) fun _ _ _ _ _ _ us hl => match us, hl with | [_, _, _, _], _ => rfl
  have F15 := fun_mk (st := sMShown) l15 c15 k15
  have b15 := F15.binds (ps := ["self"]) fun _ _ _ _ _ _ us hl => match us, hl with | [_], _ => rfl
  have F16 := fun_mk (st := sMSure) l16 c16 k16
  have b16 := F16.binds (ps := ["self"]) fun _ _ _ _ _ _ us hl => match us, hl with | [_], _ => rfl
  have F17 := fun_mk (st := sMPress) l17 c17 k17
  have b17 := F17.binds (ps := ["self", "key"]) fun _ _ _ _ _ _ us hl => match us, hl with | [_, _], _ => rfl
  have F18 := fun_mk (st := sMTaken) l18 c18 k18
  have b18 := F18.binds (ps := ["self", "player", "tick"]) fun _ _ _ _ _ _ us hl => match us, hl with | [_, _, _], _ => rfl
  have F19 := fun_mk (st := sMWorld) l19 c19 k19
  have b19 := F19.binds (ps := ["self", "ticks"]) fun _ _ _ _ _ _ us hl => match us, hl with | [_, _], _ => rfl
  have F20 := fun_mk (st := sMLetter) l20 c20 k20
  have b20 := F20.binds (ps := ["self", "receiver"]) fun _ _ _ _ _ _ us hl => match us, hl with | [_, _], _ => rfl
  have F21 := fun_mk (st := sMReceive) l21 c21 k21
  have b21 := F21.binds (ps := ["self", "letter"]) fun _ _ _ _ _ _ us hl => match us, hl with | [_, _], _ => rfl
  have F22 := fun_mk (st := sMWhen) l22 c22 k22
  have b22 := F22.binds (ps := ["self", "player"]) fun _ _ _ _ _ _ us hl => match us, hl with | [_, _], _ => rfl
  have F23 := fun_mk (st := sMLearn) l23 c23 k23
  have b23 := F23.binds (ps := ["self", "letter"]) fun _ _ _ _ _ _ us hl => match us, hl with | [_, _], _ => rfl
  have F24 := fun_mk (st := sGInit) l24 c24 k24
  have b24 := F24.binds (ps := ["self"]) fun _ _ _ _ _ _ us hl => match us, hl with | [_], _ => rfl
  have F25 := fun_mk (st := sGStart) l25 c25 k25
  have b25 := F25.binds (ps := ["self", "players", "seed", "ahead"]) fun _ _ _ _ _ _ us hl => match us, hl with | [_, _, _, _], _ => rfl
  have F26 := fun_mk (st := sGHasM) l26 c26 k26
  have b26 := F26.binds (ps := ["self", "machine"]) fun _ _ _ _ _ _ us hl => match us, hl with | [_, _], _ => rfl
  have F27 := fun_mk (st := sGHasL) l27 c27 k27
  have b27 := F27.binds (ps := ["self", "letter"]) fun _ _ _ _ _ _ us hl => match us, hl with | [_, _], _ => rfl
  have F28 := fun_mk (st := sGLettersOf) l28 c28 k28
  have b28 := F28.binds (ps := ["self", "machine"]) fun _ _ _ _ _ _ us hl => match us, hl with | [_, _], _ => rfl
  have F29 := fun_mk (st := sGLetAll) l29 c29 k29
  have b29 := F29.binds (ps := ["self"]) fun _ _ _ _ _ _ us hl => match us, hl with | [_], _ => rfl
  have F30 := fun_mk (st := sGSureE) l30 c30 k30
  have b30 := F30.binds (ps := ["self"]) fun _ _ _ _ _ _ us hl => match us, hl with | [_], _ => rfl
  have F31 := fun_mk (st := sGBegins) l31 c31 k31
  have b31 := F31.binds (ps := ["self", "players", "seed", "ahead"]) fun _ _ _ _ _ _ us hl => match us, hl with | [_, _, _, _], _ => rfl
  have F32 := fun_mk (st := sGPress) l32 c32 k32
  have b32 := F32.binds (ps := ["self", "machine", "key"]) fun _ _ _ _ _ _ us hl => match us, hl with | [_, _, _], _ => rfl
  have F33 := fun_mk (st := sGSend) l33 c33 k33
  have b33 := F33.binds (ps := ["self", "machine"]) fun _ _ _ _ _ _ us hl => match us, hl with | [_, _], _ => rfl
  have F34 := fun_mk (st := sGArrive) l34 c34 k34
  have b34 := F34.binds (ps := ["self", "letter"]) fun _ _ _ _ _ _ us hl => match us, hl with | [_, _], _ => rfl
  have F35 := fun_mk (st := sGTwice) l35 c35 k35
  have b35 := F35.binds (ps := ["self", "letter"]) fun _ _ _ _ _ _ us hl => match us, hl with | [_, _], _ => rfl
  have F36 := fun_mk (st := sGLose) l36 c36 k36
  have b36 := F36.binds (ps := ["self", "letter"]) fun _ _ _ _ _ _ us hl => match us, hl with | [_, _], _ => rfl
  have F37 := fun_mk (st := sGShown) l37 c37 k37
  have b37 := F37.binds (ps := ["self", "machine"]) fun _ _ _ _ _ _ us hl => match us, hl with | [_, _], _ => rfl
  have F38 := fun_mk (st := sGSure) l38 c38 k38
  have b38 := F38.binds (ps := ["self", "machine"]) fun _ _ _ _ _ _ us hl => match us, hl with | [_, _], _ => rfl
  have F39 := fun_mk (st := sGNet) l39 c39 k39
  have b39 := F39.binds (ps := ["self"]) fun _ _ _ _ _ _ us hl => match us, hl with | [_], _ => rfl
  have F40 := fun_mk (st := sGAgree) l40 c40 k40
  have b40 := F40.binds (ps := ["self"]) fun _ _ _ _ _ _ us hl => match us, hl with | [_], _ => rfl
  have F41 := fun_mk (st := sGHeal) l41 c41 k41
  have b41 := F41.binds (ps := ["self"]) fun _ _ _ _ _ _ us hl => match us, hl with | [_], _ => rfl
  have F42 := fun_mk (st := sGMachine) l42 c42 k42
  have b42 := F42.binds (ps := ["self", "machine"]) fun _ _ _ _ _ _ us hl => match us, hl with | [_, _], _ => rfl
  have F43 := fun_mk (st := sGAt) l43 c43 k43
  have b43 := F43.binds (ps := ["self", "machine", "ticks"]) fun _ _ _ _ _ _ us hl => match us, hl with | [_, _, _], _ => rfl
  refine ⟨PySem.W.fnOf "answers" "answers" (defArgs sAnswers) (defBody sAnswers) (defScope sAnswers) .none kV6 dc6 pm6 an6 cd6 ct6, fun s us hu => match us, hu with | [_], _ => .of_eq rfl, fun base _ _ => ?_⟩
  have dNL : DefOk P w K mg base "next_luck" 1 ["luck"] spNextLuck := ⟨f1, _, PySem.W.mg_of X G a1, k1, ok_nextLuck F1 TW, b1⟩
  have dSO : DefOk P w K mg base "side_of" 1 ["luck"] spSideOf := ⟨f2, _, PySem.W.mg_of X G a2, k2, ok_sideOf F2 TW, b2⟩
  have dPB : DefOk P w K mg base "place_beside" 1 ["place", "key"] spPlaceBeside := ⟨f3, _, PySem.W.mg_of X G a3, k3, ok_placeBeside F3 TW, b3⟩
  have kW : MakeOk P w K mg base "World" CW 1 ["self", "players", "seed"] (spWInit CW) := ⟨f7, _, PySem.W.mg_of X G aCW, ⟨mkCW, a7, i7, kcCW⟩, ok_wInit F7 TW, b7⟩
  have wLay : MethOk P w K mg base CW "lay_coin" 2 ["self"] (spLay CW) := ⟨f10, _, ⟨a10, i10, k10⟩, ok_lay F10 TW dNL dSO, b10⟩
  have wMove : MethOk P w K mg base CW "move" 3 ["self", "player", "key"] (spMove CW) := ⟨f9, _, ⟨a9, i9, k9⟩, ok_move F9 TW dPB wLay, b9⟩
  have wTick : MethOk P w K mg base CW "tick" 4 ["self", "pressed"] (spTick CW) := ⟨f8, _, ⟨a8, i8, k8⟩, ok_tick F8 TW wMove, b8⟩
  have wNum : MethOk P w K mg base CW "numbers" 1 ["self"] (spNumbers CW) := ⟨f11, _, ⟨a11, i11, k11⟩, ok_numbers F11 TW, b11⟩
  have wSum : MethOk P w K mg base CW "world_sum" 2 ["self"] (spWSum CW) := ⟨f12, _, ⟨a12, i12, k12⟩, ok_wSum F12 TW wNum, b12⟩
  have dFD : DefOk P w K mg base "first_difference" 1 ["before", "after"] spFirstDiff := ⟨f4, _, PySem.W.mg_of X G a4, k4, ok_firstDiff F4 TM, b4⟩
  have kL : MakeOk P w K mg base "Letter" CL 1 ["self", "sender", "receiver", "first", "pressed", "told"] (spLInit CL) := ⟨f13, _, PySem.W.mg_of X G aCL, ⟨mkCL, a13, i13, kcCL⟩, ok_lInit F13 TM, b13⟩
  have kM : MakeOk P w K mg base "Machine" CM 1 ["self", "number", "players", "seed"] (spMInit CM) := ⟨f14, _, PySem.W.mg_of X G aCM, ⟨mkCM, a14, i14, kcCM⟩, ok_mInit F14 TM, b14⟩
  have mShown : MethOk P w K mg base CM "shown" 1 ["self"] (spMShown CM) := ⟨f15, _, ⟨a15, i15, k15⟩, ok_mShown F15 TM, b15⟩
  have mSure : MethOk P w K mg base CM "sure" 1 ["self"] (spMSure CM) := ⟨f16, _, ⟨a16, i16, k16⟩, ok_mSure F16 TM, b16⟩
  have mPress : MethOk P w K mg base CM "press" 1 ["self", "key"] (spMPress CM) := ⟨f17, _, ⟨a17, i17, k17⟩, ok_mPress F17 TM, b17⟩
  have mTaken : MethOk P w K mg base CM "taken" 1 ["self", "player", "tick"] (spMTaken CM) := ⟨f18, _, ⟨a18, i18, k18⟩, ok_mTaken F18 TM, b18⟩
  have mWorld : MethOk P w K mg base CM "world_behind" 5 ["self", "ticks"] (spMWorld CM CW) := ⟨f19, _, ⟨a19, i19, k19⟩, ok_mWorld F19 TM TW kW wTick mTaken, b19⟩
  have mLetter : MethOk P w K mg base CM "letter_to" 3 ["self", "receiver"] (spMLetter CM CL) := ⟨f20, _, ⟨a20, i20, k20⟩, ok_mLetter F20 TM kL, b20⟩
  have mWhen : MethOk P w K mg base CM "taken_when_shown" 2 ["self", "player"] (spMWhen CM) := ⟨f22, _, ⟨a22, i22, k22⟩, ok_mWhen F22 TM mShown mTaken, b22⟩
  have mLearn : MethOk P w K mg base CM "learn" 1 ["self", "letter"] (spMLearn CM CL) := ⟨f23, _, ⟨a23, i23, k23⟩, ok_mLearn F23 TM, b23⟩
  have mRecv : MethOk P w K mg base CM "receive" 3 ["self", "letter"] (spMReceive CM CL) := ⟨f21, _, ⟨a21, i21, k21⟩, ok_mReceive F21 TM mWhen mLearn mShown dFD, b21⟩
  have gHasM : MethOk P w K mg base CG "has_machine" 1 ["self", "machine"] (spGHasM CG CM CL) := ⟨f26, _, ⟨a26, i26, k26⟩, ok_gHasM F26 T TM, b26⟩
  have gHasL : MethOk P w K mg base CG "has_letter" 1 ["self", "letter"] (spGHasL CG CM CL) := ⟨f27, _, ⟨a27, i27, k27⟩, ok_gHasL F27 T TM, b27⟩
  have gShown : MethOk P w K mg base CG "shown" 6 ["self", "machine"] (spG1 CG CM CL .shown) := ⟨f37, _, ⟨a37, i37, k37⟩, ok_gShown F37 T TM TW gHasM mShown mWorld wNum, b37⟩
  have gSure : MethOk P w K mg base CG "sure" 6 ["self", "machine"] (spG1 CG CM CL .sure) := ⟨f38, _, ⟨a38, i38, k38⟩, ok_gSure F38 T TM TW gHasM mSure mWorld wNum, b38⟩
  have gAt : MethOk P w K mg base CG "at" 6 ["self", "machine", "ticks"] (spG2 CG CM CL .at_) := ⟨f43, _, ⟨a43, i43, k43⟩, ok_gAt F43 T TM TW gHasM mShown mSure mWorld wNum, b43⟩
  have gMachine : MethOk P w K mg base CG "machine" 2 ["self", "machine"] (spG1 CG CM CL .machine) := ⟨f42, _, ⟨a42, i42, k42⟩, ok_gMachine F42 T TM gHasM mShown mSure, b42⟩
  have gNet : MethOk P w K mg base CG "net" 1 ["self"] (spG0 CG CM CL .net) := ⟨f39, _, ⟨a39, i39, k39⟩, ok_gNet F39 T TM, b39⟩
  have gSureE : MethOk P w K mg base CG "sure_everywhere" 2 ["self"] (spGSureE CG CM CL) := ⟨f30, _, ⟨a30, i30, k30⟩, ok_gSureE F30 T TM mSure, b30⟩
  have gAgree : MethOk P w K mg base CG "agree" 6 ["self"] (spG0 CG CM CL .agree) := ⟨f40, _, ⟨a40, i40, k40⟩, ok_gAgree F40 T TM TW gSureE mWorld wSum, b40⟩
  have gTwice : MethOk P w K mg base CG "twice" 2 ["self", "letter"] (spG1 CG CM CL .twice) := ⟨f35, _, ⟨a35, i35, k35⟩, ok_gTwice F35 T TM gHasL, b35⟩
  have gLose : MethOk P w K mg base CG "lose" 2 ["self", "letter"] (spG1 CG CM CL .lose) := ⟨f36, _, ⟨a36, i36, k36⟩, ok_gLose F36 T TM gHasL, b36⟩
  have gArrive : MethOk P w K mg base CG "arrive" 4 ["self", "letter"] (spG1 CG CM CL .arrive) := ⟨f34, _, ⟨a34, i34, k34⟩, ok_gArrive F34 T TM gHasL mRecv mSure, b34⟩
  have gLetters : MethOk P w K mg base CG "letters_of" 4 ["self", "machine"] (spGLettersOf CG CM CL) := ⟨f28, _, ⟨a28, i28, k28⟩, ok_gLettersOf F28 T TM mLetter, b28⟩
  have gLetAll : MethOk P w K mg base CG "let_all_come" 4 ["self"] (spGLetAll CG CM CL) := ⟨f29, _, ⟨a29, i29, k29⟩, ok_gLetAll F29 T TM mRecv, b29⟩
  have gSend : MethOk P w K mg base CG "send" 5 ["self", "machine"] (spG1 CG CM CL .send) := ⟨f33, _, ⟨a33, i33, k33⟩, ok_gSend F33 T TM gHasM gLetters, b33⟩
  have gHeal : MethOk P w K mg base CG "heal" 5 ["self"] (spG0 CG CM CL .heal) := ⟨f41, _, ⟨a41, i41, k41⟩, ok_gHeal F41 T TM gLetAll gLetters gSureE, b41⟩
  have gStart : MethOk P w K mg base CG "start" 3 ["self", "players", "seed", "ahead"] (spGStart CG CM CL) := ⟨f25, _, ⟨a25, i25, k25⟩, ok_gStart F25 T TM kM, b25⟩
  have gBegins : MethOk P w K mg base CG "begins" 6 ["self", "players", "seed", "ahead"] (spG3 CG CM CL .begins) := ⟨f31, _, ⟨a31, i31, k31⟩, ok_gBegins F31 T TM TW gStart mWorld wNum, b31⟩
  have gPress : MethOk P w K mg base CG "press" 7 ["self", "machine", "key"] (spG2 CG CM CL .press) := ⟨f32, _, ⟨a32, i32, k32⟩, ok_gPress F32 T TM gHasM mShown mSure mPress gShown, b32⟩
  have kG : MakeOk P w K mg base "Game" CG 4 ["self"] (spGInit CG CM CL) := ⟨f24, _, PySem.W.mg_of X G aCG, ⟨mkCG, a24, i24, kcCG⟩, ok_gInit F24 T gStart, b24⟩
  have gAll : GameOk P w K mg base CG CM CL := ⟨gBegins, gPress, gSend, gArrive, gTwice, gLose, gShown, gSure, gNet, gAgree, gHeal, gMachine, gAt⟩
  have dAT : DefOk P w K mg base "answer_to" 8 ["game", "call", "numbers"] (spAnswerTo CG CM CL) := ⟨f5, _, PySem.W.mg_of X G a5, k5, ok_answerTo F5 T gAll, b5⟩
  exact ok_answers F6 T TM hA kG dAT
end Bn

namespace Bn
open PySem PySem.Spec PyProof.Rows L2
/-- **what is asked is answered** -/
theorem answers_end {K : PySem.W.Frag} {H : Hp} {p : Addr} {l : List Int} {Q : V → Hp → Prop} {E : XK} (hwi : ((PySem.W.Codec.inLen 0 160 l && l.all (PySem.W.Codec.inInt 0 4294967295)) && true) = true) (hask : PyGe14.answers_asked l = true) (hs : SqL K H p (l.map V.int))
    (hq : ∀ (H' : Hp) (b : Addr), H' b = some (.lst ((PyGe14.answers l).map V.int)) → Q (.ref b) H') : spAnswers K [.ref p] H Q E := by
  rw [Bool.and_eq_true, Bool.and_eq_true] at hwi
  obtain ⟨⟨h1, h2⟩, _⟩ := hwi
  have hn : ∀ x ∈ l, 0 ≤ x ∧ x ≤ 4294967295 := fun x hx => PySem.W.Codec.inInt_iff.mp (List.all_eq_true.mp h2 x hx)
  have hl : l.length ≤ 160 := (PySem.W.Codec.inNat_iff.mp h1).2
  obtain ⟨ns, e1, e2, e3, e4, e5⟩ := asked_calls hn hask
  have em : l.map V.int = ns.flatten.map nV := by
    rw [e1]
    unfold iz
    rw [List.map_map]
    rfl
  refine ⟨p, ns, rfl, ?_, ?_, e3, e5, fun H' b hb => hq H' b ?_⟩
  · rw [← em]
    exact hs
  · have e6 : l.length = ns.flatten.length := by
      rw [e1]
      unfold iz
      rw [List.length_map]
    omega
  · rw [e4]
    exact hb
end Bn

open PySem PySem.W PyProof.Rows
set_option maxRecDepth 100000 in
set_option maxHeartbeats 16000000 in
theorem PySem.Challenge.cw_badnet_s01_answers_holds : PySem.Challenge.rw_badnet_s01_answers.Holds := by
  w_on; k_headS; (case hw => exact ⟨[.list [.int 9]], by decide +kernel, by decide +kernel⟩)
  k_fillS
  refine L2.walk_specK (r := PySem.Challenge.rw_badnet_s01_answers) (k := 9) (CX := L2.CX0) (ps := ["calls"]) (sp := Bn.spAnswers) (by decide +kernel) rfl rfl ⟨rfl, by decide, by decide⟩ (fun w h Y => PySem.W.kIn_of Y) ?F ?S (fun _ _ _ _ z => z)
  case F =>
    intro w mg fa h Y KX G hmg
    refine' Bn.all_mk KX G hmg ?aCW ?aCL ?aCM ?aCG ?gSIDE ?gLUCKS ?gSUMS ?gMOST_PLAYERS ?gMOST_AHEAD ?gMOST_KEY ?gMOST_SHOWN ?gMOST_LETTERS ?zrange ?zenumerate ?zzip ?zlen ?zmin ?zmax ?gST ?lST ?yST ?vST ?lS0 ?yS0 ?vS0 ?lS1 ?yS1 ?vS1 ?lS2 ?yS2 ?vS2 ?lS3 ?yS3 ?vS3 ?lS4 ?yS4 ?vS4 ?gAR ?lAR ?yAR ?vAR ?pgCW ?hdCW ?poCW ?saCW ?mkCW ?kcCW ?pgCL ?hdCL ?poCL ?saCL ?mkCL ?kcCL ?pgCM ?hdCM ?poCM ?saCM ?mkCM ?kcCM ?pgCG ?hdCG ?poCG ?saCG ?mkCG ?kcCG ?nCWplaces ?nCWpoints ?nCWcoin ?nCWluck ?nCLsender ?nCLreceiver ?nCLfirst ?nCLpressed ?nCLtold ?nCMnumber ?nCMseed ?nCMknown ?nCMthere ?nCMagain ?nCGmachines ?nCGletters ?nCGahead ?a1 ?l1 ?c1 ?k1 ?a2 ?l2 ?c2 ?k2 ?a3 ?l3 ?c3 ?k3 ?a4 ?l4 ?c4 ?k4 ?a5 ?l5 ?c5 ?k5 ?a6 ?l6 ?c6 ?k6 ?a7 ?i7 ?l7 ?c7 ?k7 ?a8 ?i8 ?l8 ?c8 ?k8 ?a9 ?i9 ?l9 ?c9 ?k9 ?a10 ?i10 ?l10 ?c10 ?k10 ?a11 ?i11 ?l11 ?c11 ?k11 ?a12 ?i12 ?l12 ?c12 ?k12 ?a13 ?i13 ?l13 ?c13 ?k13 ?a14 ?i14 ?l14 ?c14 ?k14 ?a15 ?i15 ?l15 ?c15 ?k15 ?a16 ?i16 ?l16 ?c16 ?k16 ?a17 ?i17 ?l17 ?c17 ?k17 ?a18 ?i18 ?l18 ?c18 ?k18 ?a19 ?i19 ?l19 ?c19 ?k19 ?a20 ?i20 ?l20 ?c20 ?k20 ?a21 ?i21 ?l21 ?c21 ?k21 ?a22 ?i22 ?l22 ?c22 ?k22 ?a23 ?i23 ?l23 ?c23 ?k23 ?a24 ?i24 ?l24 ?c24 ?k24 ?a25 ?i25 ?l25 ?c25 ?k25 ?a26 ?i26 ?l26 ?c26 ?k26 ?a27 ?i27 ?l27 ?c27 ?k27 ?a28 ?i28 ?l28 ?c28 ?k28 ?a29 ?i29 ?l29 ?c29 ?k29 ?a30 ?i30 ?l30 ?c30 ?k30 ?a31 ?i31 ?l31 ?c31 ?k31 ?a32 ?i32 ?l32 ?c32 ?k32 ?a33 ?i33 ?l33 ?c33 ?k33 ?a34 ?i34 ?l34 ?c34 ?k34 ?a35 ?i35 ?l35 ?c35 ?k35 ?a36 ?i36 ?l36 ?c36 ?k36 ?a37 ?i37 ?l37 ?c37 ?k37 ?a38 ?i38 ?l38 ?c38 ?k38 ?a39 ?i39 ?l39 ?c39 ?k39 ?a40 ?i40 ?l40 ?c40 ?k40 ?a41 ?i41 ?l41 ?c41 ?k41 ?a42 ?i42 ?l42 ?c42 ?k42 ?a43 ?i43 ?l43 ?c43 ?k43
    (case aCW => k_is)
    (case aCL => k_is)
    (case aCM => k_is)
    (case aCG => k_is)
    (case gSIDE => k_is)
    (case gLUCKS => k_is)
    (case gSUMS => k_is)
    (case gMOST_PLAYERS => k_is)
    (case gMOST_AHEAD => k_is)
    (case gMOST_KEY => k_is)
    (case gMOST_SHOWN => k_is)
    (case gMOST_LETTERS => k_is)
    (case zrange => k_is)
    (case zenumerate => k_is)
    (case zzip => k_is)
    (case zlen => k_is)
    (case zmin => k_is)
    (case zmax => k_is)
    (case gST => k_is)
    (case lST => k_is)
    (case yST => decide +kernel)
    (case vST => exact .cons rfl (.cons rfl (.cons rfl (.cons rfl (.cons rfl .nil)))))
    (case lS0 => k_is)
    (case yS0 => decide +kernel)
    (case vS0 => exact .cons ⟨_, rfl⟩ (.cons ⟨_, rfl⟩ .nil))
    (case lS1 => k_is)
    (case yS1 => decide +kernel)
    (case vS1 => exact .cons ⟨_, rfl⟩ (.cons ⟨_, rfl⟩ .nil))
    (case lS2 => k_is)
    (case yS2 => decide +kernel)
    (case vS2 => exact .cons ⟨_, rfl⟩ (.cons ⟨_, rfl⟩ .nil))
    (case lS3 => k_is)
    (case yS3 => decide +kernel)
    (case vS3 => exact .cons ⟨_, rfl⟩ (.cons ⟨_, rfl⟩ .nil))
    (case lS4 => k_is)
    (case yS4 => decide +kernel)
    (case vS4 => exact .cons ⟨_, rfl⟩ (.cons ⟨_, rfl⟩ .nil))
    (case gAR => k_is)
    (case lAR => k_is)
    (case yAR => decide +kernel)
    (case vAR => exact .cons ⟨_, rfl⟩ (.cons ⟨_, rfl⟩ (.cons ⟨_, rfl⟩ (.cons ⟨_, rfl⟩ (.cons ⟨_, rfl⟩ (.cons ⟨_, rfl⟩ (.cons ⟨_, rfl⟩ (.cons ⟨_, rfl⟩ (.cons ⟨_, rfl⟩ (.cons ⟨_, rfl⟩ (.cons ⟨_, rfl⟩ (.cons ⟨_, rfl⟩ (.cons ⟨_, rfl⟩ .nil)))))))))))))
    (case pgCW => k_is)
    (case hdCW => k_is)
    (case poCW => k_is)
    (case saCW => k_is)
    (case mkCW => k_is)
    (case kcCW => k_is)
    (case pgCL => k_is)
    (case hdCL => k_is)
    (case poCL => k_is)
    (case saCL => k_is)
    (case mkCL => k_is)
    (case kcCL => k_is)
    (case pgCM => k_is)
    (case hdCM => k_is)
    (case poCM => k_is)
    (case saCM => k_is)
    (case mkCM => k_is)
    (case kcCM => k_is)
    (case pgCG => k_is)
    (case hdCG => k_is)
    (case poCG => k_is)
    (case saCG => k_is)
    (case mkCG => k_is)
    (case kcCG => k_is)
    (case nCWplaces => k_is)
    (case nCWpoints => k_is)
    (case nCWcoin => k_is)
    (case nCWluck => k_is)
    (case nCLsender => k_is)
    (case nCLreceiver => k_is)
    (case nCLfirst => k_is)
    (case nCLpressed => k_is)
    (case nCLtold => k_is)
    (case nCMnumber => k_is)
    (case nCMseed => k_is)
    (case nCMknown => k_is)
    (case nCMthere => k_is)
    (case nCMagain => k_is)
    (case nCGmachines => k_is)
    (case nCGletters => k_is)
    (case nCGahead => k_is)
    (case a1 => k_is)
    (case l1 => k_is)
    (case c1 => k_is)
    (case k1 => k_is)
    (case a2 => k_is)
    (case l2 => k_is)
    (case c2 => k_is)
    (case k2 => k_is)
    (case a3 => k_is)
    (case l3 => k_is)
    (case c3 => k_is)
    (case k3 => k_is)
    (case a4 => k_is)
    (case l4 => k_is)
    (case c4 => k_is)
    (case k4 => k_is)
    (case a5 => k_is)
    (case l5 => k_is)
    (case c5 => k_is)
    (case k5 => k_is)
    (case a6 => k_is)
    (case l6 => k_is)
    (case c6 => k_is)
    (case k6 => k_is)
    (case a7 => k_is)
    (case i7 => k_is)
    (case l7 => k_is)
    (case c7 => k_is)
    (case k7 => k_is)
    (case a8 => k_is)
    (case i8 => k_is)
    (case l8 => k_is)
    (case c8 => k_is)
    (case k8 => k_is)
    (case a9 => k_is)
    (case i9 => k_is)
    (case l9 => k_is)
    (case c9 => k_is)
    (case k9 => k_is)
    (case a10 => k_is)
    (case i10 => k_is)
    (case l10 => k_is)
    (case c10 => k_is)
    (case k10 => k_is)
    (case a11 => k_is)
    (case i11 => k_is)
    (case l11 => k_is)
    (case c11 => k_is)
    (case k11 => k_is)
    (case a12 => k_is)
    (case i12 => k_is)
    (case l12 => k_is)
    (case c12 => k_is)
    (case k12 => k_is)
    (case a13 => k_is)
    (case i13 => k_is)
    (case l13 => k_is)
    (case c13 => k_is)
    (case k13 => k_is)
    (case a14 => k_is)
    (case i14 => k_is)
    (case l14 => k_is)
    (case c14 => k_is)
    (case k14 => k_is)
    (case a15 => k_is)
    (case i15 => k_is)
    (case l15 => k_is)
    (case c15 => k_is)
    (case k15 => k_is)
    (case a16 => k_is)
    (case i16 => k_is)
    (case l16 => k_is)
    (case c16 => k_is)
    (case k16 => k_is)
    (case a17 => k_is)
    (case i17 => k_is)
    (case l17 => k_is)
    (case c17 => k_is)
    (case k17 => k_is)
    (case a18 => k_is)
    (case i18 => k_is)
    (case l18 => k_is)
    (case c18 => k_is)
    (case k18 => k_is)
    (case a19 => k_is)
    (case i19 => k_is)
    (case l19 => k_is)
    (case c19 => k_is)
    (case k19 => k_is)
    (case a20 => k_is)
    (case i20 => k_is)
    (case l20 => k_is)
    (case c20 => k_is)
    (case k20 => k_is)
    (case a21 => k_is)
    (case i21 => k_is)
    (case l21 => k_is)
    (case c21 => k_is)
    (case k21 => k_is)
    (case a22 => k_is)
    (case i22 => k_is)
    (case l22 => k_is)
    (case c22 => k_is)
    (case k22 => k_is)
    (case a23 => k_is)
    (case i23 => k_is)
    (case l23 => k_is)
    (case c23 => k_is)
    (case k23 => k_is)
    (case a24 => k_is)
    (case i24 => k_is)
    (case l24 => k_is)
    (case c24 => k_is)
    (case k24 => k_is)
    (case a25 => k_is)
    (case i25 => k_is)
    (case l25 => k_is)
    (case c25 => k_is)
    (case k25 => k_is)
    (case a26 => k_is)
    (case i26 => k_is)
    (case l26 => k_is)
    (case c26 => k_is)
    (case k26 => k_is)
    (case a27 => k_is)
    (case i27 => k_is)
    (case l27 => k_is)
    (case c27 => k_is)
    (case k27 => k_is)
    (case a28 => k_is)
    (case i28 => k_is)
    (case l28 => k_is)
    (case c28 => k_is)
    (case k28 => k_is)
    (case a29 => k_is)
    (case i29 => k_is)
    (case l29 => k_is)
    (case c29 => k_is)
    (case k29 => k_is)
    (case a30 => k_is)
    (case i30 => k_is)
    (case l30 => k_is)
    (case c30 => k_is)
    (case k30 => k_is)
    (case a31 => k_is)
    (case i31 => k_is)
    (case l31 => k_is)
    (case c31 => k_is)
    (case k31 => k_is)
    (case a32 => k_is)
    (case i32 => k_is)
    (case l32 => k_is)
    (case c32 => k_is)
    (case k32 => k_is)
    (case a33 => k_is)
    (case i33 => k_is)
    (case l33 => k_is)
    (case c33 => k_is)
    (case k33 => k_is)
    (case a34 => k_is)
    (case i34 => k_is)
    (case l34 => k_is)
    (case c34 => k_is)
    (case k34 => k_is)
    (case a35 => k_is)
    (case i35 => k_is)
    (case l35 => k_is)
    (case c35 => k_is)
    (case k35 => k_is)
    (case a36 => k_is)
    (case i36 => k_is)
    (case l36 => k_is)
    (case c36 => k_is)
    (case k36 => k_is)
    (case a37 => k_is)
    (case i37 => k_is)
    (case l37 => k_is)
    (case c37 => k_is)
    (case k37 => k_is)
    (case a38 => k_is)
    (case i38 => k_is)
    (case l38 => k_is)
    (case c38 => k_is)
    (case k38 => k_is)
    (case a39 => k_is)
    (case i39 => k_is)
    (case l39 => k_is)
    (case c39 => k_is)
    (case k39 => k_is)
    (case a40 => k_is)
    (case i40 => k_is)
    (case l40 => k_is)
    (case c40 => k_is)
    (case k40 => k_is)
    (case a41 => k_is)
    (case i41 => k_is)
    (case l41 => k_is)
    (case c41 => k_is)
    (case k41 => k_is)
    (case a42 => k_is)
    (case i42 => k_is)
    (case l42 => k_is)
    (case c42 => k_is)
    (case k42 => k_is)
    (case a43 => k_is)
    (case i43 => k_is)
    (case l43 => k_is)
    (case c43 => k_is)
    (case k43 => k_is)
  case S =>
    intro K H xs a hO hwi hask hx
    cases hx with
    | cons h1 h2 =>
      cases h2
      cases h1 with
      | lst hs ha =>
        have e := L2.ints_dw a.1 _ ha
        subst e
        exact Bn.answers_end hwi hask hs fun H2 b hb => .lst (L2.SqL.of hb) (L2.dw_ints _)
