import PyProof.Rows.All
import Wide.All
import OpenK.AllK
import Wide.FinOn
import HandS.ForMost
import HandS.Exc
import HandS.TryOnly
import HandS.ExcOwn
import HandS.WordsExc
import HandS.IsInst
import HandS.ExcInit
import HandS.DeepEq
import HandS.Evl
import HandS.Walk
import HandS.ExcField
import HandS.ExcIs
import HandS.ExcValue
import HandS.OwnEq
import KE.KExcIs
import PySem.Challenge.RW_usecounts_k00_errors_of_the_package
set_option Elab.async false
set_option maxRecDepth 100000
namespace K00
open PySem L2
def top (i : Nat) : Stmt := PySem.Challenge.pw_usecounts_k00_errors_of_the_package.main.body.getD i (.Pass ⟨0, 0, 0, 0⟩)
abbrev sHand : Stmt := top 42
abbrev sDraw : Stmt := top 43
abbrev sSome : Stmt := top 44

theorem yes_kept {A B : Hp → Prop} {σ : St} {H : Hp} (h : A H) : tYes σ H (fun b H3 => if b = true then A H3 else B H3) := by
  show (if true = true then A H else B H)
  rw [if_pos rfl]
  exact h
/-- the builtins that the text leaves alone -/
structure TxB (mg : Str → Option Value) : Prop where
  abs : mg "abs" = none
  int : mg "int" = none
  len : mg "len" = none
  isinstance : mg "isinstance" = none
  all : mg "all" = none
  range : mg "range" = none

/-- the hand of draws -/
structure HandAt (H : Hp) (p c : Addr) (cells : List Int) : Prop where
  ob : ∃ i z s n : Int, 0 ≤ i ∧ H p = some (.lst [.ref c, .int i, .int z, .int s, .int n])
  cl : H c = some (.lst (cells.map V.int))
theorem HandAt.ne {H : Hp} {p c : Addr} {cells : List Int} (h : HandAt H p c cells) : p ≠ c := by
  obtain ⟨⟨i, z, s, n, _, e⟩, k⟩ := h
  refine ne_of e k (fun z => ?_)
  cases cells with
  | nil => cases z
  | cons a l => cases z
theorem HandAt.put {H : Hp} {p c : Addr} {cells : List Int} (h : HandAt H p c cells) {i z s n : Int} (hi : 0 ≤ i) : HandAt (upd H p (.lst [.ref c, .int i, .int z, .int s, .int n])) p c cells :=
  ⟨⟨i, z, s, n, hi, upd_same⟩, by rw [upd_ne h.ne.symm]; exact h.cl⟩
theorem HandAt.keep {H H' : Hp} {p c : Addr} {cells : List Int} (h : HandAt H p c cells) (k : ∀ b, b ≠ p → H' b = H b) (e : H' p = H p) : HandAt H' p c cells := by
  obtain ⟨⟨i, z, s, n, hi, q⟩, l⟩ := id h
  exact ⟨⟨i, z, s, n, hi, by rw [e]; exact q⟩, by rw [k c h.ne.symm]; exact l⟩

def spHand (K : PySem.W.Frag) : Sp := fun vs H Q _ => ∃ (a : Addr) (ns : List Int), vs = [.ref a] ∧ SqL K H a (ns.map V.int) ∧ ns.length ≤ 1000 ∧
  ∀ (p c : Addr) (cells : List Int) (H' : Hp), Same H H' → H p = none → HandAt H' p c cells → Q (.ref p) H'
/-- a draw: some number below -/
def spDraw : Sp := fun vs H Q _ => ∃ (p c : Addr) (cells : List Int) (m : Int), vs = [.ref p, .int m] ∧ HandAt H p c cells ∧ 0 < m ∧ m < 1000000 ∧
  ∀ (r : Int) (H' : Hp), 0 ≤ r → r < m → HandAt H' p c cells → (∀ b, b ≠ p → H' b = H b) → Q (.int r) H'
def spSome (K : PySem.W.Frag) : Sp := fun vs H Q _ => ∃ (p c t : Addr) (cells : List Int) (xs : List V), vs = [.ref p, .ref t] ∧ HandAt H p c cells ∧ SqL K H t xs ∧ t ≠ p ∧ 0 < xs.length ∧ xs.length < 1000 ∧
  ∀ (k : Nat) (v : V) (H' : Hp), xs[k]? = some v → HandAt H' p c cells → (∀ b, b ≠ p → H' b = H b) → Q v H'

section
variable {P : Program} {w : World} {K : PySem.W.Frag} {mg : Str → Option Value} {base : Heap}
theorem scH : FnScope ["_law_script", "_law_cells", "_law_cell"] ["_law_script"] (defScope sHand) := ⟨rfl, rfl, rfl, by decide +kernel, rfl, by decide +kernel, by decide +kernel⟩
theorem ok_hand {f : Addr} {fd : FuncData} (F : Fun K "_law_hand" "_law_hand" sHand f fd) (T : TxB mg) : FnOk P w K mg base CX0 1 f fd ["_law_script"] (spHand K) := by
  refine F.ok scH (fun vs H Q E h => ?_) (fun cdv A outer s H vs Q E hr h => ?_)
  · obtain ⟨a, ns, rfl, _⟩ := h
    rfl
  · obtain ⟨a, ns, rfl, hS, hlen, k⟩ := h
    have hu := hu_of hr
    refine ⟨_, pss_cons (ps_setLc (i := 1) (own := [("_law_cell", 2)]) (g := gName 2) (tt := tYes) rfl scH.nd rfl rfl (sw_true rfl rfl rfl (by decide +kernel))
        (pi_list (pe_slice sl_list (pv 0) po_none (po_some pe_int))) (blkOk_by (N := ["_law_script", "_law_cells", "_law_cell"]) (sc := defScope sHand) (by decide +kernel))
        (fun _ _ _ _ _ => pg_name (i := 2) scH.nd rfl (Or.inl rfl)) (fun _ _ _ _ _ => pts_nil)
        (fun _ _ _ _ _ => pe_callB call_abs (by rfl) T.abs (by decide +kernel) (pa_cons (pe_callTy call_int1 (by rfl) T.int (by decide +kernel) (pa_cons (pv 2) pa_nil)) pa_nil)))
      (pss_one (ps_ret (pe_lst (pa_cons (pv 1) (pa_cons pe_int (pa_cons pe_int (pa_cons (pe_op op_add pe_int (pe_callB call_len (by rfl) T.len PySem.boot_len (pa_cons (pv 1) pa_nil))) (pa_cons pe_int pa_nil)))))))), ?_⟩
    refine ⟨_, rfl, 63, rfl, _, _, rfl, hS, ?_⟩
    intro sl hsl
    refine ⟨sl, rfl, ⟨_, SqL.of upd_same⟩, fun D hD => ?_⟩
    have hDs : D ≠ sl := fun e => by rw [e, upd_same] at hD; cases hD
    have hD0 : H D = none := by rw [upd_ne hDs] at hD; exact hD
    obtain ⟨zs, ez, hzl⟩ : ∃ zs : List Int, cutV (ns.map V.int) none (some 63) = zs.map V.int ∧ zs.length ≤ 1000 := by
      refine ⟨(ns.drop (HT.sIx (ns.map V.int).length 0 none)).take (HT.sIx (ns.map V.int).length (ns.map V.int).length (some 63) - HT.sIx (ns.map V.int).length 0 none), ?_, ?_⟩
      · unfold cutV
        rw [← List.map_drop, ← List.map_take]
      · rw [List.length_take, List.length_drop]; omega
    rw [ez]
    refine lc_list (K := K) (a := sl) (xs := zs.map V.int) (fun i H' => Same H H' ∧ H' sl = some (.lst (zs.map V.int)) ∧ ∃ cs : List Int, cs.length = i ∧ H' D = some (.lst (cs.map V.int)))
      ⟨fun b o e => ?_, ?_, [], rfl, upd_same⟩ (fun i H' _ p => SqL.of p.2.1) ?_ ?_
    · rw [upd_ne (ne_of_none e hD0), upd_ne (ne_of_none e hsl)]; exact e
    · rw [upd_ne hDs.symm, upd_same]
    · rintro i x H' hx ⟨h1, h2, cs, h3, h4⟩
      obtain ⟨z, rfl⟩ : ∃ z, x = V.int z := by
        rw [List.getElem?_map] at hx
        cases e : zs[i]? with
        | none => rw [e] at hx; cases hx
        | some z => rw [e] at hx; exact ⟨z, (Option.some.inj hx).symm⟩
      have hi : i < zs.length := by
        have := (List.getElem?_eq_some_iff.mp hx).1
        rwa [List.length_map] at this
      refine ⟨rfl, ?_⟩
      refine yes_kept ?_
      refine ⟨_, rfl, .inl ⟨_, rfl, _, rfl, cs.map V.int, h4, ?_, fun b o e => ?_, ?_, cs ++ [if z < 0 then -z else z], ?_, ?_⟩⟩
      · rw [List.length_map, h3]; exact small1000 (by omega)
      · rw [upd_ne (ne_of_none e hD0)]; exact h1 b o e
      · rw [upd_ne hDs.symm]; exact h2
      · rw [List.length_append, h3]; rfl
      · rw [upd_same, List.map_append]; rfl
    · rintro H' ⟨h1, h2, cs, h3, h4⟩
      refine ⟨_, rfl, _, rfl, _, _, rfl, .inl ⟨_, SqL.of h4, rfl⟩, _, _, rfl, rfl, (by show 5 ≤ sizeLine; decide), fun p hp => ?_⟩
      exact k p D cs _ (fun b o e => by rw [upd_ne (ne_of_none (h1 b o e) hp)]; exact h1 b o e) (by
        cases e : H p with
        | none => rfl
        | some o => have := h1 p o e; rw [hp] at this; cases this) ⟨⟨0, 0, _, 0, Int.le_refl _, upd_same⟩, by rw [upd_ne (ne_of_none h4 hp)]; exact h4⟩
theorem scD : FnScope ["_law_hand_here", "_law_many", "_law_cell", "_law_digit", "_law_number"] ["_law_hand_here", "_law_many"] (defScope sDraw) := ⟨rfl, rfl, rfl, by decide +kernel, rfl, by decide +kernel, by decide +kernel⟩
theorem ok_draw {f : Addr} {fd : FuncData} (F : Fun K "_law_draw" "_law_draw" sDraw f fd) (T : TxB mg) : FnOk P w K mg base CX0 1 f fd ["_law_hand_here", "_law_many"] spDraw := by
  refine F.ok scD (fun vs H Q E h => ?_) (fun cdv A outer s H vs Q E hr h => ?_)
  · obtain ⟨p, c, cells, m, rfl, _⟩ := h
    rfl
  · obtain ⟨p, c, cells, m, rfl, hA, hm, hm2, k⟩ := h
    have hu := hu_of hr
    have nd := scD.nd
    refine ⟨_, Evl.pss_cut (ps_if (PW.pt (pw_and (pt_cmpR op_eq (pe_ix ix_list (pv 0) pe_int (fun _ _ => rfl)) pe_int (nomark _))
          (pw_and1 (pt_cmpR op_lt (pe_ix ix_list (pv 0) pe_int (fun _ _ => rfl)) (pe_callB call_len (by rfl) T.len PySem.boot_len (pa_cons (pe_ix ix_list (pv 0) pe_int (fun _ _ => rfl)) pa_nil)) (nomark _)))))
        (pss_cons (ps_set (i := 2) nd rfl (Or.inl rfl) (pe_ix ix_list (pe_ix ix_list (pv 0) pe_int (fun _ _ => rfl)) (pe_ix ix_list (pv 0) pe_int (fun _ _ => rfl)) (fun _ _ => rfl)))
        (pss_cons (ps_asg (pe_op op_add (pe_ix ix_list (pv 0) pe_int (fun _ _ => rfl)) pe_int) (pg_sub (pv 0) pe_int set_list))
        (pss_cons (ps_asg (pe_op op_mod (pe_callTy call_int1 (by rfl) T.int (by decide +kernel) (pa_cons (pe_op op_add (pe_op op_add (pe_op op_mul (pe_ix ix_list (pv 0) pe_int (fun _ _ => rfl)) pe_int) (pv 2)) pe_int) pa_nil)) pe_int) (pg_sub (pv 0) pe_int set_list))
        (pss_one (ps_if (pt_cmpR op_ge (pv 2) (pe_op op_pow pe_int pe_int) (nomark _)) (pss_one (ps_asg (pv 2) (pg_sub (pv 0) pe_int set_list))) pss_nil)))))
        pss_nil)
      (pss_cons (ps_if (pt_cmpR op_gt (pe_ix ix_list (pv 0) pe_int (fun _ _ => rfl)) pe_int (nomark _))
        (pss_cons (ps_set (i := 3) nd rfl (Or.inl rfl) (pe_op op_mod (pe_callTy call_int1 (by rfl) T.int (by decide +kernel) (pa_cons (pe_ix ix_list (pv 0) pe_int (fun _ _ => rfl)) pa_nil)) (pv 1)))
        (pss_cons (ps_asg (pe_op op_fdivN (pe_ix ix_list (pv 0) pe_int (fun _ _ => rfl)) (pv 1)) (pg_sub (pv 0) pe_int set_list))
        (pss_one (ps_ret (pv 3))))) pss_nil)
      (pss_cons (ps_asg (pe_op op_add (pe_ix ix_list (pv 0) pe_int (fun _ _ => rfl)) pe_int) (pg_sub (pv 0) pe_int set_list))
      (pss_cons (ps_set (i := 4) nd rfl (Or.inl rfl) (pe_op op_mod (pe_callTy call_int1 (by rfl) T.int (by decide +kernel) (pa_cons (pe_op op_mul (pe_callTy call_int1 (by rfl) T.int (by decide +kernel) (pa_cons (pe_op op_add (pe_ix ix_list (pv 0) pe_int (fun _ _ => rfl)) (pe_op op_mul pe_int (pe_ix ix_list (pv 0) pe_int (fun _ _ => rfl)))) pa_nil)) pe_int) pa_nil)) pe_int))
      (pss_cons (ps_set (i := 4) nd rfl (Or.inl rfl) (pe_op op_mod (pe_callTy call_int1 (by rfl) T.int (by decide +kernel) (pa_cons (pe_op op_mul (pv 4) (pe_op op_add (pe_op op_fdiv (pv 4) pe_int) pe_int)) pa_nil)) pe_int))
      (pss_cons (ps_set (i := 4) nd rfl (Or.inl rfl) (pe_op op_mod (pe_callTy call_int1 (by rfl) T.int (by decide +kernel) (pa_cons (pe_op op_mul (pv 4) (pe_op op_add (pe_op op_fdiv (pv 4) pe_int) pe_int)) pa_nil)) pe_int))
      (pss_one (ps_ret (pe_op op_mod (pe_callTy call_int1 (by rfl) T.int (by decide +kernel) (pa_cons (pe_op op_fdiv (pv 4) pe_int) pa_nil)) (pv 1))))))))), ?_⟩
    obtain ⟨⟨i, z, s0, n, hi, hp⟩, hc⟩ := id hA
    have nep := hA.ne
    refine ⟨fun σ' H' => ∃ (i z s n : Int) (v : Option V), 0 ≤ i ∧ σ' = [some (.ref p), some (.int m), v, none, none] ∧ H' p = some (.lst [.ref c, .int i, .int z, .int s, .int n]) ∧ (∀ b, b ≠ p → H' b = H b), ?_, ?_⟩
    · -- hand[2] == 0 and hand[1] < len(hand[0])
      refine ⟨_, rfl, p, _, _, _, rfl, rfl, SqL.of hp, rfl, rfl, _, rfl, ?_⟩
      refine ite2 (fun _ => ?_) (fun _ => ?_)
      · refine ⟨_, rfl, p, _, _, _, rfl, rfl, SqL.of hp, rfl, _, rfl, p, _, _, _, rfl, rfl, SqL.of hp, rfl, _, _, rfl, .inl ⟨_, SqL.of hc, rfl⟩, _, _, rfl, rfl, _, rfl, ?_⟩
        refine ite2 (fun e1 => ?_) (fun _ => ?_)
        · have e2 : i < (cells.length : Int) := by
            have := of_decide_eq_true e1
            rw [List.length_map] at this
            exact this
          obtain ⟨j, rfl⟩ := Int.eq_ofNat_of_zero_le hi
          have hj : j < cells.length := by omega
          have hat : atI (cells.map V.int) (j : Int) = some (.int cells[j]) := atI_nat (by rw [List.getElem?_map, List.getElem?_eq_getElem hj]; rfl)
          refine ⟨_, rfl, p, _, _, _, rfl, rfl, SqL.of hp, rfl, _, rfl, p, _, _, _, rfl, rfl, SqL.of hp, rfl, c, _, _, _, rfl, rfl, SqL.of hc, hat, ?_⟩
          refine ⟨_, rfl, p, _, _, _, rfl, rfl, SqL.of hp, rfl, _, _, rfl, rfl, _, rfl, p, _, _, 1, rfl, rfl, hp, rfl, ?_⟩
          refine ⟨_, rfl, p, _, _, _, rfl, rfl, SqL.of upd_same, rfl, _, _, rfl, rfl, .inr ⟨by decide, by decide⟩, _, rfl, _, _, rfl, rfl, _, _, rfl, rfl, .inl ⟨_, rfl, _, _, rfl, rfl, (by show (0 : Int) < 2147483629; decide), _, rfl, p, _, _, 3, rfl, rfl, upd_same, rfl, ?_⟩⟩
          refine ⟨_, rfl, _, _, rfl, rfl, ⟨by decide, by decide, by decide⟩, _, _, rfl, rfl, _, rfl, ?_⟩
          refine ite2 (fun _ => ?_) (fun _ => ?_)
          · refine ⟨_, rfl, _, rfl, p, _, _, 2, rfl, rfl, upd_same, rfl, (j : Int) + 1, _, _, _, some (.int cells[j]), by omega, rfl, upd_same, fun b hb => by rw [upd_ne hb, upd_ne hb, upd_ne hb]⟩
          · exact ⟨(j : Int) + 1, _, _, _, some (.int cells[j]), by omega, rfl, upd_same, fun b hb => by rw [upd_ne hb, upd_ne hb]⟩
        · exact ⟨i, z, s0, n, none, hi, rfl, hp, fun _ _ => rfl⟩
      · exact ⟨i, z, s0, n, none, hi, rfl, hp, fun _ _ => rfl⟩
    · clear hi hp i z s0 n
      rintro _ H1 ⟨i, z, s0, n, v, hi, rfl, hp, kp⟩
      have hc1 : H1 c = some (.lst (cells.map V.int)) := by rw [kp c nep.symm]; exact hc
      have fin : ∀ (r : Int) (i z s n : Int) (H2 : Hp), 0 ≤ r → r < m → 0 ≤ i → H2 p = some (.lst [.ref c, .int i, .int z, .int s, .int n]) → (∀ b, b ≠ p → H2 b = H1 b) → Q (.int r) H2 :=
        fun r i z s n H2 h0 h1 hi h2 h3 => k r H2 h0 h1 ⟨⟨i, z, s, n, hi, h2⟩, by rw [h3 c nep.symm]; exact hc1⟩ fun b hb => (h3 b hb).trans (kp b hb)
      -- hand[2] > 0
      refine ⟨_, rfl, p, _, _, _, rfl, rfl, SqL.of hp, rfl, _, _, rfl, rfl, _, rfl, ?_⟩
      refine ite2 (fun _ => ?_) (fun _ => ?_)
      · refine ⟨_, rfl, p, _, _, _, rfl, rfl, SqL.of hp, rfl, .inl ⟨_, rfl, _, rfl, _, _, rfl, rfl, hm, ?_⟩⟩
        refine ⟨_, rfl, p, _, _, _, rfl, rfl, SqL.of hp, rfl, _, rfl, _, _, rfl, rfl, ⟨by omega, by omega⟩, _, rfl, p, _, _, 2, rfl, rfl, hp, rfl, _, rfl, ?_⟩
        exact fin _ i _ _ _ _ (Int.emod_nonneg _ (by omega)) (Int.emod_lt_of_pos _ hm) hi upd_same fun b hb => upd_ne hb
      · refine ⟨_, rfl, p, _, _, _, rfl, rfl, SqL.of hp, rfl, _, _, rfl, rfl, _, rfl, p, _, _, 4, rfl, rfl, hp, rfl, ?_⟩
        refine ⟨_, rfl, p, _, _, _, rfl, rfl, SqL.of upd_same, rfl, _, rfl, p, _, _, _, rfl, rfl, SqL.of upd_same, rfl, _, _, rfl, rfl, .inl ⟨by decide, by decide⟩, _, _, rfl, rfl, .inl ⟨_, rfl, _, _, rfl, rfl, .inr ⟨by decide, by decide⟩, .inl ⟨_, rfl, _, _, rfl, rfl, (by show (0 : Int) < 2147483647; decide), ?_⟩⟩⟩
        dsimp only
        generalize hn1 : ((s0 + 7919 * (n + 1)) * 48271) % 2147483647 = n1
        have b1 : 0 ≤ n1 := by rw [← hn1]; exact Int.emod_nonneg _ (by decide)
        have b2 : n1 < 2147483647 := by rw [← hn1]; exact Int.emod_lt_of_pos _ (by decide)
        clear hn1
        refine ⟨_, rfl, _, rfl, _, _, rfl, rfl, ⟨by decide, by decide⟩, _, _, rfl, rfl, _, _, rfl, rfl, .inl ⟨by omega, by omega⟩, .inl ⟨_, rfl, _, _, rfl, rfl, (by show (0 : Int) < 2147483647; decide), ?_⟩⟩
        dsimp only
        generalize hn2 : (n1 * (n1 / 1009 + 69621)) % 2147483647 = n2
        have b3 : 0 ≤ n2 := by rw [← hn2]; exact Int.emod_nonneg _ (by decide)
        have b4 : n2 < 2147483647 := by rw [← hn2]; exact Int.emod_lt_of_pos _ (by decide)
        clear hn2
        refine ⟨_, rfl, _, rfl, _, _, rfl, rfl, ⟨by decide, by decide⟩, _, _, rfl, rfl, _, _, rfl, rfl, .inl ⟨by omega, by omega⟩, .inl ⟨_, rfl, _, _, rfl, rfl, (by show (0 : Int) < 2147483399; decide), ?_⟩⟩
        refine ⟨_, rfl, _, _, rfl, rfl, ⟨by decide, by decide⟩, .inl ⟨_, rfl, _, rfl, _, _, rfl, rfl, hm, ?_⟩⟩
        exact fin _ i _ _ _ _ (Int.emod_nonneg _ (by omega)) (Int.emod_lt_of_pos _ hm) hi upd_same fun b hb => upd_ne hb
theorem scS : FnScope ["_law_hand_here", "_law_things"] ["_law_hand_here", "_law_things"] (defScope sSome) := ⟨rfl, rfl, rfl, by decide +kernel, rfl, by decide +kernel, by decide +kernel⟩
theorem ok_some {f fD : Addr} {fd fdD : FuncData} (F : Fun K "_law_some" "_law_some" sSome f fd) (T : TxB mg) (FD : Fun K "_law_draw" "_law_draw" sDraw fD fdD) (bD : Binds K fdD ["_law_hand_here", "_law_many"] []) (mD : mg "_law_draw" = some (.ref fD)) :
    FnOk P w K mg base CX0 2 f fd ["_law_hand_here", "_law_things"] (spSome K) := by
  have GD : FnOk P w K mg base CX0 1 fD fdD ["_law_hand_here", "_law_many"] spDraw := ok_draw FD T
  refine F.ok scS (fun vs H Q E h => ?_) (fun cdv A outer s H vs Q E hr h => ?_)
  · obtain ⟨p, c, t, cells, xs, rfl, _⟩ := h
    rfl
  · obtain ⟨p, c, t, cells, xs, rfl, hA, hT, hn, h0, h1, k⟩ := h
    refine ⟨_, pss_one (ps_ret (pe_ix ix_list (pv 1) (pe_call GD hr (by rfl) mD FD.kp bD .nil pass0 (pa_cons (pv 0) (pa_cons (pe_callB call_len (by rfl) T.len PySem.boot_len (pa_cons (pv 1) pa_nil)) pa_nil))) (fun _ _ => rfl))), ?_⟩
    refine ⟨_, rfl, _, rfl, _, rfl, _, _, rfl, .inl ⟨_, hT, rfl⟩, p, c, cells, _, rfl, hA, by omega, by omega, fun r H' h2 h3 hA' kp => ?_⟩
    obtain ⟨j, rfl⟩ := Int.eq_ofNat_of_zero_le h2
    have hj : j < xs.length := by omega
    have hT' : SqL K H' t xs := by
      rcases hT with q | q
      · exact .inl (by unfold Rd; rw [kp t hn]; exact q)
      · exact .inr q
    exact ⟨t, xs, _, _, rfl, rfl, hT', atI_nat (List.getElem?_eq_getElem hj), k j _ H' (List.getElem?_eq_getElem hj) hA' kp⟩
end
end K00

set_option Elab.async false
set_option maxRecDepth 100000
namespace K00
open PySem L2
abbrev sIs : Stmt := top 45
abbrev sDeep : Stmt := top 46

/-- further builtins that the text leaves alone -/
structure TxC (mg : Str → Option Value) : Prop where
  tuple : mg "tuple" = none
  list : mg "list" = none
  dict : mg "dict" = none
  bool : mg "bool" = none

def fl : V → Bool
  | .non => true
  | .bl _ => true
  | .int _ => true
  | .str _ => true
  | _ => false
/-- a drawn thing, at most so deep -/
def TrV (K : PySem.W.Frag) (H : Hp) : Nat → V → Prop
  | 0, _ => False
  | n + 1, v => fl v = true ∨ (∃ a xs, v = .ref a ∧ (H a = some (.lst xs) ∨ H a = some (.tup xs)) ∧ xs.length ≤ 1000 ∧ ∀ x ∈ xs, TrV K H n x) ∨
      (0 < n ∧ ∃ (a : Addr) (z : Str) (i : Int), v = .ref a ∧ H a = some (.dK [(Sum.inr z, .int i)]))
theorem TrV.same {K : PySem.W.Frag} {H H' : Hp} (e : Same H H') : ∀ {n : Nat} {v : V}, TrV K H n v → TrV K H' n v
  | 0, _, h => h
  | n + 1, v, h => by
    rcases h with h | ⟨a, xs, rfl, h, hl, hx⟩ | ⟨h0, a, z, i, rfl, h⟩
    · exact .inl h
    · refine .inr (.inl ⟨a, xs, rfl, ?_, hl, fun x hm => TrV.same e (hx x hm)⟩)
      rcases h with h | h
      · exact .inl (e a _ h)
      · exact .inr (e a _ h)
    · exact .inr (.inr ⟨h0, a, z, i, rfl, e a _ h⟩)
/-- two drawn things that are equal: the same one, or two lists, two tuples of the same ones -/
def TrP (K : PySem.W.Frag) (H : Hp) : Nat → V → V → Prop
  | 0, _, _ => False
  | n + 1, u, v => (fl v = true ∧ u = v) ∨ (∃ a' a xs, u = .ref a' ∧ v = .ref a ∧ ((H a' = some (.lst xs) ∧ H a = some (.lst xs)) ∨ (H a' = some (.tup xs) ∧ H a = some (.tup xs))) ∧ xs.length ≤ 1000 ∧ ∀ x ∈ xs, TrV K H n x) ∨
      (0 < n ∧ ∃ (a : Addr) (z : Str) (i : Int), u = .ref a ∧ v = .ref a ∧ H a = some (.dK [(Sum.inr z, .int i)]))
theorem TrV.p {K : PySem.W.Frag} {H : Hp} : ∀ {n : Nat} {v : V}, TrV K H n v → TrP K H n v v
  | 0, _, h => h
  | n + 1, v, h => by
    rcases h with h | ⟨a, xs, rfl, h, hl, hx⟩ | ⟨h0, a, z, i, rfl, h⟩
    · exact .inl ⟨h, rfl⟩
    · refine .inr (.inl ⟨a, a, xs, rfl, rfl, ?_, hl, hx⟩)
      rcases h with h | h
      · exact .inl ⟨h, h⟩
      · exact .inr ⟨h, h⟩
    · exact .inr (.inr ⟨h0, a, z, i, rfl, rfl, h⟩)
theorem TrV.up {K : PySem.W.Frag} {H : Hp} : ∀ {n : Nat} {v : V}, TrV K H n v → TrV K H (n + 1) v
  | 0, _, h => h.elim
  | n + 1, v, h => by
    rcases h with h | ⟨a, xs, rfl, h, hl, hx⟩ | ⟨h0, a, z, i, rfl, h⟩
    · exact .inl h
    · exact .inr (.inl ⟨a, xs, rfl, h, hl, fun x hm => (hx x hm).up⟩)
    · exact .inr (.inr ⟨Nat.succ_pos _, a, z, i, rfl, h⟩)
def spIs (K : PySem.W.Frag) (n : Nat) : Sp := fun vs H Q _ => ∃ u v : V, vs = [u, v] ∧ TrP K H n u v ∧ ∀ H', Same H H' → Q (.bl true) H'

theorem fl_ty {v : V} (h : fl v = true) : ∃ t : String, (∀ K H, TyX K H v (.type t)) ∧ kitB t "tuple" = some false ∧ kitB t "list" = some false ∧ kitB t "dict" = some false ∧ ∃ b, kitB t "bool" = some b := by
  cases v with
  | non => exact ⟨"NoneType", fun _ _ => .base .non, by decide +kernel, by decide +kernel, by decide +kernel, false, by decide +kernel⟩
  | bl b => exact ⟨"bool", fun _ _ => .base (.bl b), by decide +kernel, by decide +kernel, by decide +kernel, true, by decide +kernel⟩
  | int i => exact ⟨"int", fun _ _ => .base (.int i), by decide +kernel, by decide +kernel, by decide +kernel, false, by decide +kernel⟩
  | str x => exact ⟨"str", fun _ _ => .base (.str x), by decide +kernel, by decide +kernel, by decide +kernel, false, by decide +kernel⟩
  | byt b => cases h
  | flt b => cases h
  | ref a => cases h
  | ty n => cases h
theorem fl_scal {v : V} (h : fl v = true) : scal v v = true := by
  cases v <;> first | rfl | cases h
theorem seq_isF {K : PySem.W.Frag} {t : String} (h1 : kitB t "tuple" = some false) (h2 : kitB t "list" = some false) : PySem.W.kitAny K (.type t) [.type "tuple", .type "list"] = some false :=
  kitAny_cons (kit_ty h1) (fun _ => kitAny_cons (kit_ty h2) (fun _ => kitAny_nil) (fun z => nomatch z)) (fun z => nomatch z)
theorem seq_isT {K : PySem.W.Frag} {t : String} {a b : Bool} (h1 : kitB t "tuple" = some a) (h2 : kitB t "list" = some b) (e : (a || b) = true) : PySem.W.kitAny K (.type t) [.type "tuple", .type "list"] = some true :=
  kitAny_cons (kit_ty h1) (fun ha => kitAny_cons (kit_ty h2) (fun hb => by rw [ha, hb] at e; cases e) (fun _ => rfl)) (fun _ => rfl)
theorem rix_of {K : PySem.W.Frag} {H : Hp} {a : Addr} {xs : List V} {i : Nat} {v : V} {Q : VK} (h : H a = some (.lst xs) ∨ H a = some (.tup xs)) (hi : xs[i]? = some v) (q : Q v H) : rIx K (.ref a) (.int (0 + (i : Int))) H Q := by
  have e : atI xs (0 + (i : Int)) = some v := by rw [Int.zero_add]; exact atI_nat hi
  rcases h with h | h
  · exact .inl ⟨a, xs, _, v, rfl, rfl, SqL.of h, e, q⟩
  · exact .inr (.inl ⟨a, xs, _, v, rfl, rfl, SqT.of h, e, q⟩)
theorem valV_one {z : Str} {v : V} : valV [((Sum.inr z : Key), v)] (Sum.inr z) = some v := by
  simp [valV]
section
variable {P : Program} {w : World} {K : PySem.W.Frag} {mg : Str → Option Value} {base : Heap}
theorem scI : FnScope ["_law_told", "_law_due", "_law_k", "_law_key"] ["_law_told", "_law_due"] (defScope sIs) := ⟨rfl, rfl, rfl, by decide +kernel, rfl, by decide +kernel, by decide +kernel⟩
theorem ok_is {f : Addr} {fd : FuncData} (F : Fun K "_law_is" "_law_is" sIs f fd) (T : TxB mg) (T2 : TxC mg) (mI : mg "_law_is" = some (.ref f)) (b : Binds K fd ["_law_told", "_law_due"] []) : ∀ n : Nat, FnOk P w K mg base CX0 (n + 1) f fd ["_law_told", "_law_due"] (spIs K n)
  | 0 => by
    refine F.ok scI (fun vs H Q E h => ?_) (fun cdv A outer s H vs Q E hr h => ?_)
    · obtain ⟨u, v, _, h, _⟩ := h
      exact h.elim
    · obtain ⟨u, v, _, h, _⟩ := h
      exact h.elim
  | n + 1 => by
    have G : FnOk P w K mg base CX0 (n + 1) f fd ["_law_told", "_law_due"] (spIs K n) := ok_is F T T2 mI b n
    refine F.ok scI (fun vs H Q E h => ?_) (fun cdv A outer s H vs Q E hr h => ?_)
    · obtain ⟨u, v, rfl, _⟩ := h
      rfl
    · obtain ⟨u, v, rfl, hv, k⟩ := h
      have hu := hu_of hr
      have nd := scI.nd
      refine ⟨_, pss_cons (ps_if (pt_val (pe_callB call_isiT (by rfl) T.isinstance (by decide +kernel) (pa_cons (pv 1) (pa_cons (pe_tup (pa_cons (pe_bltn (v := .ty "tuple") (by rfl) T2.tuple (by decide +kernel) rfl) (pa_cons (pe_bltn (v := .ty "list") (by rfl) T2.list (by decide +kernel) rfl) pa_nil))) pa_nil))))
          (pss_cons (ps_if (PW.pt (pw_or (pt_cmpR op_ne (pe_callB call_isi (by rfl) T.isinstance (by decide +kernel) (pa_cons (pv 0) (pa_cons (pe_bltn (v := .ty "tuple") (by rfl) T2.tuple (by decide +kernel) rfl) pa_nil))) (pe_callB call_isi (by rfl) T.isinstance (by decide +kernel) (pa_cons (pv 1) (pa_cons (pe_bltn (v := .ty "tuple") (by rfl) T2.tuple (by decide +kernel) rfl) pa_nil))) (nomark _))
              (pw_or1 (pt_cmpR op_ne (pe_callB call_isi (by rfl) T.isinstance (by decide +kernel) (pa_cons (pv 0) (pa_cons (pe_bltn (v := .ty "list") (by rfl) T2.list (by decide +kernel) rfl) pa_nil))) (pe_callB call_isi (by rfl) T.isinstance (by decide +kernel) (pa_cons (pv 1) (pa_cons (pe_bltn (v := .ty "list") (by rfl) T2.list (by decide +kernel) rfl) pa_nil))) (nomark _)))))
            (pss_one (ps_ret pe_bl)) pss_nil)
          (pss_one (ps_ret (pe_and (pe_cmpR op_eq (pe_callB call_len (by rfl) T.len PySem.boot_len (pa_cons (pv 0) pa_nil)) (pe_callB call_len (by rfl) T.len PySem.boot_len (pa_cons (pv 1) pa_nil)) (nomark _))
            (pe_one (pe_callB (cr_all rfl) (by rfl) T.all (by decide +kernel) (pa_cons (pe_lc (own := [("_law_k", 2)]) (g := gName 2) (tt := tYes) rfl nd (pi_range1 (by rfl) T.range (pa_cons (pe_callB call_len (by rfl) T.len PySem.boot_len (pa_cons (pv 1) pa_nil)) pa_nil))
              (blkOk_by (N := ["_law_told", "_law_due", "_law_k", "_law_key"]) (sc := defScope sIs) (by decide +kernel)) (fun _ _ _ _ _ => pg_name (i := 2) nd rfl (Or.inl rfl)) (fun _ _ _ _ _ => pts_nil)
              (fun _ _ _ _ _ => pe_call G hr (by rfl) mI F.kp b .nil pass0 (pa_cons (pe_ix (ix_seq : IxR _ (rIx K)) (pv 0) (pv 2) (fun _ _ => rfl)) (pa_cons (pe_ix (ix_seq : IxR _ (rIx K)) (pv 1) (pv 2) (fun _ _ => rfl)) pa_nil)))) pa_nil)))))))
          pss_nil)
        (pss_cons (ps_if (pt_val (pe_callB call_isi (by rfl) T.isinstance (by decide +kernel) (pa_cons (pv 1) (pa_cons (pe_bltn (v := .ty "dict") (by rfl) T2.dict (by decide +kernel) rfl) pa_nil))))
          (pss_one (ps_ret (pe_and (pe_callB call_isi (by rfl) T.isinstance (by decide +kernel) (pa_cons (pv 0) (pa_cons (pe_bltn (v := .ty "dict") (by rfl) T2.dict (by decide +kernel) rfl) pa_nil)))
            (pe_and (pe_cmpR (op_eqV hr.units) (pv 0) (pv 1) (nomark _))
            (pe_one (pe_callB (cr_all rfl) (by rfl) T.all (by decide +kernel) (pa_cons (pe_lock (pe_lc (own := [("_law_key", 3)]) (g := gName 3) (tt := tYes) rfl nd (pi_keys (pv 1))
              (blkOk_by (N := ["_law_told", "_law_due", "_law_k", "_law_key"]) (sc := defScope sIs) (by decide +kernel)) (fun _ _ _ _ _ => pg_name (i := 3) nd rfl (Or.inl rfl)) (fun _ _ _ _ _ => pts_nil)
              (fun _ _ _ _ _ => pe_call G hr (by rfl) mI F.kp b .nil pass0 (pa_cons (pe_dget hu (pv 0) (pv 3) (fun _ _ => rfl)) (pa_cons (pe_dget hu (pv 1) (pv 3) (fun _ _ => rfl)) pa_nil))))) pa_nil)))))))
          pss_nil)
        (pss_one (ps_ret (pe_and (pe_cmpR op_eq (pe_callB call_isi (by rfl) T.isinstance (by decide +kernel) (pa_cons (pv 0) (pa_cons (pe_bltn (v := .ty "bool") (by rfl) T2.bool (by decide +kernel) rfl) pa_nil))) (pe_callB call_isi (by rfl) T.isinstance (by decide +kernel) (pa_cons (pv 1) (pa_cons (pe_bltn (v := .ty "bool") (by rfl) T2.bool (by decide +kernel) rfl) pa_nil))) (nomark _))
          (pe_one (pe_cmpR op_eq (pv 0) (pv 1) (nomark _))))))), ?_⟩
      have sm : ∀ {H' : Hp} {p : Addr} {o : HO}, H' p = none → Same H H' → Same H (upd H' p o) := fun hp s b u e => by rw [upd_ne (ne_of_none (s b u e) hp)]; exact s b u e
      have s0 : Same H H := fun _ _ e => e
      rcases hv with ⟨hv, rfl⟩ | ⟨a', a, xs, rfl, rfl, hq, hl, hx⟩ | ⟨h0, a, z, i, rfl, rfl, hd⟩
      · -- flat
        obtain ⟨t, ty, k1, k2, k3, kb, k4⟩ := fl_ty hv
        refine ⟨_, rfl, (by show 2 ≤ sizeLine; decide), fun tp htp => ?_⟩
        refine ⟨_, _, _, _, _, _, rfl, upd_same, .cons (.ty _) (.cons (.ty _) .nil), ty _ _, seq_isF k1 k2, _, rfl, ?_⟩
        refine iteF ?_
        refine ⟨_, rfl, _, _, _, _, _, rfl, .ty _, ty _ _, kit_ty k3, _, rfl, ?_⟩
        refine iteF ?_
        refine ⟨_, rfl, _, _, _, _, _, rfl, .ty _, ty _ _, kit_ty k4, _, rfl, _, _, _, _, _, rfl, .ty _, ty _ _, kit_ty k4, rfl, _, rfl, ?_⟩
        refine ite2 (fun _ => ?_) (fun h => absurd (decide_eq_true rfl) h)
        refine ⟨_, rfl, _, rfl, fl_scal hv, ?_⟩
        rw [decide_eq_true (rfl : u = u)]
        exact k _ (sm htp s0)
      · -- a list, a tuple
        obtain ⟨t, c1, c2, ty, ty', k1, k2, e⟩ : ∃ (t : String) (c1 c2 : Bool), (∀ H', Same H H' → TyX K H' (.ref a) (.type t)) ∧ (∀ H', Same H H' → TyX K H' (.ref a') (.type t)) ∧ kitB t "tuple" = some c1 ∧ kitB t "list" = some c2 ∧ (c1 || c2) = true := by
          rcases hq with hq | hq
          · exact ⟨"list", false, true, fun H' s => .base (.lst (s a _ hq.2)), fun H' s => .base (.lst (s a' _ hq.1)), by decide +kernel, by decide +kernel, rfl⟩
          · exact ⟨"tuple", true, false, fun H' s => .base (.tup (s a _ hq.2)), fun H' s => .base (.tup (s a' _ hq.1)), by decide +kernel, by decide +kernel, rfl⟩
        have hq' : ∀ H', Same H H' → (H' a = some (.lst xs) ∨ H' a = some (.tup xs)) := fun H' s => by
          rcases hq with hq | hq
          · exact .inl (s a _ hq.2)
          · exact .inr (s a _ hq.2)
        have hq2 : ∀ H', Same H H' → (H' a' = some (.lst xs) ∨ H' a' = some (.tup xs)) := fun H' s => by
          rcases hq with hq | hq
          · exact .inl (s a' _ hq.1)
          · exact .inr (s a' _ hq.1)
        have hlen' : ∀ H', Same H H' → LenV K (.ref a') H' xs.length := fun H' s => by
          rcases hq2 H' s with h | h
          · exact .inl ⟨xs, SqL.of h, rfl⟩
          · exact .inr ⟨xs, SqT.of h, rfl⟩
        have hlen : ∀ H', Same H H' → LenV K (.ref a) H' xs.length := fun H' s => by
          rcases hq' H' s with h | h
          · exact .inl ⟨xs, SqL.of h, rfl⟩
          · exact .inr ⟨xs, SqT.of h, rfl⟩
        refine ⟨_, rfl, (by show 2 ≤ sizeLine; decide), fun tp htp => ?_⟩
        have s1 : Same H (upd H tp (.tup [.ty "tuple", .ty "list"])) := sm htp s0
        refine ⟨_, _, _, _, _, _, rfl, upd_same, .cons (.ty _) (.cons (.ty _) .nil), ty _ s1, seq_isT k1 k2 e, _, rfl, ?_⟩
        refine iteT ?_
        refine ⟨_, rfl, _, _, _, _, _, rfl, .ty _, ty' _ s1, kit_ty k1, _, rfl, _, _, _, _, _, rfl, .ty _, ty _ s1, kit_ty k1, rfl, _, rfl, ?_⟩
        refine ite2 (fun h => absurd h (by simp)) (fun _ => ?_)
        refine ⟨_, rfl, _, _, _, _, _, rfl, .ty _, ty' _ s1, kit_ty k2, _, rfl, _, _, _, _, _, rfl, .ty _, ty _ s1, kit_ty k2, rfl, _, rfl, ?_⟩
        refine ite2 (fun h => absurd h (by simp)) (fun _ => ?_)
        refine ⟨_, rfl, _, _, rfl, hlen' _ s1, _, rfl, _, _, rfl, hlen _ s1, rfl, _, rfl, ?_⟩
        refine ite2 (fun _ => ?_) (fun h => absurd (decide_eq_true rfl) h)
        have hz : xs.length ≤ 1000 := hl
        refine ⟨_, rfl, _, _, rfl, hlen _ s1, _, rfl, by omega, by omega, fun D hD => ?_⟩
        refine lc_range (lo := 0) (n := (xs.length : Int).toNat) (fun i H' => Same H H' ∧ H' D = some (.lst (List.replicate i (V.bl true)))) ⟨sm hD s1, upd_same⟩ ?_ ?_
        · rintro i H' hi ⟨h1, h2⟩
          have hi' : i < xs.length := by omega
          have hxi : xs[i]? = some xs[i] := List.getElem?_eq_getElem hi'
          refine ⟨rfl, ?_⟩
          refine yes_kept ?_
          refine ⟨_, rfl, _, rfl, rix_of (hq2 _ h1) hxi ⟨_, rfl, _, rfl, rix_of (hq' _ h1) hxi ⟨xs[i], xs[i], rfl, ((hx _ (List.getElem_mem hi')).same h1).p, fun H2 s2 => ?_⟩⟩⟩
          refine ⟨_, s2 D _ h2, ?_, fun b o eb => ?_, ?_⟩
          · rw [List.length_replicate]; exact small1000 (by omega)
          · have nb : b ≠ D := ne_of_none (s1 b o eb) hD
            rw [upd_ne nb]; exact s2 b o (h1 b o eb)
          · rw [upd_same, List.replicate_succ']
        · rintro H' ⟨h1, h2⟩
          refine ⟨D, List.replicate (xs.length : Int).toNat true, rfl, ?_, ?_⟩
          · rw [List.map_replicate]; exact SqL.of h2
          · rw [show (List.replicate (xs.length : Int).toNat true).all id = true by rw [List.all_eq_true]; intro x hx; exact (List.mem_replicate.mp hx).2]
            exact k H' h1
      · -- a dict
        have ty : ∀ H', Same H H' → TyX K H' (.ref a) (.type "dict") := fun H' s => .base (.dK (s a _ hd))
        have k1 : kitB "dict" "tuple" = some false := by decide +kernel
        have k2 : kitB "dict" "list" = some false := by decide +kernel
        have k3 : kitB "dict" "dict" = some true := by decide +kernel
        refine ⟨_, rfl, (by show 2 ≤ sizeLine; decide), fun tp htp => ?_⟩
        have s1 : Same H (upd H tp (.tup [.ty "tuple", .ty "list"])) := sm htp s0
        refine ⟨_, _, _, _, _, _, rfl, upd_same, .cons (.ty _) (.cons (.ty _) .nil), ty _ s1, seq_isF k1 k2, _, rfl, ?_⟩
        refine iteF ?_
        refine ⟨_, rfl, _, _, _, _, _, rfl, .ty _, ty _ s1, kit_ty k3, _, rfl, ?_⟩
        refine iteT ?_
        refine ⟨_, rfl, _, _, _, _, _, rfl, .ty _, ty _ s1, kit_ty k3, _, rfl, ?_⟩
        refine iteT ?_
        refine ⟨_, rfl, _, rfl, 1, by decide, .inr ⟨a, a, _, _, rfl, rfl, s1 a _ hd, s1 a _ hd, rfl, fun p hp => ?_⟩, _, rfl, ?_⟩
        · rw [List.mem_singleton] at hp
          subst hp
          exact ⟨.int i, valV_one, .inl ⟨rfl, rfl⟩⟩
        refine iteT ?_
        refine ⟨a, _, s1 a _ hd, trivial, fun od => ?_⟩
        refine ⟨_, rfl, a, od, rfl, .inl ⟨_, upd_same, fun D hD => ?_⟩⟩
        have hDa : D ≠ a := fun z => by rw [z, upd_same] at hD; cases hD
        have hD1 : (upd H tp (.tup [.ty "tuple", .ty "list"])) D = none := by rw [upd_ne hDa] at hD; exact hD
        refine lc_it walk_keys (fun j H' => (∀ b o, b ≠ a → H b = some o → H' b = some o) ∧ H' a = some (.frz od (.dK [(Sum.inr z, .int i)])) ∧ H' D = some (.lst (List.replicate j (V.bl true)))) ?_ ?_ ?_ ?_
        · refine ⟨fun b o hb e => ?_, ?_, upd_same⟩
          · rw [upd_ne (ne_of_none (s1 b o e) hD1), upd_ne hb]; exact s1 b o e
          · rw [upd_ne hDa.symm, upd_same]
        · rintro i' H' _ ⟨_, h2, _⟩
          exact h2
        · rintro j x H' H'' hj ⟨h1, h2, h3⟩ ⟨rfl, kk, vv, hkv, rfl⟩
          have hj0 : j = 0 := by have : j < 1 := hj; omega
          subst hj0
          obtain ⟨rfl, rfl⟩ : kk = Sum.inr z ∧ vv = V.int i := by
            have := Option.some.inj hkv
            exact ⟨(congrArg Prod.fst this).symm, (congrArg Prod.snd this).symm⟩
          refine ⟨rfl, ?_⟩
          refine yes_kept ?_
          have hg : DGet H'' a (kV (Sum.inr z)) (some (.int i)) := .inl ⟨_, _, .inr ⟨od, h2⟩, rfl, valV_one.symm⟩
          refine ⟨_, rfl, _, rfl, a, _, rfl, hg, _, rfl, _, rfl, a, _, rfl, hg, .int i, .int i, rfl, ?_, fun H2 s2 => ?_⟩
          · obtain ⟨m, rfl⟩ : ∃ m, n = m + 1 := ⟨n - 1, by omega⟩
            exact .inl ⟨rfl, rfl⟩
          · refine ⟨_, s2 D _ h3, (by show 0 < sizeLine; decide), fun b o hb e => ?_, ?_, ?_⟩
            · have nb : b ≠ D := ne_of_none (s1 b o e) hD1
              rw [upd_ne nb]; exact s2 b o (h1 b o hb e)
            · rw [upd_ne hDa.symm]; exact s2 a _ h2
            · rw [upd_same]; rfl
        · rintro H' ⟨h1, h2, h3⟩
          refine ⟨h2, D, [true], rfl, SqL.of ?_, ?_⟩
          · rw [upd_ne hDa]; exact h3
          · refine k _ (fun b o e => ?_)
            by_cases hb : b = a
            · subst hb
              rw [hd] at e; cases e
              exact upd_same
            · rw [upd_ne hb]; exact h1 b o hb e
theorem scDp : FnScope ["_law_kind", "_law_found", "_law_turn"] ["_law_kind"] (defScope sDeep) := ⟨rfl, rfl, rfl, by decide +kernel, rfl, by decide +kernel, by decide +kernel⟩
/-- what of the later heap was not there before -/
def off (H H' : Hp) : Hp := fun b => match H b with
  | none => H' b
  | some _ => none
theorem off_new {H H' : Hp} {b : Addr} (h : H b = none) : off H H' b = H' b := by unfold off; rw [h]
theorem off_le {H H' : Hp} {b : Addr} {o : HO} (h : off H H' b = some o) : H b = none ∧ H' b = some o := by
  unfold off at h
  cases e : H b with
  | none => rw [e] at h; exact ⟨rfl, h⟩
  | some u => rw [e] at h; cases h
/-- a nest of tuples, all of them new -/
def spDeep (K : PySem.W.Frag) : Sp := fun vs H Q _ => vs = [.int 1] ∧ ∀ (v : V) (H' : Hp), Same H H' → TrV K (off H H') 37 v → Q v H'
theorem ok_deep {f : Addr} {fd : FuncData} (F : Fun K "_law_deep" "_law_deep" sDeep f fd) (T : TxB mg) : FnOk P w K mg base CX0 1 f fd ["_law_kind"] (spDeep K) := by
  refine F.ok scDp (fun vs H Q E h => ?_) (fun cdv A outer s H vs Q E hr h => ?_)
  · obtain ⟨rfl, _⟩ := h
    rfl
  · obtain ⟨rfl, k⟩ := h
    have nd := scDp.nd
    refine ⟨_, pss_cons (ps_set (i := 1) nd rfl (Or.inl rfl) pe_non)
      (pss_cons (ps_for PassesOwn.never rfl (pi_range1 (by rfl) T.range (pa_cons pe_int pa_nil)) (pg_name (i := 2) nd rfl (Or.inl rfl))
        (pss_one (ps_set (i := 1) nd rfl (Or.inl rfl) (pe_ifExp (pt_cmpR op_eq (pv 0) pe_int (nomark _)) (pe_lst (pa_cons (pv 1) pa_nil)) (pe_tup (pa_cons (pv 1) pa_nil))))))
      (pss_one (ps_ret (pv 1)))), ?_⟩
    refine ⟨36, rfl, by decide, by decide, for_range (lo := 0) (n := 36) (fun i σ H' => ∃ (v : V) (t : Option V), σ = [some (.int 1), some v, t] ∧ Same H H' ∧ TrV K (off H H') (i + 1) v) ⟨.non, none, rfl, fun _ _ e => e, .inl rfl⟩ ?_ ?_⟩
    · rintro i σ H' hi ⟨v, t, rfl, h1, h2⟩
      refine ⟨_, rfl, rfl, _, rfl, ?_⟩
      refine ite2 (fun h => absurd h (by decide)) (fun _ => ?_)
      refine ⟨_, rfl, (by show 1 ≤ sizeLine; decide), fun p hp => ?_⟩
      have s2 : Same H' (upd H' p (.tup [v])) := fun b o e => by rw [upd_ne (ne_of_none e hp)]; exact e
      have hp0 : H p = none := by
        cases e : H p with
        | none => rfl
        | some o => have := h1 p o e; rw [hp] at this; cases this
      have s3 : Same (off H H') (off H (upd H' p (.tup [v]))) := fun b o e => by
        obtain ⟨e1, e2⟩ := off_le e
        rw [off_new e1]; exact s2 b o e2
      refine ⟨_, _, rfl, fun b o e => s2 b o (h1 b o e), .inr (.inl ⟨p, [v], rfl, .inr (by rw [off_new hp0]; exact upd_same), (by show 1 ≤ 1000; decide), fun x hx => ?_⟩)⟩
      rw [List.mem_singleton] at hx
      subst hx
      exact h2.same s3
    · rintro σ H' ⟨v, t, rfl, h1, h2⟩
      exact ⟨_, rfl, k v H' h1 h2⟩
end
end K00

set_option Elab.async false
set_option linter.all false
set_option maxRecDepth 100000
set_option maxHeartbeats 2000000
/-! Errors with fields that are held as values: made, asked by isinstance, read. -/
namespace L2
open PySem PySem.Spec PyProof.Rows
/-- an error object that is held, of the class cls, its dict at d -/
def errO (a : Addr) (cls : Value) (d : Option Addr) : HO := .ext fun h => ∃ (oe : Obj) (fv : Array Value), h.get? a = some oe ∧ Zc cls d oe ∧ oe.data = .fields fv
theorem errO_ok {P : Program} {w : World} {G : Hp} {h : Heap} {a : Addr} {cls : Value} {d : Option Addr} {oe : Obj} {fv : Array Value} (at_ : h.get? a = some oe) (z : Zc cls d oe) (f : oe.data = .fields fv) : ObjOk P w G h a (errO a cls d) :=
  ⟨⟨oe, fv, at_, z, f⟩, ⟨oe, at_⟩, fun _ _ ⟨o, v, q, r⟩ up => ⟨o, v, up o q, r⟩⟩
theorem errO_at {P : Program} {w : World} {G : Hp} {h : Heap} {a : Addr} {cls : Value} {d : Option Addr} (ok : HOk P w G h) (e : G a = some (errO a cls d)) : ∃ (oe : Obj) (fv : Array Value), h.get? a = some oe ∧ Zc cls d oe ∧ oe.data = .fields fv := (ok a _ e).1
/-- what the written part says of an own error class -/
structure ErrC (K : PySem.W.Frag) (D : Addr) : Prop where
  ox : OexC K D
  xf : XfC K D
  cA : PySem.W.findIn K (.ref D) "__class__" = some (some (.builtin "object.__class__"))
  cG : PySem.W.specialIn K (.builtin "object.__class__") "__get__" = some (some (.builtin "getset_descriptor.__get__")) ∧ PySem.W.takesIn K (.builtin "object.__class__") = some true
  cM : PySem.W.mroIn K D (.type "object") = some true
/-- an error of the class at D that is held -/
def ErrAt (G : Hp) (a D : Addr) : Prop := G a = some (errO a (.ref D) none) ∨ ∃ (dx : Addr) (fs : List (Str × V)), G a = some (errO a (.ref D) (some dx)) ∧ G dx = some (.xd fs)
/-- what makes an error makes a value -/
theorem pe_held {X : Cx} {e : Expr} {t : St → Hp → XK → Prop} (m : PMk X e t) : PE X e (fun σ H Q => t σ H fun cls d G => ∀ a G', G a = none → G' = upd G a (errO a cls d) → Q (.ref a) G') := by
  refine ⟨fun pins s σ H Q I q => wpAny_mono (m pins s σ H _ I q) (fun u s' r => ?_) fun _ _ z => z⟩
  obtain ⟨a, oe, fv, sI, G, cls, d, rfl, J, up, gone, here, z, f, _, free, os, bare, _, k⟩ := r
  exact ⟨.ref a, upd G a (errO a cls d), J.call' (ch := []) os (Un.laidN up gone free) (J.hok.laidN up free (errO_ok here z f)) bare (fun b h => nomatch h), rfl, k a _ free rfl⟩
section
variable {X : Cx} {p pos : Pos} {x : Str} {C fI : Addr} {fd : FuncData} {n : Nat} {ps : List Str} {sp : Sp}
/-- C(), C's own __init__ without arguments, as a value -/
def tHeld0 (C : Addr) (sp : Sp) : TE := fun _ H Q => ∀ a, H a = none → sp [.ref a] (upd H a (errO a (.ref C) none)) (fun v G => v = .non ∧ Q (.ref a) G) (fun _ _ _ => False)
theorem pe_held0 {CX : CXT} (T : OexC X.K C) (iC : PySem.W.findIn X.K (.ref C) "__init__" = some (some (.ref fI))) (tI : PySem.W.typeIn X.K (.ref fI) = some (.type "function")) (ini : FnOk X.prog X.w X.K X.mg X.base CX n fI fd ps sp) (room : Room (n + 1) X.A)
    (bd : Binds X.K fd ps []) (out : Passes CX X (fun _ _ _ => False)) (gx : Gl X x) (mx : X.mg x = some (.ref C)) (nd : (x == ("__debug__" : Str)) = false := by decide) : PE X (.Call (.Name x p) [] [] pos) (tHeld0 C sp) := by
  refine ⟨fun pins s σ H Q I k => wpAny_Call_Name_kw (ld_glob I gx mx (PySem.W.callWith_K0 I.kIn T.kC ?_) nd)⟩
  rcases s with ⟨h0, gs, dr, tk, os⟩
  rcases T.cls with ⟨_, _, _, _, tail, _, _, _, _, _, _, _, _, _, _, look, chain⟩
  show wpAny _ _ (call (.ref C) []) _ _ _
  refine wpAny_call (PySem.HandSPX.call_own F.excBase_ValueError (fun B => PySem.HandSPX.refsVE_contains B tail chain) (I.kIn C _ look) (PySem.W.looks_findIn I.kIn iC) (fun v => PySem.W.bind_fn I.kIn v tI) (Nat.zero_le _) ?_)
  have le1 : h0.objs.size ≤ h0.objs.size + 1 := Nat.le_succ h0.objs.size
  have here : ((h0.push (PySem.W.kdv_tup [])).push (PySem.HandSPX.excO C h0.objs.size)).get? (h0.objs.size + 1) = some (PySem.HandSPX.excO C h0.objs.size) := by heap_get
  have J := I.laid (t' := tk) (h' := (h0.push (PySem.W.kdv_tup [])).push (PySem.HandSPX.excO C h0.objs.size)) (fun b o q => Heap.get?_push_of_some _ (Heap.get?_push_of_some _ q)) le1 (errO_ok (cls := .ref C) (d := none) here ⟨rfl, rfl⟩ rfl)
  have want := k _ (I.hok.fresh le1)
  have one : ([.ref (h0.objs.size + 1)] : List Value).length = ps.length := (ini.len _ _ _ _ want)
  refine codeAny_mono (ini.run _ X.stack _ _ _ [.ref (h0.objs.size + 1)] [.ref (h0.objs.size + 1)] _ _ (room.make C [] []) (J.env0.make C [] []) ?_ (.cons rfl .nil) want) fun r s' back => ?_
  · have q := bd _ [.ref (h0.objs.size + 1)] J.kIn (by simpa using one)
    simpa using q
  · match r, back with
    | .error er, back => exact out pins σ _ _ er s' J back
    | .ok (.ret u), back =>
      obtain ⟨v, G, J', rv, ev, q⟩ := J.after back
      subst ev
      exact ⟨rv, .ref (h0.objs.size + 1), G, J', rfl, q⟩
    | .ok .next, back => exact back.elim
    | .ok .brk, back => exact back.elim
    | .ok .cont, back => exact back.elim
end
/-- where an error that is held stands -/
theorem ErrAt.inst {X : Cx} {pins : List (Addr × Obj)} {σ : St} {G : Hp} {s : Shared} {a D : Addr} (I : Inv X pins σ G s) (e : ErrAt G a D) : ∃ ox od, PySem.W.InstAt s.heap a ox D od := by
  rcases e with e | ⟨dx, fs, e, ed⟩
  · obtain ⟨oe, fv, here, z, f⟩ := errO_at I.hok e
    exact ⟨oe, none, here, z.1, by unfold PySem.W.notCls; rw [f] <;> rfl, by rw [z.2]; trivial⟩
  · obtain ⟨oe, fv, here, z, f⟩ := errO_at I.hok e
    obtain ⟨mA, ns, _⟩ := (show ObjOk X.prog X.w G s.heap dx (.xd fs) from I.hok dx _ ed)
    obtain ⟨od, hod, _⟩ := lookIn_ns ns
    exact ⟨oe, some od, here, z.1, by unfold PySem.W.notCls; rw [f] <;> rfl, by rw [z.2]; exact hod⟩
theorem ErrC.kit {K : PySem.W.Frag} {D : Addr} (T : ErrC K D) {a : Addr} {ox : Obj} {od : Option Obj} : PySem.W.KitX K (.ref a) (.ref D) (fun h => PySem.W.InstAt h a ox D od) := by
  have some_ : (PySem.W.clsIn K D).isSome = true := by
    rcases T.ox.cls with ⟨_, _, _, _, _, _, _, _, _, _, _, _, _, _, _, look, _⟩
    unfold PySem.W.clsIn
    rw [look] <;> rfl
  exact PySem.W.kitx_exc some_ T.xf.ga T.xf.gg T.xf.exC T.cA T.cG.1 T.cG.2 T.cM
/-- isinstance(e, c), e an error that is held -/
def rIsX (K : PySem.W.Frag) : List V → Hp → VK → Prop := fun vs G Q => ∃ (a D : Addr) (c : V) (cv : Value) (b : Bool), vs = [.ref a, c] ∧ ErrAt G a D ∧ ClsV c cv ∧ ErrC K D ∧ PySem.W.kitOne K (.ref D) cv = some b ∧ Q (.bl b) G
theorem call_isX {X : Cx} : CallR X (.builtin "isinstance") (rIsX X.K) := by
  rintro pins s σ G _ us Q I r ⟨a, D, c, cv, b, rfl, e, k, T, ans, q⟩
  rcases vals2 r with ⟨v, v', rfl, rfl, rc⟩
  obtain rfl := k.eq rc
  obtain ⟨ox, od, J⟩ := e.inst I
  exact PySem.W.kia_one (T.kit (ox := ox) (od := od)) I.kIn J ans (fun z => nomatch z) fun tk => ⟨.bl b, G, I.tok tk, rfl, q⟩
/-- e.f, e an error that is held -/
def tExF (K : PySem.W.Frag) (f : Str) (te : TE) : TE := fun σ H Q => te σ H fun x G => ∃ (a D dx : Addr) (fs : List (Str × V)) (v : V), x = .ref a ∧ ErrC K D ∧ PySem.W.findIn K (.ref D) f = some none ∧ G a = some (errO a (.ref D) (some dx)) ∧ G dx = some (.xd fs) ∧ fs.lookup f = some v ∧ Q v G
theorem pe_exF {X : Cx} {e : Expr} {te : TE} {pos : Pos} {f : Str} (he : PE X e te) (base : attributeBase e f X.env (eval e X.env) = eval e X.env := by rfl) : PE X (.Attribute e f pos) (tExF X.K f te) := by
  refine ⟨fun pins s σ H Q I q => attr_of base (thn (he.run pins s σ H _ I q) fun u s' r => ?_)⟩
  obtain ⟨_, G, J, rel0, a, D, dx, fs, v, rfl, T, none_, e1, e2, l, k⟩ := r
  obtain rfl : u = Value.ref a := rel0
  obtain ⟨oe, fv, here, z, df⟩ := errO_at J.hok e1
  obtain ⟨mA, ns, rel⟩ := (show ObjOk X.prog X.w G s'.heap dx (.xd fs) from J.hok dx _ e2)
  obtain ⟨od, hod, at_⟩ := lookIn_ns ns
  have rf := rel f
  rw [l] at rf
  obtain ⟨val, hv, rv⟩ := RelO.some_of rf
  have inst : PySem.W.InstAt s'.heap a oe D (some od) := ⟨here, z.1, by unfold PySem.W.notCls; rw [df] <;> rfl, by rw [z.2]; exact hod⟩
  exact HandSPX.exc_get J.kIn inst T.xf.ga T.xf.gg T.xf.exC (PySem.W.findObj_own T.xf.hdC none_ rfl (by rw [at_, hv])) (handed_of rv) ⟨v, G, J.tok _, rv, k⟩
/-- isinstance(e, c), e the error that the suite holds, with a dict -/
def rIsES (K : PySem.W.Frag) (cls : Value) (d : Option Addr) (a : Addr) : List V → Hp → VK → Prop := fun vs G Q => ∃ (D dd : Addr) (fs : List (Str × V)) (c : V) (cv : Value) (b : Bool), vs = [.ref a, c] ∧ cls = .ref D ∧ d = some dd ∧ G dd = some (.xd fs) ∧ ClsV c cv ∧ ErrC K D ∧ PySem.W.kitOne K (.ref D) cv = some b ∧ Q (.bl b) G
theorem call_isES {X : Cx} {a : Addr} {cls : Value} {d : Option Addr} {oe : Obj} {pn : List (Addr × Obj)} (z : Zc cls d oe) (df : ∃ fv, oe.data = .fields fv) : CallR (X.suite a ((a, oe) :: pn)) (.builtin "isinstance") (rIsES X.K cls d a) := by
  rintro pins s σ G _ us Q I r ⟨D, dd, fs, c, cv, b, rfl, rfl, rfl, ed, k, T, ans, q⟩
  rcases vals2 r with ⟨v, v', rfl, rfl, rc⟩
  obtain rfl := k.eq rc
  have pin := (I.pin (a, oe) (List.mem_append_left _ List.mem_cons_self)).1
  obtain ⟨fv, f⟩ := df
  obtain ⟨mA, ns, _⟩ := (show ObjOk X.prog X.w G s.heap dd (.xd fs) from I.hok dd _ ed)
  obtain ⟨od, hod, _⟩ := lookIn_ns ns
  have inst : PySem.W.InstAt s.heap a oe D (some od) := ⟨pin, z.1, by unfold PySem.W.notCls; rw [f] <;> rfl, by rw [z.2]; exact hod⟩
  exact PySem.W.kia_one (T.kit (ox := oe) (od := some od)) I.kIn inst ans (fun z => nomatch z) fun tk => ⟨.bl b, G, I.tok tk, rfl, q⟩
end L2

set_option Elab.async false
set_option linter.all false
set_option maxRecDepth 100000
namespace K00
open PySem L2
abbrev sClasses : Stmt := top 47
abbrev sField : Stmt := top 48
abbrev sRaised : Stmt := top 49
abbrev sRight : Stmt := top 50

abbrev sI0 : Stmt := inClass (top 3) 0
abbrev sI1 : Stmt := inClass (top 4) 0
abbrev sI2 : Stmt := inClass (top 5) 0
abbrev sI3 : Stmt := inClass (top 6) 0
abbrev sI4 : Stmt := inClass (top 7) 0
abbrev sI5 : Stmt := inClass (top 8) 0
abbrev sI6 : Stmt := inClass (top 9) 0
abbrev sI7 : Stmt := inClass (top 10) 0
abbrev sI8 : Stmt := inClass (top 11) 0
abbrev sI9 : Stmt := inClass (top 12) 0
abbrev sI10 : Stmt := inClass (top 13) 0
abbrev sI11 : Stmt := inClass (top 14) 0
abbrev sI12 : Stmt := inClass (top 15) 0
abbrev sI13 : Stmt := inClass (top 16) 0
abbrev sI14 : Stmt := inClass (top 17) 0
abbrev sI15 : Stmt := inClass (top 18) 0
abbrev sI16 : Stmt := inClass (top 19) 0
abbrev sI17 : Stmt := inClass (top 20) 0
abbrev sI18 : Stmt := inClass (top 21) 0
abbrev sI19 : Stmt := inClass (top 22) 0
abbrev sI20 : Stmt := inClass (top 23) 0
abbrev sI21 : Stmt := inClass (top 24) 0
abbrev sI22 : Stmt := inClass (top 25) 0
abbrev sI23 : Stmt := inClass (top 26) 0
abbrev sI24 : Stmt := inClass (top 27) 0
abbrev sI25 : Stmt := inClass (top 28) 0

def fld (n : Nat) : Str := if n < 3 then "part" else if n = 3 then "index" else if n = 4 then "fault" else if n = 5 then "most" else "name"
/-- the making of an error with a field, and without -/
def spInit1 (K : PySem.W.Frag) (C : Addr) (f : Str) : Sp := fun vs H Q _ => ∃ (a : Addr) (y : V), vs = [.ref a, y] ∧ OexC K C ∧ PySem.W.findIn K (.ref C) f = some none ∧ H a = some (exo a C none) ∧ ∀ dx, H dx = none → dx ≠ a → Q .non (upd (upd H dx (exd dx [(f, y)])) a (exo a C (some dx)))
def spInit0 : Sp := fun vs H Q _ => ∃ a : Addr, vs = [.ref a] ∧ Q .non H
section
variable {P : Program} {w : World} {K : PySem.W.Frag} {mg : Str → Option Value} {base : Heap}
theorem scE0 : FnScope ["self", "part"] ["self", "part"] (defScope sI0) := ⟨rfl, rfl, rfl, by decide +kernel, rfl, by decide +kernel, by decide +kernel⟩
theorem ok_e0 {f C : Addr} {fd : FuncData} (F : Fun K "__init__" "BadLot.__init__" sI0 f fd) : FnOk P w K mg base CX0 1 f fd ["self", "part"] (spInit1 K C "part") := by
  refine F.ok scE0 (fun vs H Q E h => ?_) (fun cdv A outer s H vs Q E hr h => ?_)
  · obtain ⟨a, y, rfl, _⟩ := h
    rfl
  · obtain ⟨a, y, rfl, T, hno, ha, k⟩ := h
    refine ⟨_, pss_one (ps_ost (pv 0) (pv 1)), ?_⟩
    exact ⟨_, rfl, _, rfl, a, C, rfl, T, hno, .inl ⟨ha, k⟩⟩
theorem scE1 : FnScope ["self", "part"] ["self", "part"] (defScope sI1) := ⟨rfl, rfl, rfl, by decide +kernel, rfl, by decide +kernel, by decide +kernel⟩
theorem ok_e1 {f C : Addr} {fd : FuncData} (F : Fun K "__init__" "BadBook.__init__" sI1 f fd) : FnOk P w K mg base CX0 1 f fd ["self", "part"] (spInit1 K C "part") := by
  refine F.ok scE1 (fun vs H Q E h => ?_) (fun cdv A outer s H vs Q E hr h => ?_)
  · obtain ⟨a, y, rfl, _⟩ := h
    rfl
  · obtain ⟨a, y, rfl, T, hno, ha, k⟩ := h
    refine ⟨_, pss_one (ps_ost (pv 0) (pv 1)), ?_⟩
    exact ⟨_, rfl, _, rfl, a, C, rfl, T, hno, .inl ⟨ha, k⟩⟩
theorem scE2 : FnScope ["self", "part"] ["self", "part"] (defScope sI2) := ⟨rfl, rfl, rfl, by decide +kernel, rfl, by decide +kernel, by decide +kernel⟩
theorem ok_e2 {f C : Addr} {fd : FuncData} (F : Fun K "__init__" "BadHouse.__init__" sI2 f fd) : FnOk P w K mg base CX0 1 f fd ["self", "part"] (spInit1 K C "part") := by
  refine F.ok scE2 (fun vs H Q E h => ?_) (fun cdv A outer s H vs Q E hr h => ?_)
  · obtain ⟨a, y, rfl, _⟩ := h
    rfl
  · obtain ⟨a, y, rfl, T, hno, ha, k⟩ := h
    refine ⟨_, pss_one (ps_ost (pv 0) (pv 1)), ?_⟩
    exact ⟨_, rfl, _, rfl, a, C, rfl, T, hno, .inl ⟨ha, k⟩⟩
theorem scE3 : FnScope ["self", "index"] ["self", "index"] (defScope sI3) := ⟨rfl, rfl, rfl, by decide +kernel, rfl, by decide +kernel, by decide +kernel⟩
theorem ok_e3 {f C : Addr} {fd : FuncData} (F : Fun K "__init__" "BadText.__init__" sI3 f fd) : FnOk P w K mg base CX0 1 f fd ["self", "index"] (spInit1 K C "index") := by
  refine F.ok scE3 (fun vs H Q E h => ?_) (fun cdv A outer s H vs Q E hr h => ?_)
  · obtain ⟨a, y, rfl, _⟩ := h
    rfl
  · obtain ⟨a, y, rfl, T, hno, ha, k⟩ := h
    refine ⟨_, pss_one (ps_ost (pv 0) (pv 1)), ?_⟩
    exact ⟨_, rfl, _, rfl, a, C, rfl, T, hno, .inl ⟨ha, k⟩⟩
theorem scE4 : FnScope ["self", "fault"] ["self", "fault"] (defScope sI4) := ⟨rfl, rfl, rfl, by decide +kernel, rfl, by decide +kernel, by decide +kernel⟩
theorem ok_e4 {f C : Addr} {fd : FuncData} (F : Fun K "__init__" "Faulty.__init__" sI4 f fd) : FnOk P w K mg base CX0 1 f fd ["self", "fault"] (spInit1 K C "fault") := by
  refine F.ok scE4 (fun vs H Q E h => ?_) (fun cdv A outer s H vs Q E hr h => ?_)
  · obtain ⟨a, y, rfl, _⟩ := h
    rfl
  · obtain ⟨a, y, rfl, T, hno, ha, k⟩ := h
    refine ⟨_, pss_one (ps_ost (pv 0) (pv 1)), ?_⟩
    exact ⟨_, rfl, _, rfl, a, C, rfl, T, hno, .inl ⟨ha, k⟩⟩
theorem scE5 : FnScope ["self", "most"] ["self", "most"] (defScope sI5) := ⟨rfl, rfl, rfl, by decide +kernel, rfl, by decide +kernel, by decide +kernel⟩
theorem ok_e5 {f C : Addr} {fd : FuncData} (F : Fun K "__init__" "TooMany.__init__" sI5 f fd) : FnOk P w K mg base CX0 1 f fd ["self", "most"] (spInit1 K C "most") := by
  refine F.ok scE5 (fun vs H Q E h => ?_) (fun cdv A outer s H vs Q E hr h => ?_)
  · obtain ⟨a, y, rfl, _⟩ := h
    rfl
  · obtain ⟨a, y, rfl, T, hno, ha, k⟩ := h
    refine ⟨_, pss_one (ps_ost (pv 0) (pv 1)), ?_⟩
    exact ⟨_, rfl, _, rfl, a, C, rfl, T, hno, .inl ⟨ha, k⟩⟩
theorem scE6 : FnScope ["self", "name"] ["self", "name"] (defScope sI6) := ⟨rfl, rfl, rfl, by decide +kernel, rfl, by decide +kernel, by decide +kernel⟩
theorem ok_e6 {f C : Addr} {fd : FuncData} (F : Fun K "__init__" "Unknown.__init__" sI6 f fd) : FnOk P w K mg base CX0 1 f fd ["self", "name"] (spInit1 K C "name") := by
  refine F.ok scE6 (fun vs H Q E h => ?_) (fun cdv A outer s H vs Q E hr h => ?_)
  · obtain ⟨a, y, rfl, _⟩ := h
    rfl
  · obtain ⟨a, y, rfl, T, hno, ha, k⟩ := h
    refine ⟨_, pss_one (ps_ost (pv 0) (pv 1)), ?_⟩
    exact ⟨_, rfl, _, rfl, a, C, rfl, T, hno, .inl ⟨ha, k⟩⟩
theorem scE7 : FnScope ["self"] ["self"] (defScope sI7) := ⟨rfl, rfl, rfl, by decide +kernel, rfl, by decide +kernel, by decide +kernel⟩
theorem ok_e7 {f : Addr} {fd : FuncData} (F : Fun K "__init__" "NoNumber.__init__" sI7 f fd) : FnOk P w K mg base CX0 1 f fd ["self"] spInit0 := by
  refine F.ok scE7 (fun vs H Q E h => ?_) (fun cdv A outer s H vs Q E hr h => ?_)
  · obtain ⟨a, rfl, _⟩ := h
    rfl
  · obtain ⟨a, rfl, k⟩ := h
    refine ⟨_, pss_one ps_pass, ?_⟩
    exact k
theorem scE8 : FnScope ["self"] ["self"] (defScope sI8) := ⟨rfl, rfl, rfl, by decide +kernel, rfl, by decide +kernel, by decide +kernel⟩
theorem ok_e8 {f : Addr} {fd : FuncData} (F : Fun K "__init__" "NoKind.__init__" sI8 f fd) : FnOk P w K mg base CX0 1 f fd ["self"] spInit0 := by
  refine F.ok scE8 (fun vs H Q E h => ?_) (fun cdv A outer s H vs Q E hr h => ?_)
  · obtain ⟨a, rfl, _⟩ := h
    rfl
  · obtain ⟨a, rfl, k⟩ := h
    refine ⟨_, pss_one ps_pass, ?_⟩
    exact k
theorem scE9 : FnScope ["self"] ["self"] (defScope sI9) := ⟨rfl, rfl, rfl, by decide +kernel, rfl, by decide +kernel, by decide +kernel⟩
theorem ok_e9 {f : Addr} {fd : FuncData} (F : Fun K "__init__" "NoProgram.__init__" sI9 f fd) : FnOk P w K mg base CX0 1 f fd ["self"] spInit0 := by
  refine F.ok scE9 (fun vs H Q E h => ?_) (fun cdv A outer s H vs Q E hr h => ?_)
  · obtain ⟨a, rfl, _⟩ := h
    rfl
  · obtain ⟨a, rfl, k⟩ := h
    refine ⟨_, pss_one ps_pass, ?_⟩
    exact k
theorem scE10 : FnScope ["self"] ["self"] (defScope sI10) := ⟨rfl, rfl, rfl, by decide +kernel, rfl, by decide +kernel, by decide +kernel⟩
theorem ok_e10 {f : Addr} {fd : FuncData} (F : Fun K "__init__" "NoPlace.__init__" sI10 f fd) : FnOk P w K mg base CX0 1 f fd ["self"] spInit0 := by
  refine F.ok scE10 (fun vs H Q E h => ?_) (fun cdv A outer s H vs Q E hr h => ?_)
  · obtain ⟨a, rfl, _⟩ := h
    rfl
  · obtain ⟨a, rfl, k⟩ := h
    refine ⟨_, pss_one ps_pass, ?_⟩
    exact k
theorem scE11 : FnScope ["self"] ["self"] (defScope sI11) := ⟨rfl, rfl, rfl, by decide +kernel, rfl, by decide +kernel, by decide +kernel⟩
theorem ok_e11 {f : Addr} {fd : FuncData} (F : Fun K "__init__" "NoHanded.__init__" sI11 f fd) : FnOk P w K mg base CX0 1 f fd ["self"] spInit0 := by
  refine F.ok scE11 (fun vs H Q E h => ?_) (fun cdv A outer s H vs Q E hr h => ?_)
  · obtain ⟨a, rfl, _⟩ := h
    rfl
  · obtain ⟨a, rfl, k⟩ := h
    refine ⟨_, pss_one ps_pass, ?_⟩
    exact k
theorem scE12 : FnScope ["self"] ["self"] (defScope sI12) := ⟨rfl, rfl, rfl, by decide +kernel, rfl, by decide +kernel, by decide +kernel⟩
theorem ok_e12 {f : Addr} {fd : FuncData} (F : Fun K "__init__" "NoStep.__init__" sI12 f fd) : FnOk P w K mg base CX0 1 f fd ["self"] spInit0 := by
  refine F.ok scE12 (fun vs H Q E h => ?_) (fun cdv A outer s H vs Q E hr h => ?_)
  · obtain ⟨a, rfl, _⟩ := h
    rfl
  · obtain ⟨a, rfl, k⟩ := h
    refine ⟨_, pss_one ps_pass, ?_⟩
    exact k
theorem scE13 : FnScope ["self"] ["self"] (defScope sI13) := ⟨rfl, rfl, rfl, by decide +kernel, rfl, by decide +kernel, by decide +kernel⟩
theorem ok_e13 {f : Addr} {fd : FuncData} (F : Fun K "__init__" "NotFlat.__init__" sI13 f fd) : FnOk P w K mg base CX0 1 f fd ["self"] spInit0 := by
  refine F.ok scE13 (fun vs H Q E h => ?_) (fun cdv A outer s H vs Q E hr h => ?_)
  · obtain ⟨a, rfl, _⟩ := h
    rfl
  · obtain ⟨a, rfl, k⟩ := h
    refine ⟨_, pss_one ps_pass, ?_⟩
    exact k
theorem scE14 : FnScope ["self"] ["self"] (defScope sI14) := ⟨rfl, rfl, rfl, by decide +kernel, rfl, by decide +kernel, by decide +kernel⟩
theorem ok_e14 {f : Addr} {fd : FuncData} (F : Fun K "__init__" "NoFunctions.__init__" sI14 f fd) : FnOk P w K mg base CX0 1 f fd ["self"] spInit0 := by
  refine F.ok scE14 (fun vs H Q E h => ?_) (fun cdv A outer s H vs Q E hr h => ?_)
  · obtain ⟨a, rfl, _⟩ := h
    rfl
  · obtain ⟨a, rfl, k⟩ := h
    refine ⟨_, pss_one ps_pass, ?_⟩
    exact k
theorem scE15 : FnScope ["self"] ["self"] (defScope sI15) := ⟨rfl, rfl, rfl, by decide +kernel, rfl, by decide +kernel, by decide +kernel⟩
theorem ok_e15 {f : Addr} {fd : FuncData} (F : Fun K "__init__" "IsOver.__init__" sI15 f fd) : FnOk P w K mg base CX0 1 f fd ["self"] spInit0 := by
  refine F.ok scE15 (fun vs H Q E h => ?_) (fun cdv A outer s H vs Q E hr h => ?_)
  · obtain ⟨a, rfl, _⟩ := h
    rfl
  · obtain ⟨a, rfl, k⟩ := h
    refine ⟨_, pss_one ps_pass, ?_⟩
    exact k
theorem scE16 : FnScope ["self"] ["self"] (defScope sI16) := ⟨rfl, rfl, rfl, by decide +kernel, rfl, by decide +kernel, by decide +kernel⟩
theorem ok_e16 {f : Addr} {fd : FuncData} (F : Fun K "__init__" "NothingDone.__init__" sI16 f fd) : FnOk P w K mg base CX0 1 f fd ["self"] spInit0 := by
  refine F.ok scE16 (fun vs H Q E h => ?_) (fun cdv A outer s H vs Q E hr h => ?_)
  · obtain ⟨a, rfl, _⟩ := h
    rfl
  · obtain ⟨a, rfl, k⟩ := h
    refine ⟨_, pss_one ps_pass, ?_⟩
    exact k
theorem scE17 : FnScope ["self"] ["self"] (defScope sI17) := ⟨rfl, rfl, rfl, by decide +kernel, rfl, by decide +kernel, by decide +kernel⟩
theorem ok_e17 {f : Addr} {fd : FuncData} (F : Fun K "__init__" "NotLet.__init__" sI17 f fd) : FnOk P w K mg base CX0 1 f fd ["self"] spInit0 := by
  refine F.ok scE17 (fun vs H Q E h => ?_) (fun cdv A outer s H vs Q E hr h => ?_)
  · obtain ⟨a, rfl, _⟩ := h
    rfl
  · obtain ⟨a, rfl, k⟩ := h
    refine ⟨_, pss_one ps_pass, ?_⟩
    exact k
theorem scE18 : FnScope ["self"] ["self"] (defScope sI18) := ⟨rfl, rfl, rfl, by decide +kernel, rfl, by decide +kernel, by decide +kernel⟩
theorem ok_e18 {f : Addr} {fd : FuncData} (F : Fun K "__init__" "NoBag.__init__" sI18 f fd) : FnOk P w K mg base CX0 1 f fd ["self"] spInit0 := by
  refine F.ok scE18 (fun vs H Q E h => ?_) (fun cdv A outer s H vs Q E hr h => ?_)
  · obtain ⟨a, rfl, _⟩ := h
    rfl
  · obtain ⟨a, rfl, k⟩ := h
    refine ⟨_, pss_one ps_pass, ?_⟩
    exact k
theorem scE19 : FnScope ["self"] ["self"] (defScope sI19) := ⟨rfl, rfl, rfl, by decide +kernel, rfl, by decide +kernel, by decide +kernel⟩
theorem ok_e19 {f : Addr} {fd : FuncData} (F : Fun K "__init__" "NoPart.__init__" sI19 f fd) : FnOk P w K mg base CX0 1 f fd ["self"] spInit0 := by
  refine F.ok scE19 (fun vs H Q E h => ?_) (fun cdv A outer s H vs Q E hr h => ?_)
  · obtain ⟨a, rfl, _⟩ := h
    rfl
  · obtain ⟨a, rfl, k⟩ := h
    refine ⟨_, pss_one ps_pass, ?_⟩
    exact k
theorem scE20 : FnScope ["self"] ["self"] (defScope sI20) := ⟨rfl, rfl, rfl, by decide +kernel, rfl, by decide +kernel, by decide +kernel⟩
theorem ok_e20 {f : Addr} {fd : FuncData} (F : Fun K "__init__" "NoName.__init__" sI20 f fd) : FnOk P w K mg base CX0 1 f fd ["self"] spInit0 := by
  refine F.ok scE20 (fun vs H Q E h => ?_) (fun cdv A outer s H vs Q E hr h => ?_)
  · obtain ⟨a, rfl, _⟩ := h
    rfl
  · obtain ⟨a, rfl, k⟩ := h
    refine ⟨_, pss_one ps_pass, ?_⟩
    exact k
theorem scE21 : FnScope ["self"] ["self"] (defScope sI21) := ⟨rfl, rfl, rfl, by decide +kernel, rfl, by decide +kernel, by decide +kernel⟩
theorem ok_e21 {f : Addr} {fd : FuncData} (F : Fun K "__init__" "Full.__init__" sI21 f fd) : FnOk P w K mg base CX0 1 f fd ["self"] spInit0 := by
  refine F.ok scE21 (fun vs H Q E h => ?_) (fun cdv A outer s H vs Q E hr h => ?_)
  · obtain ⟨a, rfl, _⟩ := h
    rfl
  · obtain ⟨a, rfl, k⟩ := h
    refine ⟨_, pss_one ps_pass, ?_⟩
    exact k
theorem scE22 : FnScope ["self"] ["self"] (defScope sI22) := ⟨rfl, rfl, rfl, by decide +kernel, rfl, by decide +kernel, by decide +kernel⟩
theorem ok_e22 {f : Addr} {fd : FuncData} (F : Fun K "__init__" "NoWish.__init__" sI22 f fd) : FnOk P w K mg base CX0 1 f fd ["self"] spInit0 := by
  refine F.ok scE22 (fun vs H Q E h => ?_) (fun cdv A outer s H vs Q E hr h => ?_)
  · obtain ⟨a, rfl, _⟩ := h
    rfl
  · obtain ⟨a, rfl, k⟩ := h
    refine ⟨_, pss_one ps_pass, ?_⟩
    exact k
theorem scE23 : FnScope ["self"] ["self"] (defScope sI23) := ⟨rfl, rfl, rfl, by decide +kernel, rfl, by decide +kernel, by decide +kernel⟩
theorem ok_e23 {f : Addr} {fd : FuncData} (F : Fun K "__init__" "NotMade.__init__" sI23 f fd) : FnOk P w K mg base CX0 1 f fd ["self"] spInit0 := by
  refine F.ok scE23 (fun vs H Q E h => ?_) (fun cdv A outer s H vs Q E hr h => ?_)
  · obtain ⟨a, rfl, _⟩ := h
    rfl
  · obtain ⟨a, rfl, k⟩ := h
    refine ⟨_, pss_one ps_pass, ?_⟩
    exact k
theorem scE24 : FnScope ["self"] ["self"] (defScope sI24) := ⟨rfl, rfl, rfl, by decide +kernel, rfl, by decide +kernel, by decide +kernel⟩
theorem ok_e24 {f : Addr} {fd : FuncData} (F : Fun K "__init__" "NotWhole.__init__" sI24 f fd) : FnOk P w K mg base CX0 1 f fd ["self"] spInit0 := by
  refine F.ok scE24 (fun vs H Q E h => ?_) (fun cdv A outer s H vs Q E hr h => ?_)
  · obtain ⟨a, rfl, _⟩ := h
    rfl
  · obtain ⟨a, rfl, k⟩ := h
    refine ⟨_, pss_one ps_pass, ?_⟩
    exact k
theorem scE25 : FnScope ["self"] ["self"] (defScope sI25) := ⟨rfl, rfl, rfl, by decide +kernel, rfl, by decide +kernel, by decide +kernel⟩
theorem ok_e25 {f : Addr} {fd : FuncData} (F : Fun K "__init__" "NoText.__init__" sI25 f fd) : FnOk P w K mg base CX0 1 f fd ["self"] spInit0 := by
  refine F.ok scE25 (fun vs H Q E h => ?_) (fun cdv A outer s H vs Q E hr h => ?_)
  · obtain ⟨a, rfl, _⟩ := h
    rfl
  · obtain ⟨a, rfl, k⟩ := h
    refine ⟨_, pss_one ps_pass, ?_⟩
    exact k
end
/-- the table of the error classes: where they stand, what the written part says of them -/
structure ErrT (K : PySem.W.Frag) (mg : Str → Option Value) (Cs : Nat → Addr) (CE : Addr) : Prop where
  err : ∀ n, n < 26 → ErrC K (Cs n)
  kit : ∀ n, n < 26 → ∀ m, m < 26 → PySem.W.kitOne K (.ref (Cs n)) (.ref (Cs m)) = some (decide (n = m))
  kitC : ∀ n, n < 26 → PySem.W.kitOne K (.ref (Cs n)) (.ref CE) = some true
  kitV : ∀ n, n < 26 → PySem.W.kitOne K (.ref (Cs n)) (.type "ValueError") = some true
  noF : ∀ n, n < 7 → PySem.W.findIn K (.ref (Cs n)) (fld n) = some none
  exm : ∀ n, n < 26 → PySem.W.exmOne K (.ref (Cs n)) (.ref CE) = some true
  gE : mg "CountsError" = some (.ref CE)
  vE : mg "ValueError" = none
  m0 : mg "BadLot" = some (.ref (Cs 0))
  m1 : mg "BadBook" = some (.ref (Cs 1))
  m2 : mg "BadHouse" = some (.ref (Cs 2))
  m3 : mg "BadText" = some (.ref (Cs 3))
  m4 : mg "Faulty" = some (.ref (Cs 4))
  m5 : mg "TooMany" = some (.ref (Cs 5))
  m6 : mg "Unknown" = some (.ref (Cs 6))
  m7 : mg "NoNumber" = some (.ref (Cs 7))
  m8 : mg "NoKind" = some (.ref (Cs 8))
  m9 : mg "NoProgram" = some (.ref (Cs 9))
  m10 : mg "NoPlace" = some (.ref (Cs 10))
  m11 : mg "NoHanded" = some (.ref (Cs 11))
  m12 : mg "NoStep" = some (.ref (Cs 12))
  m13 : mg "NotFlat" = some (.ref (Cs 13))
  m14 : mg "NoFunctions" = some (.ref (Cs 14))
  m15 : mg "IsOver" = some (.ref (Cs 15))
  m16 : mg "NothingDone" = some (.ref (Cs 16))
  m17 : mg "NotLet" = some (.ref (Cs 17))
  m18 : mg "NoBag" = some (.ref (Cs 18))
  m19 : mg "NoPart" = some (.ref (Cs 19))
  m20 : mg "NoName" = some (.ref (Cs 20))
  m21 : mg "Full" = some (.ref (Cs 21))
  m22 : mg "NoWish" = some (.ref (Cs 22))
  m23 : mg "NotMade" = some (.ref (Cs 23))
  m24 : mg "NotWhole" = some (.ref (Cs 24))
  m25 : mg "NoText" = some (.ref (Cs 25))
/-- an error of the n-th class, made with v -/
def ErrFull (Cs : Nat → Addr) (H : Hp) (a : Addr) (n : Nat) (v : V) : Prop := (n < 7 ∧ ∃ dx, H a = some (errO a (.ref (Cs n)) (some dx)) ∧ H dx = some (.xd [(fld n, v)])) ∨ (7 ≤ n ∧ H a = some (errO a (.ref (Cs n)) none))
theorem ErrFull.at {Cs : Nat → Addr} {H : Hp} {a : Addr} {n : Nat} {v : V} (h : ErrFull Cs H a n v) : ErrAt H a (Cs n) := by
  rcases h with ⟨_, dx, h1, h2⟩ | ⟨_, h⟩
  · exact .inr ⟨dx, _, h1, h2⟩
  · exact .inl h
theorem ErrFull.same {Cs : Nat → Addr} {H H' : Hp} {a : Addr} {n : Nat} {v : V} (h : ErrFull Cs H a n v) (s : Same H H') : ErrFull Cs H' a n v := by
  rcases h with ⟨l, dx, h1, h2⟩ | ⟨l, h⟩
  · exact .inl ⟨l, dx, s _ _ h1, s _ _ h2⟩
  · exact .inr ⟨l, s _ _ h⟩
theorem errAt_same {H H' : Hp} {a D : Addr} (h : ErrAt H a D) (s : Same H H') : ErrAt H' a D := by
  rcases h with h | ⟨dx, fs, h1, h2⟩
  · exact .inl (s _ _ h)
  · exact .inr ⟨dx, fs, s _ _ h1, s _ _ h2⟩
theorem same_new {H H' : Hp} {p : Addr} {o : HO} (s : Same H H') (hp : H' p = none) : Same H (upd H' p o) := fun b u e => by rw [upd_ne (ne_of_none (s b u e) hp)]; exact s b u e
theorem same_none {H H' : Hp} {p : Addr} (s : Same H H') (hp : H' p = none) : H p = none := by
  cases e : H p with
  | none => rfl
  | some o => have := s p o e; rw [hp] at this; cases this
def flags (n m : Nat) : List V := (List.range m).map fun j => V.bl (decide (n = j))
def spClasses (Cs : Nat → Addr) : Sp := fun vs H Q _ => ∃ (a : Addr) (n : Nat), vs = [.ref a] ∧ n < 26 ∧ ErrAt H a (Cs n) ∧ ∀ p H', Same H H' → H p = none → H' p = some (.lst (flags n 26)) → Q (.ref p) H'
section
variable {P : Program} {w : World} {K : PySem.W.Frag} {mg : Str → Option Value} {base : Heap} {Cs : Nat → Addr} {CE : Addr}
theorem scC : FnScope ["_law_error", "_law_found"] ["_law_error"] (defScope sClasses) := ⟨rfl, rfl, rfl, by decide +kernel, rfl, by decide +kernel, by decide +kernel⟩
theorem ok_classes {f : Addr} {fd : FuncData} (F : Fun K "_law_classes" "_law_classes" sClasses f fd) (T : TxB mg) (R : ErrT K mg Cs CE) : FnOk P w K mg base CX0 1 f fd ["_law_error"] (spClasses Cs) := by
  refine F.ok scC (fun vs H Q E h => ?_) (fun cdv A outer s H vs Q E hr h => ?_)
  · obtain ⟨a, n, rfl, _⟩ := h
    rfl
  · obtain ⟨a, n, rfl, hn, hE, k⟩ := h
    have nd := scC.nd
    refine ⟨_, (Evl.pss_cut (ps_set (i := 1) nd rfl (Or.inl rfl) (pe_lst (pa_cons (pe_callB call_isX (by rfl) T.isinstance (by decide +kernel) (pa_cons (pv 0) (pa_cons (pe_glob (v := .ref (Cs 0)) (by rfl) R.m0 rfl) pa_nil))) (pa_cons (pe_callB call_isX (by rfl) T.isinstance (by decide +kernel) (pa_cons (pv 0) (pa_cons (pe_glob (v := .ref (Cs 1)) (by rfl) R.m1 rfl) pa_nil))) (pa_cons (pe_callB call_isX (by rfl) T.isinstance (by decide +kernel) (pa_cons (pv 0) (pa_cons (pe_glob (v := .ref (Cs 2)) (by rfl) R.m2 rfl) pa_nil))) pa_nil)))))
      (Evl.pss_cut (ps_set (i := 1) nd rfl (Or.inl rfl) (pe_op op_cat (pv 1) (pe_lst (pa_cons (pe_callB call_isX (by rfl) T.isinstance (by decide +kernel) (pa_cons (pv 0) (pa_cons (pe_glob (v := .ref (Cs 3)) (by rfl) R.m3 rfl) pa_nil))) (pa_cons (pe_callB call_isX (by rfl) T.isinstance (by decide +kernel) (pa_cons (pv 0) (pa_cons (pe_glob (v := .ref (Cs 4)) (by rfl) R.m4 rfl) pa_nil))) (pa_cons (pe_callB call_isX (by rfl) T.isinstance (by decide +kernel) (pa_cons (pv 0) (pa_cons (pe_glob (v := .ref (Cs 5)) (by rfl) R.m5 rfl) pa_nil))) pa_nil))))))
      (Evl.pss_cut (ps_set (i := 1) nd rfl (Or.inl rfl) (pe_op op_cat (pv 1) (pe_lst (pa_cons (pe_callB call_isX (by rfl) T.isinstance (by decide +kernel) (pa_cons (pv 0) (pa_cons (pe_glob (v := .ref (Cs 6)) (by rfl) R.m6 rfl) pa_nil))) (pa_cons (pe_callB call_isX (by rfl) T.isinstance (by decide +kernel) (pa_cons (pv 0) (pa_cons (pe_glob (v := .ref (Cs 7)) (by rfl) R.m7 rfl) pa_nil))) (pa_cons (pe_callB call_isX (by rfl) T.isinstance (by decide +kernel) (pa_cons (pv 0) (pa_cons (pe_glob (v := .ref (Cs 8)) (by rfl) R.m8 rfl) pa_nil))) pa_nil))))))
      (Evl.pss_cut (ps_set (i := 1) nd rfl (Or.inl rfl) (pe_op op_cat (pv 1) (pe_lst (pa_cons (pe_callB call_isX (by rfl) T.isinstance (by decide +kernel) (pa_cons (pv 0) (pa_cons (pe_glob (v := .ref (Cs 9)) (by rfl) R.m9 rfl) pa_nil))) (pa_cons (pe_callB call_isX (by rfl) T.isinstance (by decide +kernel) (pa_cons (pv 0) (pa_cons (pe_glob (v := .ref (Cs 10)) (by rfl) R.m10 rfl) pa_nil))) (pa_cons (pe_callB call_isX (by rfl) T.isinstance (by decide +kernel) (pa_cons (pv 0) (pa_cons (pe_glob (v := .ref (Cs 11)) (by rfl) R.m11 rfl) pa_nil))) pa_nil))))))
      (Evl.pss_cut (ps_set (i := 1) nd rfl (Or.inl rfl) (pe_op op_cat (pv 1) (pe_lst (pa_cons (pe_callB call_isX (by rfl) T.isinstance (by decide +kernel) (pa_cons (pv 0) (pa_cons (pe_glob (v := .ref (Cs 12)) (by rfl) R.m12 rfl) pa_nil))) (pa_cons (pe_callB call_isX (by rfl) T.isinstance (by decide +kernel) (pa_cons (pv 0) (pa_cons (pe_glob (v := .ref (Cs 13)) (by rfl) R.m13 rfl) pa_nil))) (pa_cons (pe_callB call_isX (by rfl) T.isinstance (by decide +kernel) (pa_cons (pv 0) (pa_cons (pe_glob (v := .ref (Cs 14)) (by rfl) R.m14 rfl) pa_nil))) pa_nil))))))
      (Evl.pss_cut (ps_set (i := 1) nd rfl (Or.inl rfl) (pe_op op_cat (pv 1) (pe_lst (pa_cons (pe_callB call_isX (by rfl) T.isinstance (by decide +kernel) (pa_cons (pv 0) (pa_cons (pe_glob (v := .ref (Cs 15)) (by rfl) R.m15 rfl) pa_nil))) (pa_cons (pe_callB call_isX (by rfl) T.isinstance (by decide +kernel) (pa_cons (pv 0) (pa_cons (pe_glob (v := .ref (Cs 16)) (by rfl) R.m16 rfl) pa_nil))) (pa_cons (pe_callB call_isX (by rfl) T.isinstance (by decide +kernel) (pa_cons (pv 0) (pa_cons (pe_glob (v := .ref (Cs 17)) (by rfl) R.m17 rfl) pa_nil))) pa_nil))))))
      (Evl.pss_cut (ps_set (i := 1) nd rfl (Or.inl rfl) (pe_op op_cat (pv 1) (pe_lst (pa_cons (pe_callB call_isX (by rfl) T.isinstance (by decide +kernel) (pa_cons (pv 0) (pa_cons (pe_glob (v := .ref (Cs 18)) (by rfl) R.m18 rfl) pa_nil))) (pa_cons (pe_callB call_isX (by rfl) T.isinstance (by decide +kernel) (pa_cons (pv 0) (pa_cons (pe_glob (v := .ref (Cs 19)) (by rfl) R.m19 rfl) pa_nil))) (pa_cons (pe_callB call_isX (by rfl) T.isinstance (by decide +kernel) (pa_cons (pv 0) (pa_cons (pe_glob (v := .ref (Cs 20)) (by rfl) R.m20 rfl) pa_nil))) pa_nil))))))
      (Evl.pss_cut (ps_set (i := 1) nd rfl (Or.inl rfl) (pe_op op_cat (pv 1) (pe_lst (pa_cons (pe_callB call_isX (by rfl) T.isinstance (by decide +kernel) (pa_cons (pv 0) (pa_cons (pe_glob (v := .ref (Cs 21)) (by rfl) R.m21 rfl) pa_nil))) (pa_cons (pe_callB call_isX (by rfl) T.isinstance (by decide +kernel) (pa_cons (pv 0) (pa_cons (pe_glob (v := .ref (Cs 22)) (by rfl) R.m22 rfl) pa_nil))) (pa_cons (pe_callB call_isX (by rfl) T.isinstance (by decide +kernel) (pa_cons (pv 0) (pa_cons (pe_glob (v := .ref (Cs 23)) (by rfl) R.m23 rfl) pa_nil))) pa_nil))))))
      (pss_one (ps_ret (pe_op op_cat (pv 1) (pe_lst (pa_cons (pe_callB call_isX (by rfl) T.isinstance (by decide +kernel) (pa_cons (pv 0) (pa_cons (pe_glob (v := .ref (Cs 24)) (by rfl) R.m24 rfl) pa_nil))) (pa_cons (pe_callB call_isX (by rfl) T.isinstance (by decide +kernel) (pa_cons (pv 0) (pa_cons (pe_glob (v := .ref (Cs 25)) (by rfl) R.m25 rfl) pa_nil))) pa_nil)))))))))))))), ?_⟩
    have s0 : Same H H := fun _ _ e => e
    refine ⟨fun σ' H' => ∃ p, σ' = [some (.ref a), some (.ref p)] ∧ Same H H' ∧ H p = none ∧ H' p = some (.lst (flags n 3)), ?_, ?_⟩
    · refine ⟨_, rfl, a, Cs n, .ref (Cs 0), .ref (Cs 0), _, rfl, errAt_same hE s0, .own _, R.err n hn, R.kit n hn 0 (by decide), _, rfl, a, Cs n, .ref (Cs 1), .ref (Cs 1), _, rfl, errAt_same hE s0, .own _, R.err n hn, R.kit n hn 1 (by decide), _, rfl, a, Cs n, .ref (Cs 2), .ref (Cs 2), _, rfl, errAt_same hE s0, .own _, R.err n hn, R.kit n hn 2 (by decide), (by show 3 ≤ sizeLine; decide), fun p hp => ?_⟩
      exact ⟨p, rfl, same_new s0 hp, hp, upd_same⟩
    rintro σ1 H1 ⟨p1, rfl, s1, n1, h1⟩
    refine ⟨fun σ' H' => ∃ p, σ' = [some (.ref a), some (.ref p)] ∧ Same H H' ∧ H p = none ∧ H' p = some (.lst (flags n 6)), ?_, ?_⟩
    · refine ⟨_, rfl, _, rfl, a, Cs n, .ref (Cs 3), .ref (Cs 3), _, rfl, errAt_same hE s1, .own _, R.err n hn, R.kit n hn 3 (by decide), _, rfl, a, Cs n, .ref (Cs 4), .ref (Cs 4), _, rfl, errAt_same hE s1, .own _, R.err n hn, R.kit n hn 4 (by decide), _, rfl, a, Cs n, .ref (Cs 5), .ref (Cs 5), _, rfl, errAt_same hE s1, .own _, R.err n hn, R.kit n hn 5 (by decide), (by show 3 ≤ sizeLine; decide), fun p hp => ?_⟩
      refine ⟨_, p, _, _, rfl, rfl, (by rw [upd_ne (ne_of_none h1 hp)]; exact h1), upd_same, (by show 3 + 3 ≤ sizeLine; decide), fun q hq => ?_⟩
      have sp := same_new (o := .lst [.bl (decide (n = 3)), .bl (decide (n = 4)), .bl (decide (n = 5))]) s1 hp
      exact ⟨q, rfl, same_new sp hq, same_none sp hq, upd_same⟩
    rintro σ2 H2 ⟨p2, rfl, s2, n2, h2⟩
    refine ⟨fun σ' H' => ∃ p, σ' = [some (.ref a), some (.ref p)] ∧ Same H H' ∧ H p = none ∧ H' p = some (.lst (flags n 9)), ?_, ?_⟩
    · refine ⟨_, rfl, _, rfl, a, Cs n, .ref (Cs 6), .ref (Cs 6), _, rfl, errAt_same hE s2, .own _, R.err n hn, R.kit n hn 6 (by decide), _, rfl, a, Cs n, .ref (Cs 7), .ref (Cs 7), _, rfl, errAt_same hE s2, .own _, R.err n hn, R.kit n hn 7 (by decide), _, rfl, a, Cs n, .ref (Cs 8), .ref (Cs 8), _, rfl, errAt_same hE s2, .own _, R.err n hn, R.kit n hn 8 (by decide), (by show 3 ≤ sizeLine; decide), fun p hp => ?_⟩
      refine ⟨_, p, _, _, rfl, rfl, (by rw [upd_ne (ne_of_none h2 hp)]; exact h2), upd_same, (by show 6 + 3 ≤ sizeLine; decide), fun q hq => ?_⟩
      have sp := same_new (o := .lst [.bl (decide (n = 6)), .bl (decide (n = 7)), .bl (decide (n = 8))]) s2 hp
      exact ⟨q, rfl, same_new sp hq, same_none sp hq, upd_same⟩
    rintro σ3 H3 ⟨p3, rfl, s3, n3, h3⟩
    refine ⟨fun σ' H' => ∃ p, σ' = [some (.ref a), some (.ref p)] ∧ Same H H' ∧ H p = none ∧ H' p = some (.lst (flags n 12)), ?_, ?_⟩
    · refine ⟨_, rfl, _, rfl, a, Cs n, .ref (Cs 9), .ref (Cs 9), _, rfl, errAt_same hE s3, .own _, R.err n hn, R.kit n hn 9 (by decide), _, rfl, a, Cs n, .ref (Cs 10), .ref (Cs 10), _, rfl, errAt_same hE s3, .own _, R.err n hn, R.kit n hn 10 (by decide), _, rfl, a, Cs n, .ref (Cs 11), .ref (Cs 11), _, rfl, errAt_same hE s3, .own _, R.err n hn, R.kit n hn 11 (by decide), (by show 3 ≤ sizeLine; decide), fun p hp => ?_⟩
      refine ⟨_, p, _, _, rfl, rfl, (by rw [upd_ne (ne_of_none h3 hp)]; exact h3), upd_same, (by show 9 + 3 ≤ sizeLine; decide), fun q hq => ?_⟩
      have sp := same_new (o := .lst [.bl (decide (n = 9)), .bl (decide (n = 10)), .bl (decide (n = 11))]) s3 hp
      exact ⟨q, rfl, same_new sp hq, same_none sp hq, upd_same⟩
    rintro σ4 H4 ⟨p4, rfl, s4, n4, h4⟩
    refine ⟨fun σ' H' => ∃ p, σ' = [some (.ref a), some (.ref p)] ∧ Same H H' ∧ H p = none ∧ H' p = some (.lst (flags n 15)), ?_, ?_⟩
    · refine ⟨_, rfl, _, rfl, a, Cs n, .ref (Cs 12), .ref (Cs 12), _, rfl, errAt_same hE s4, .own _, R.err n hn, R.kit n hn 12 (by decide), _, rfl, a, Cs n, .ref (Cs 13), .ref (Cs 13), _, rfl, errAt_same hE s4, .own _, R.err n hn, R.kit n hn 13 (by decide), _, rfl, a, Cs n, .ref (Cs 14), .ref (Cs 14), _, rfl, errAt_same hE s4, .own _, R.err n hn, R.kit n hn 14 (by decide), (by show 3 ≤ sizeLine; decide), fun p hp => ?_⟩
      refine ⟨_, p, _, _, rfl, rfl, (by rw [upd_ne (ne_of_none h4 hp)]; exact h4), upd_same, (by show 12 + 3 ≤ sizeLine; decide), fun q hq => ?_⟩
      have sp := same_new (o := .lst [.bl (decide (n = 12)), .bl (decide (n = 13)), .bl (decide (n = 14))]) s4 hp
      exact ⟨q, rfl, same_new sp hq, same_none sp hq, upd_same⟩
    rintro σ5 H5 ⟨p5, rfl, s5, n5, h5⟩
    refine ⟨fun σ' H' => ∃ p, σ' = [some (.ref a), some (.ref p)] ∧ Same H H' ∧ H p = none ∧ H' p = some (.lst (flags n 18)), ?_, ?_⟩
    · refine ⟨_, rfl, _, rfl, a, Cs n, .ref (Cs 15), .ref (Cs 15), _, rfl, errAt_same hE s5, .own _, R.err n hn, R.kit n hn 15 (by decide), _, rfl, a, Cs n, .ref (Cs 16), .ref (Cs 16), _, rfl, errAt_same hE s5, .own _, R.err n hn, R.kit n hn 16 (by decide), _, rfl, a, Cs n, .ref (Cs 17), .ref (Cs 17), _, rfl, errAt_same hE s5, .own _, R.err n hn, R.kit n hn 17 (by decide), (by show 3 ≤ sizeLine; decide), fun p hp => ?_⟩
      refine ⟨_, p, _, _, rfl, rfl, (by rw [upd_ne (ne_of_none h5 hp)]; exact h5), upd_same, (by show 15 + 3 ≤ sizeLine; decide), fun q hq => ?_⟩
      have sp := same_new (o := .lst [.bl (decide (n = 15)), .bl (decide (n = 16)), .bl (decide (n = 17))]) s5 hp
      exact ⟨q, rfl, same_new sp hq, same_none sp hq, upd_same⟩
    rintro σ6 H6 ⟨p6, rfl, s6, n6, h6⟩
    refine ⟨fun σ' H' => ∃ p, σ' = [some (.ref a), some (.ref p)] ∧ Same H H' ∧ H p = none ∧ H' p = some (.lst (flags n 21)), ?_, ?_⟩
    · refine ⟨_, rfl, _, rfl, a, Cs n, .ref (Cs 18), .ref (Cs 18), _, rfl, errAt_same hE s6, .own _, R.err n hn, R.kit n hn 18 (by decide), _, rfl, a, Cs n, .ref (Cs 19), .ref (Cs 19), _, rfl, errAt_same hE s6, .own _, R.err n hn, R.kit n hn 19 (by decide), _, rfl, a, Cs n, .ref (Cs 20), .ref (Cs 20), _, rfl, errAt_same hE s6, .own _, R.err n hn, R.kit n hn 20 (by decide), (by show 3 ≤ sizeLine; decide), fun p hp => ?_⟩
      refine ⟨_, p, _, _, rfl, rfl, (by rw [upd_ne (ne_of_none h6 hp)]; exact h6), upd_same, (by show 18 + 3 ≤ sizeLine; decide), fun q hq => ?_⟩
      have sp := same_new (o := .lst [.bl (decide (n = 18)), .bl (decide (n = 19)), .bl (decide (n = 20))]) s6 hp
      exact ⟨q, rfl, same_new sp hq, same_none sp hq, upd_same⟩
    rintro σ7 H7 ⟨p7, rfl, s7, n7, h7⟩
    refine ⟨fun σ' H' => ∃ p, σ' = [some (.ref a), some (.ref p)] ∧ Same H H' ∧ H p = none ∧ H' p = some (.lst (flags n 24)), ?_, ?_⟩
    · refine ⟨_, rfl, _, rfl, a, Cs n, .ref (Cs 21), .ref (Cs 21), _, rfl, errAt_same hE s7, .own _, R.err n hn, R.kit n hn 21 (by decide), _, rfl, a, Cs n, .ref (Cs 22), .ref (Cs 22), _, rfl, errAt_same hE s7, .own _, R.err n hn, R.kit n hn 22 (by decide), _, rfl, a, Cs n, .ref (Cs 23), .ref (Cs 23), _, rfl, errAt_same hE s7, .own _, R.err n hn, R.kit n hn 23 (by decide), (by show 3 ≤ sizeLine; decide), fun p hp => ?_⟩
      refine ⟨_, p, _, _, rfl, rfl, (by rw [upd_ne (ne_of_none h7 hp)]; exact h7), upd_same, (by show 21 + 3 ≤ sizeLine; decide), fun q hq => ?_⟩
      have sp := same_new (o := .lst [.bl (decide (n = 21)), .bl (decide (n = 22)), .bl (decide (n = 23))]) s7 hp
      exact ⟨q, rfl, same_new sp hq, same_none sp hq, upd_same⟩
    rintro σ8 H8 ⟨p8, rfl, s8, n8, h8⟩
    refine ⟨_, rfl, _, rfl, a, Cs n, .ref (Cs 24), .ref (Cs 24), _, rfl, errAt_same hE s8, .own _, R.err n hn, R.kit n hn 24 (by decide), _, rfl, a, Cs n, .ref (Cs 25), .ref (Cs 25), _, rfl, errAt_same hE s8, .own _, R.err n hn, R.kit n hn 25 (by decide), (by show 2 ≤ sizeLine; decide), fun p hp => ?_⟩
    refine ⟨_, p, _, _, rfl, rfl, (by rw [upd_ne (ne_of_none h8 hp)]; exact h8), upd_same, (by show 24 + 2 ≤ sizeLine; decide), fun q hq => ?_⟩
    have sp := same_new (o := .lst [.bl (decide (n = 24)), .bl (decide (n = 25))]) s8 hp
    exact k q _ (same_new sp hq) (same_none sp hq) upd_same
theorem scF : FnScope ["_law_error", "_law_number"] ["_law_error", "_law_number"] (defScope sField) := ⟨rfl, rfl, rfl, by decide +kernel, rfl, by decide +kernel, by decide +kernel⟩
def spField (Cs : Nat → Addr) : Sp := fun vs H Q _ => ∃ (a : Addr) (n : Nat) (v : V), vs = [.ref a, .int (n : Int)] ∧ n < 7 ∧ ErrFull Cs H a n v ∧ Q v H
theorem ok_field {f : Addr} {fd : FuncData} (F : Fun K "_law_field" "_law_field" sField f fd) (R : ErrT K mg Cs CE) : FnOk P w K mg base CX0 1 f fd ["_law_error", "_law_number"] (spField Cs) := by
  refine F.ok scF (fun vs H Q E h => ?_) (fun cdv A outer s H vs Q E hr h => ?_)
  · obtain ⟨a, n, v, rfl, _⟩ := h
    rfl
  · obtain ⟨a, n, v, rfl, hn, hE, k⟩ := h
    refine ⟨_, pss_cons (ps_if (pt_cmpR op_lt (pv 1) pe_int (nomark _)) (pss_one (ps_ret (pe_exF (pv 0)))) pss_nil)
      (pss_cons (ps_if (pt_cmpR op_eq (pv 1) pe_int (nomark _)) (pss_one (ps_ret (pe_exF (pv 0)))) pss_nil)
      (pss_cons (ps_if (pt_cmpR op_eq (pv 1) pe_int (nomark _)) (pss_one (ps_ret (pe_exF (pv 0)))) pss_nil)
      (pss_one (ps_ret (pe_ifExp (pt_cmpR op_eq (pv 1) pe_int (nomark _)) (pe_exF (pv 0)) (pe_exF (pv 0))))))), ?_⟩
    obtain ⟨dx, h1, h2⟩ : ∃ dx, H a = some (errO a (.ref (Cs n)) (some dx)) ∧ H dx = some (.xd [(fld n, v)]) := by
      rcases hE with ⟨_, h⟩ | ⟨h, _⟩
      · exact h
      · omega
    have hlk : List.lookup (fld n) [(fld n, v)] = some v := by simp [List.lookup]
    have hno := R.noF n hn
    have hT := R.err n (by omega)
    refine ⟨_, rfl, _, _, rfl, rfl, _, rfl, ?_⟩
    refine ite2 (fun c1 => ?_) (fun c1 => ?_)
    · have e : fld n = "part" := by unfold fld; rw [if_pos (by have := of_decide_eq_true c1; omega)]
      rw [e] at h2 hlk hno
      exact ⟨_, rfl, a, Cs n, dx, _, v, rfl, hT, hno, h1, h2, hlk, k⟩
    · have c1' : ¬ n < 3 := fun z => c1 (decide_eq_true (by omega))
      refine ⟨_, rfl, rfl, _, rfl, ?_⟩
      refine ite2 (fun c2 => ?_) (fun c2 => ?_)
      · have q : (n : Int) = 3 := V.int.inj (of_decide_eq_true c2)
        have e : fld n = "index" := by unfold fld; rw [if_neg c1', if_pos (by omega)]
        rw [e] at h2 hlk hno
        exact ⟨_, rfl, a, Cs n, dx, _, v, rfl, hT, hno, h1, h2, hlk, k⟩
      · have c2' : ¬ n = 3 := fun z => c2 (decide_eq_true (by rw [z]; rfl))
        refine ⟨_, rfl, rfl, _, rfl, ?_⟩
        refine ite2 (fun c3 => ?_) (fun c3 => ?_)
        · have q : (n : Int) = 4 := V.int.inj (of_decide_eq_true c3)
          have e : fld n = "fault" := by unfold fld; rw [if_neg c1', if_neg c2', if_pos (by omega)]
          rw [e] at h2 hlk hno
          exact ⟨_, rfl, a, Cs n, dx, _, v, rfl, hT, hno, h1, h2, hlk, k⟩
        · have c3' : ¬ n = 4 := fun z => c3 (decide_eq_true (by rw [z]; rfl))
          refine ⟨_, rfl, rfl, _, rfl, ?_⟩
          refine ite2 (fun c4 => ?_) (fun c4 => ?_)
          · have q : (n : Int) = 5 := V.int.inj (of_decide_eq_true c4)
            have e : fld n = "most" := by unfold fld; rw [if_neg c1', if_neg c2', if_neg c3', if_pos (by omega)]
            rw [e] at h2 hlk hno
            exact ⟨_, rfl, a, Cs n, dx, _, v, rfl, hT, hno, h1, h2, hlk, k⟩
          · have c4' : ¬ n = 5 := fun z => c4 (decide_eq_true (by rw [z]; rfl))
            have e : fld n = "name" := by unfold fld; rw [if_neg c1', if_neg c2', if_neg c3', if_neg c4']
            rw [e] at h2 hlk hno
            exact ⟨_, rfl, a, Cs n, dx, _, v, rfl, hT, hno, h1, h2, hlk, k⟩
end
end K00

set_option Elab.async false
set_option linter.all false
set_option maxRecDepth 100000
set_option maxHeartbeats 2000000
namespace L2
open PySem PySem.Spec PyProof.Rows
/-- xs.count(b), xs a list of truth values -/
def rCntB (K : PySem.W.Frag) : V → List V → Hp → VK → Prop := fun l vs G Q => ∃ (p : Addr) (bs : List Bool) (b : Bool), l = .ref p ∧ vs = [.bl b] ∧ SqL K G p (bs.map V.bl) ∧ Q (.int (bs.count b : Nat)) G
def isBl (b : Bool) : Value → Bool
  | .bool c => c == b
  | _ => false
theorem isBl_eq {A : Around} {s : Shared} {b : Bool} {us : List Value} {bs : List Bool} (r : Vals (bs.map V.bl) us) : (∀ y ∈ us, SeqAt.EqAt A s y (.bool b) (isBl b y)) ∧ us.countP (isBl b) = bs.count b := by
  induction bs generalizing us with
  | nil =>
    cases r
    exact ⟨fun y hy => (by cases hy), rfl⟩
  | cons c bs ih =>
    match us, r with
    | u :: us, .cons r1 r2 =>
      obtain rfl : u = Value.bool c := r1
      obtain ⟨h1, h2⟩ := ih r2
      refine ⟨fun y hy => ?_, by rw [List.countP_cons, List.count_cons, h2] <;> rfl⟩
      cases hy with
      | head => exact SeqAt.EqAt.bool_bool c b
      | tail _ hy => exact h1 y hy
theorem mt_countB {X : Cx} : MtR X "list.count" (rCntB X.K) := by
  rintro pins s σ G _ _ v us Q I rl ra ⟨p, bs, b, rfl, rfl, hl, q⟩
  obtain rfl : v = Value.ref p := rl
  match us, ra with
  | [w], .cons rb .nil =>
    obtain rfl : w = Value.bool b := rb
    obtain ⟨its, vals, ⟨⟨_, dd, _, sl⟩, n, here, e1, _, e2⟩, _⟩ := I.list hl
    dsimp only at e1 e2
    subst e1
    subst e2
    have cnt : its.toArray.toList.countP (isBl b) = bs.count b := (isBl_eq (A := X.A) (s := s) vals).2
    refine call_meets PySem.F.slot_list_count ⟨_, here, rfl⟩ PySem.F.entry_list_count (PySem.F.args_list_count_2 _ _) (SeqAt.list_countAt p its.toArray n dd sl (.bool b) (isBl b)) ⟨here, fun y hy => (isBl_eq vals).1 y (by simpa using hy), ?_⟩
    rw [cnt]
    exact ⟨.int (bs.count b : Nat), G, I.tok _, ⟨s.toks, rfl⟩, q⟩
theorem stay_new {G : Hp} {q p : Addr} {u o : HO} (hp : upd G q u p = none) : upd (upd G q u) p o q = some u := (upd_ne (ne_of_none upd_same hp)).trans upd_same
theorem ifT {c : Bool} {A B : Prop} (hc : c = true) (h : A) : if c = true then A else B := by
  rw [if_pos hc]
  exact h
theorem ifF {c : Bool} {A B : Prop} (hc : c = false) (h : B) : if c = true then A else B := by
  rw [hc, if_neg Bool.false_ne_true]
  exact h
end L2
namespace K00
open PySem L2
/-- the __init__ of the error classes -/
structure ErrF (K : PySem.W.Frag) (Cs fI : Nat → Addr) (fd : Nat → FuncData) : Prop where
  F0 : Fun K "__init__" "BadLot.__init__" sI0 (fI 0) (fd 0)
  b0 : Binds K (fd 0) ["self", "part"] []
  i0 : PySem.W.findIn K (.ref (Cs 0)) "__init__" = some (some (.ref (fI 0)))
  t0 : PySem.W.typeIn K (.ref (fI 0)) = some (.type "function")
  F1 : Fun K "__init__" "BadBook.__init__" sI1 (fI 1) (fd 1)
  b1 : Binds K (fd 1) ["self", "part"] []
  i1 : PySem.W.findIn K (.ref (Cs 1)) "__init__" = some (some (.ref (fI 1)))
  t1 : PySem.W.typeIn K (.ref (fI 1)) = some (.type "function")
  F2 : Fun K "__init__" "BadHouse.__init__" sI2 (fI 2) (fd 2)
  b2 : Binds K (fd 2) ["self", "part"] []
  i2 : PySem.W.findIn K (.ref (Cs 2)) "__init__" = some (some (.ref (fI 2)))
  t2 : PySem.W.typeIn K (.ref (fI 2)) = some (.type "function")
  F3 : Fun K "__init__" "BadText.__init__" sI3 (fI 3) (fd 3)
  b3 : Binds K (fd 3) ["self", "index"] []
  i3 : PySem.W.findIn K (.ref (Cs 3)) "__init__" = some (some (.ref (fI 3)))
  t3 : PySem.W.typeIn K (.ref (fI 3)) = some (.type "function")
  F4 : Fun K "__init__" "Faulty.__init__" sI4 (fI 4) (fd 4)
  b4 : Binds K (fd 4) ["self", "fault"] []
  i4 : PySem.W.findIn K (.ref (Cs 4)) "__init__" = some (some (.ref (fI 4)))
  t4 : PySem.W.typeIn K (.ref (fI 4)) = some (.type "function")
  F5 : Fun K "__init__" "TooMany.__init__" sI5 (fI 5) (fd 5)
  b5 : Binds K (fd 5) ["self", "most"] []
  i5 : PySem.W.findIn K (.ref (Cs 5)) "__init__" = some (some (.ref (fI 5)))
  t5 : PySem.W.typeIn K (.ref (fI 5)) = some (.type "function")
  F6 : Fun K "__init__" "Unknown.__init__" sI6 (fI 6) (fd 6)
  b6 : Binds K (fd 6) ["self", "name"] []
  i6 : PySem.W.findIn K (.ref (Cs 6)) "__init__" = some (some (.ref (fI 6)))
  t6 : PySem.W.typeIn K (.ref (fI 6)) = some (.type "function")
  F7 : Fun K "__init__" "NoNumber.__init__" sI7 (fI 7) (fd 7)
  b7 : Binds K (fd 7) ["self"] []
  i7 : PySem.W.findIn K (.ref (Cs 7)) "__init__" = some (some (.ref (fI 7)))
  t7 : PySem.W.typeIn K (.ref (fI 7)) = some (.type "function")
  F8 : Fun K "__init__" "NoKind.__init__" sI8 (fI 8) (fd 8)
  b8 : Binds K (fd 8) ["self"] []
  i8 : PySem.W.findIn K (.ref (Cs 8)) "__init__" = some (some (.ref (fI 8)))
  t8 : PySem.W.typeIn K (.ref (fI 8)) = some (.type "function")
  F9 : Fun K "__init__" "NoProgram.__init__" sI9 (fI 9) (fd 9)
  b9 : Binds K (fd 9) ["self"] []
  i9 : PySem.W.findIn K (.ref (Cs 9)) "__init__" = some (some (.ref (fI 9)))
  t9 : PySem.W.typeIn K (.ref (fI 9)) = some (.type "function")
  F10 : Fun K "__init__" "NoPlace.__init__" sI10 (fI 10) (fd 10)
  b10 : Binds K (fd 10) ["self"] []
  i10 : PySem.W.findIn K (.ref (Cs 10)) "__init__" = some (some (.ref (fI 10)))
  t10 : PySem.W.typeIn K (.ref (fI 10)) = some (.type "function")
  F11 : Fun K "__init__" "NoHanded.__init__" sI11 (fI 11) (fd 11)
  b11 : Binds K (fd 11) ["self"] []
  i11 : PySem.W.findIn K (.ref (Cs 11)) "__init__" = some (some (.ref (fI 11)))
  t11 : PySem.W.typeIn K (.ref (fI 11)) = some (.type "function")
  F12 : Fun K "__init__" "NoStep.__init__" sI12 (fI 12) (fd 12)
  b12 : Binds K (fd 12) ["self"] []
  i12 : PySem.W.findIn K (.ref (Cs 12)) "__init__" = some (some (.ref (fI 12)))
  t12 : PySem.W.typeIn K (.ref (fI 12)) = some (.type "function")
  F13 : Fun K "__init__" "NotFlat.__init__" sI13 (fI 13) (fd 13)
  b13 : Binds K (fd 13) ["self"] []
  i13 : PySem.W.findIn K (.ref (Cs 13)) "__init__" = some (some (.ref (fI 13)))
  t13 : PySem.W.typeIn K (.ref (fI 13)) = some (.type "function")
  F14 : Fun K "__init__" "NoFunctions.__init__" sI14 (fI 14) (fd 14)
  b14 : Binds K (fd 14) ["self"] []
  i14 : PySem.W.findIn K (.ref (Cs 14)) "__init__" = some (some (.ref (fI 14)))
  t14 : PySem.W.typeIn K (.ref (fI 14)) = some (.type "function")
  F15 : Fun K "__init__" "IsOver.__init__" sI15 (fI 15) (fd 15)
  b15 : Binds K (fd 15) ["self"] []
  i15 : PySem.W.findIn K (.ref (Cs 15)) "__init__" = some (some (.ref (fI 15)))
  t15 : PySem.W.typeIn K (.ref (fI 15)) = some (.type "function")
  F16 : Fun K "__init__" "NothingDone.__init__" sI16 (fI 16) (fd 16)
  b16 : Binds K (fd 16) ["self"] []
  i16 : PySem.W.findIn K (.ref (Cs 16)) "__init__" = some (some (.ref (fI 16)))
  t16 : PySem.W.typeIn K (.ref (fI 16)) = some (.type "function")
  F17 : Fun K "__init__" "NotLet.__init__" sI17 (fI 17) (fd 17)
  b17 : Binds K (fd 17) ["self"] []
  i17 : PySem.W.findIn K (.ref (Cs 17)) "__init__" = some (some (.ref (fI 17)))
  t17 : PySem.W.typeIn K (.ref (fI 17)) = some (.type "function")
  F18 : Fun K "__init__" "NoBag.__init__" sI18 (fI 18) (fd 18)
  b18 : Binds K (fd 18) ["self"] []
  i18 : PySem.W.findIn K (.ref (Cs 18)) "__init__" = some (some (.ref (fI 18)))
  t18 : PySem.W.typeIn K (.ref (fI 18)) = some (.type "function")
  F19 : Fun K "__init__" "NoPart.__init__" sI19 (fI 19) (fd 19)
  b19 : Binds K (fd 19) ["self"] []
  i19 : PySem.W.findIn K (.ref (Cs 19)) "__init__" = some (some (.ref (fI 19)))
  t19 : PySem.W.typeIn K (.ref (fI 19)) = some (.type "function")
  F20 : Fun K "__init__" "NoName.__init__" sI20 (fI 20) (fd 20)
  b20 : Binds K (fd 20) ["self"] []
  i20 : PySem.W.findIn K (.ref (Cs 20)) "__init__" = some (some (.ref (fI 20)))
  t20 : PySem.W.typeIn K (.ref (fI 20)) = some (.type "function")
  F21 : Fun K "__init__" "Full.__init__" sI21 (fI 21) (fd 21)
  b21 : Binds K (fd 21) ["self"] []
  i21 : PySem.W.findIn K (.ref (Cs 21)) "__init__" = some (some (.ref (fI 21)))
  t21 : PySem.W.typeIn K (.ref (fI 21)) = some (.type "function")
  F22 : Fun K "__init__" "NoWish.__init__" sI22 (fI 22) (fd 22)
  b22 : Binds K (fd 22) ["self"] []
  i22 : PySem.W.findIn K (.ref (Cs 22)) "__init__" = some (some (.ref (fI 22)))
  t22 : PySem.W.typeIn K (.ref (fI 22)) = some (.type "function")
  F23 : Fun K "__init__" "NotMade.__init__" sI23 (fI 23) (fd 23)
  b23 : Binds K (fd 23) ["self"] []
  i23 : PySem.W.findIn K (.ref (Cs 23)) "__init__" = some (some (.ref (fI 23)))
  t23 : PySem.W.typeIn K (.ref (fI 23)) = some (.type "function")
  F24 : Fun K "__init__" "NotWhole.__init__" sI24 (fI 24) (fd 24)
  b24 : Binds K (fd 24) ["self"] []
  i24 : PySem.W.findIn K (.ref (Cs 24)) "__init__" = some (some (.ref (fI 24)))
  t24 : PySem.W.typeIn K (.ref (fI 24)) = some (.type "function")
  F25 : Fun K "__init__" "NoText.__init__" sI25 (fI 25) (fd 25)
  b25 : Binds K (fd 25) ["self"] []
  i25 : PySem.W.findIn K (.ref (Cs 25)) "__init__" = some (some (.ref (fI 25)))
  t25 : PySem.W.typeIn K (.ref (fI 25)) = some (.type "function")
section
variable {P : Program} {w : World} {K : PySem.W.Frag} {mg : Str → Option Value} {base : Heap} {Cs fI : Nat → Addr} {CE : Addr} {fdI : Nat → FuncData}
theorem scR : FnScope ["_law_which", "_law_thing", "_law_found", "e"] ["_law_which", "_law_thing"] (defScope sRaised) := ⟨rfl, rfl, rfl, by decide +kernel, rfl, by decide +kernel, by decide +kernel⟩
def spRaised : Sp := fun vs H Q _ => ∃ (i : Int) (v : V), vs = [.int i, v] ∧ 0 ≤ i ∧ i < 4 ∧ ∀ H', Same H H' → Q v H'
theorem ok_raised {f : Addr} {fd : FuncData} (F : Fun K "_law_raised" "_law_raised" sRaised f fd) (T : TxB mg) (R : ErrT K mg Cs CE) (G : ErrF K Cs fI fdI) : FnOk P w K mg base CX0 3 f fd ["_law_which", "_law_thing"] spRaised := by
  refine F.ok scR (fun vs H Q E h => ?_) (fun cdv A outer s H vs Q E hr h => ?_)
  · obtain ⟨i, v, rfl, _⟩ := h
    rfl
  · obtain ⟨i, v, rfl, h0, h4, k⟩ := h
    have nd := scR.nd
    refine ⟨_, pss_cons (ps_set (i := 2) nd rfl (Or.inl rfl) pe_non)
      (pss_cons (ps_try_as (i := 3) (Wout := fun _ _ _ _ => False) rfl rfl nd rfl rfl ⟨rfl, by decide, Or.inl R.gE⟩ takes0
        (fun W pn xe tk _ => pss_cons (ps_if (pt_cmpR op_eq (pv 0) pe_int (nomark _)) (pss_one (ps_raise rfl tk (pmk_oex (R.err 0 (by decide)).ox G.i0 G.t0 (ok_e0 (C := Cs 0) G.F0) hr G.b0 .nil pass0 (by rfl) R.m0 (pa_cons (pv 1) pa_nil)))) pss_nil)
          (pss_cons (ps_if (pt_cmpR op_eq (pv 0) pe_int (nomark _)) (pss_one (ps_raise rfl tk (pmk_oex (R.err 4 (by decide)).ox G.i4 G.t4 (ok_e4 (C := Cs 4) G.F4) hr G.b4 .nil pass0 (by rfl) R.m4 (pa_cons (pv 1) pa_nil)))) pss_nil)
          (pss_cons (ps_if (pt_cmpR op_eq (pv 0) pe_int (nomark _)) (pss_one (ps_raise rfl tk (pmk_oex (R.err 6 (by decide)).ox G.i6 G.t6 (ok_e6 (C := Cs 6) G.F6) hr G.b6 .nil pass0 (by rfl) R.m6 (pa_cons (pv 1) pa_nil)))) pss_nil)
          (pss_one (ps_raise rfl tk (pmk_oex (R.err 5 (by decide)).ox G.i5 G.t5 (ok_e5 (C := Cs 5) G.F5) hr G.b5 .nil pass0 (by rfl) R.m5 (pa_cons (pv 1) pa_nil)))))))
        (fun a oe cls d pn hz hf => pss_cons (ps_set (i := 2) nd rfl (Or.inl rfl) (pe_ifExp (pt_val (pe_callB (call_isES hz hf) (by rfl) T.isinstance (by decide +kernel) (pa_cons (pv 3) (pa_cons (pe_glob (v := .ref (Cs 0)) (by rfl) R.m0 rfl) pa_nil)))) (pe_xf (R.err 0 (by decide)).xf (R.noF 0 (by decide)) hz hf (pv 3)) (pe_lst (pa_cons (pv 3) pa_nil))))
          (pss_one (ps_if (pt_val (pe_callB (call_isES hz hf) (by rfl) T.isinstance (by decide +kernel) (pa_cons (pv 3) (pa_cons (pe_glob (v := .ref (Cs 4)) (by rfl) R.m4 rfl) pa_nil)))) (pss_one (ps_set (i := 2) nd rfl (Or.inl rfl) (pe_xf (R.err 4 (by decide)).xf (R.noF 4 (by decide)) hz hf (pv 3))))
            (pss_one (ps_if (pt_val (pe_callB (call_isES hz hf) (by rfl) T.isinstance (by decide +kernel) (pa_cons (pv 3) (pa_cons (pe_glob (v := .ref (Cs 6)) (by rfl) R.m6 rfl) pa_nil)))) (pss_one (ps_set (i := 2) nd rfl (Or.inl rfl) (pe_xf (R.err 6 (by decide)).xf (R.noF 6 (by decide)) hz hf (pv 3))))
            (pss_one (ps_if (pt_val (pe_callB (call_isES hz hf) (by rfl) T.isinstance (by decide +kernel) (pa_cons (pv 3) (pa_cons (pe_glob (v := .ref (Cs 5)) (by rfl) R.m5 rfl) pa_nil)))) (pss_one (ps_set (i := 2) nd rfl (Or.inl rfl) (pe_xf (R.err 5 (by decide)).xf (R.noF 5 (by decide)) hz hf (pv 3)))) pss_nil))))))))
      (pss_one (ps_ret (pv 2)))), ?_⟩
    have sS : ∀ (a dx : Addr) (f : Str) (C : Addr), H a = none → H dx = none → Same H (upd (del (upd (upd (upd H a (exo a C none)) dx (exd dx [(f, v)])) a (exo a C (some dx))) a) dx (.xd [(f, v)])) := fun a dx f C ha hd b o e => by
      rw [upd_ne (ne_of_none e hd), del_ne (ne_of_none e ha), upd_ne (ne_of_none e ha), upd_ne (ne_of_none e hd), upd_ne (ne_of_none e ha)]
      exact e
    obtain rfl | rfl | rfl | rfl : i = 0 ∨ i = 1 ∨ i = 2 ∨ i = 3 := by omega
    · -- case 0
      refine ⟨_, rfl, rfl, _, rfl, ?_⟩
      refine ifT (by decide) ?_
      refine ⟨_, rfl, (by show 1 ≤ 1000; decide), fun a ha => ⟨a, v, rfl, (R.err 0 (by decide)).ox, R.noF 0 (by decide), upd_same, fun dx hdx hne => ?_⟩⟩
      have hd0 : H dx = none := by rw [upd_ne hne] at hdx; exact hdx
      refine ⟨rfl, dx, _, upd_same, (upd_ne hne).trans upd_same, hd0, true, R.exm 0 (by decide), fun _ a0 _ => ?_, fun q => nomatch q⟩
      refine ⟨_, rfl, Cs 0, dx, _, .ref (Cs 0), .ref (Cs 0), _, rfl, rfl, rfl, upd_same, .own _, R.err 0 (by decide), R.kit 0 (by decide) 0 (by decide), _, rfl, ?_⟩
      refine ifT (by decide) ?_
      refine ⟨_, rfl, rfl, rfl, dx, _, v, rfl, upd_same, rfl, ?_⟩
      refine ⟨_, rfl, Cs 0, dx, _, .ref (Cs 4), .ref (Cs 4), _, rfl, rfl, rfl, upd_same, .own _, R.err 0 (by decide), R.kit 0 (by decide) 4 (by decide), _, rfl, ?_⟩
      refine ifF (by decide) ?_
      refine ⟨_, rfl, Cs 0, dx, _, .ref (Cs 6), .ref (Cs 6), _, rfl, rfl, rfl, upd_same, .own _, R.err 0 (by decide), R.kit 0 (by decide) 6 (by decide), _, rfl, ?_⟩
      refine ifF (by decide) ?_
      refine ⟨_, rfl, Cs 0, dx, _, .ref (Cs 5), .ref (Cs 5), _, rfl, rfl, rfl, upd_same, .own _, R.err 0 (by decide), R.kit 0 (by decide) 5 (by decide), _, rfl, ?_⟩
      refine ifF (by decide) ?_
      exact ⟨_, rfl, k _ (sS a dx _ _ ha hd0)⟩
    · -- case 1
      refine ⟨_, rfl, rfl, _, rfl, ?_⟩
      refine ifF (by decide) ?_
      refine ⟨_, rfl, rfl, _, rfl, ?_⟩
      refine ifT (by decide) ?_
      refine ⟨_, rfl, (by show 1 ≤ 1000; decide), fun a ha => ⟨a, v, rfl, (R.err 4 (by decide)).ox, R.noF 4 (by decide), upd_same, fun dx hdx hne => ?_⟩⟩
      have hd0 : H dx = none := by rw [upd_ne hne] at hdx; exact hdx
      refine ⟨rfl, dx, _, upd_same, (upd_ne hne).trans upd_same, hd0, true, R.exm 4 (by decide), fun _ a0 _ => ?_, fun q => nomatch q⟩
      refine ⟨_, rfl, Cs 4, dx, _, .ref (Cs 0), .ref (Cs 0), _, rfl, rfl, rfl, upd_same, .own _, R.err 4 (by decide), R.kit 4 (by decide) 0 (by decide), _, rfl, ?_⟩
      refine ifF (by decide) ?_
      refine ⟨_, rfl, (by show 1 ≤ sizeLine; decide), fun p hp => ?_⟩
      refine ⟨_, rfl, Cs 4, dx, _, .ref (Cs 4), .ref (Cs 4), _, rfl, rfl, rfl, stay_new hp, .own _, R.err 4 (by decide), R.kit 4 (by decide) 4 (by decide), _, rfl, ?_⟩
      refine ifT (by decide) ?_
      refine ⟨_, rfl, rfl, rfl, dx, _, v, rfl, stay_new hp, rfl, ?_⟩
      exact ⟨_, rfl, k _ (same_new (sS a dx _ _ ha hd0) hp)⟩
    · -- case 2
      refine ⟨_, rfl, rfl, _, rfl, ?_⟩
      refine ifF (by decide) ?_
      refine ⟨_, rfl, rfl, _, rfl, ?_⟩
      refine ifF (by decide) ?_
      refine ⟨_, rfl, rfl, _, rfl, ?_⟩
      refine ifT (by decide) ?_
      refine ⟨_, rfl, (by show 1 ≤ 1000; decide), fun a ha => ⟨a, v, rfl, (R.err 6 (by decide)).ox, R.noF 6 (by decide), upd_same, fun dx hdx hne => ?_⟩⟩
      have hd0 : H dx = none := by rw [upd_ne hne] at hdx; exact hdx
      refine ⟨rfl, dx, _, upd_same, (upd_ne hne).trans upd_same, hd0, true, R.exm 6 (by decide), fun _ a0 _ => ?_, fun q => nomatch q⟩
      refine ⟨_, rfl, Cs 6, dx, _, .ref (Cs 0), .ref (Cs 0), _, rfl, rfl, rfl, upd_same, .own _, R.err 6 (by decide), R.kit 6 (by decide) 0 (by decide), _, rfl, ?_⟩
      refine ifF (by decide) ?_
      refine ⟨_, rfl, (by show 1 ≤ sizeLine; decide), fun p hp => ?_⟩
      refine ⟨_, rfl, Cs 6, dx, _, .ref (Cs 4), .ref (Cs 4), _, rfl, rfl, rfl, stay_new hp, .own _, R.err 6 (by decide), R.kit 6 (by decide) 4 (by decide), _, rfl, ?_⟩
      refine ifF (by decide) ?_
      refine ⟨_, rfl, Cs 6, dx, _, .ref (Cs 6), .ref (Cs 6), _, rfl, rfl, rfl, stay_new hp, .own _, R.err 6 (by decide), R.kit 6 (by decide) 6 (by decide), _, rfl, ?_⟩
      refine ifT (by decide) ?_
      refine ⟨_, rfl, rfl, rfl, dx, _, v, rfl, stay_new hp, rfl, ?_⟩
      exact ⟨_, rfl, k _ (same_new (sS a dx _ _ ha hd0) hp)⟩
    · -- case 3
      refine ⟨_, rfl, rfl, _, rfl, ?_⟩
      refine ifF (by decide) ?_
      refine ⟨_, rfl, rfl, _, rfl, ?_⟩
      refine ifF (by decide) ?_
      refine ⟨_, rfl, rfl, _, rfl, ?_⟩
      refine ifF (by decide) ?_
      refine ⟨_, rfl, (by show 1 ≤ 1000; decide), fun a ha => ⟨a, v, rfl, (R.err 5 (by decide)).ox, R.noF 5 (by decide), upd_same, fun dx hdx hne => ?_⟩⟩
      have hd0 : H dx = none := by rw [upd_ne hne] at hdx; exact hdx
      refine ⟨rfl, dx, _, upd_same, (upd_ne hne).trans upd_same, hd0, true, R.exm 5 (by decide), fun _ a0 _ => ?_, fun q => nomatch q⟩
      refine ⟨_, rfl, Cs 5, dx, _, .ref (Cs 0), .ref (Cs 0), _, rfl, rfl, rfl, upd_same, .own _, R.err 5 (by decide), R.kit 5 (by decide) 0 (by decide), _, rfl, ?_⟩
      refine ifF (by decide) ?_
      refine ⟨_, rfl, (by show 1 ≤ sizeLine; decide), fun p hp => ?_⟩
      refine ⟨_, rfl, Cs 5, dx, _, .ref (Cs 4), .ref (Cs 4), _, rfl, rfl, rfl, stay_new hp, .own _, R.err 5 (by decide), R.kit 5 (by decide) 4 (by decide), _, rfl, ?_⟩
      refine ifF (by decide) ?_
      refine ⟨_, rfl, Cs 5, dx, _, .ref (Cs 6), .ref (Cs 6), _, rfl, rfl, rfl, stay_new hp, .own _, R.err 5 (by decide), R.kit 5 (by decide) 6 (by decide), _, rfl, ?_⟩
      refine ifF (by decide) ?_
      refine ⟨_, rfl, Cs 5, dx, _, .ref (Cs 5), .ref (Cs 5), _, rfl, rfl, rfl, stay_new hp, .own _, R.err 5 (by decide), R.kit 5 (by decide) 5 (by decide), _, rfl, ?_⟩
      refine ifT (by decide) ?_
      refine ⟨_, rfl, rfl, rfl, dx, _, v, rfl, stay_new hp, rfl, ?_⟩
      exact ⟨_, rfl, k _ (same_new (sS a dx _ _ ha hd0) hp)⟩
theorem scRt : FnScope ["_law_error", "_law_number", "_law_thing", "_law_flags"] ["_law_error", "_law_number", "_law_thing"] (defScope sRight) := ⟨rfl, rfl, rfl, by decide +kernel, rfl, by decide +kernel, by decide +kernel⟩
def spRight (K : PySem.W.Frag) (Cs : Nat → Addr) : Sp := fun vs H Q _ => ∃ (a : Addr) (n : Nat) (v t : V), vs = [.ref a, .int (n : Int), t] ∧ n < 26 ∧ ErrFull Cs H a n v ∧ (n < 7 → t = v ∧ TrV K H 38 v) ∧ ∀ H', Same H H' → Q (.bl true) H'
theorem ok_right {f fC fF fS : Addr} {fd fdC fdF fdS : FuncData} (F : Fun K "_law_right" "_law_right" sRight f fd) (T : TxB mg) (T2 : TxC mg) (R : ErrT K mg Cs CE)
    (FC : Fun K "_law_classes" "_law_classes" sClasses fC fdC) (bC : Binds K fdC ["_law_error"] []) (mC : mg "_law_classes" = some (.ref fC))
    (FF : Fun K "_law_field" "_law_field" sField fF fdF) (bF : Binds K fdF ["_law_error", "_law_number"] []) (mF : mg "_law_field" = some (.ref fF))
    (FS : Fun K "_law_is" "_law_is" sIs fS fdS) (bS : Binds K fdS ["_law_told", "_law_due"] []) (mS : mg "_law_is" = some (.ref fS)) : FnOk P w K mg base CX0 41 f fd ["_law_error", "_law_number", "_law_thing"] (spRight K Cs) := by
  have GC : FnOk P w K mg base CX0 1 fC fdC ["_law_error"] (spClasses Cs) := ok_classes FC T R
  have GF : FnOk P w K mg base CX0 1 fF fdF ["_law_error", "_law_number"] (spField Cs) := ok_field FF R
  have GS : FnOk P w K mg base CX0 40 fS fdS ["_law_told", "_law_due"] (spIs K 39) := ok_is FS T T2 mS bS 39
  refine F.ok scRt (fun vs H Q E h => ?_) (fun cdv A outer s H vs Q E hr h => ?_)
  · obtain ⟨a, n, v, t, rfl, _⟩ := h
    rfl
  · obtain ⟨a, n, v, t, rfl, hn, hE, hv, k⟩ := h
    have nd := scRt.nd
    have hr1 := hr.mono (show 1 ≤ 40 by decide)
    refine ⟨_, pss_cons (ps_set (i := 3) nd rfl (Or.inl rfl) (pe_call GC hr1 (by rfl) mC FC.kp bC .nil pass0 (pa_cons (pv 0) pa_nil)))
      (pss_cons (ps_if (PW.pt (pw_or (pt_not (pt_val (pe_ix ix_list (pv 3) (pv 1) (fun _ _ => rfl)))) (pw_or (pt_cmpR op_ne (pe_bm PySem.F.plainAttrs_list PySem.F.slot_list_count PySem.F.type_list_count mt_countB (pv 3) (pa_cons pe_bl pa_nil)) pe_int (nomark _))
          (pw_or1 (pt_cmpR op_ne (pe_callB call_len (by rfl) T.len PySem.boot_len (pa_cons (pv 3) pa_nil)) pe_int (nomark _)))))) (pss_one (ps_ret pe_bl)) pss_nil)
      (pss_cons (ps_if (PW.pt (pw_or (pt_not (pt_val (pe_callB call_isX (by rfl) T.isinstance (by decide +kernel) (pa_cons (pv 0) (pa_cons (pe_glob (v := .ref CE) (by rfl) R.gE rfl) pa_nil)))))
          (pw_or1 (pt_not (pt_val (pe_callB call_isX (by rfl) T.isinstance (by decide +kernel) (pa_cons (pv 0) (pa_cons (pe_bltn (v := .ty "ValueError") (by rfl) R.vE (by decide +kernel) rfl) pa_nil)))))))) (pss_one (ps_ret pe_bl)) pss_nil)
      (pss_one (ps_ret (pe_or (pe_cmpR op_gt (pv 1) pe_int (nomark _)) (pe_one (pe_call GS hr (by rfl) mS FS.kp bS .nil pass0 (pa_cons (pe_lst (pa_cons (pe_call GF hr1 (by rfl) mF FF.kp bF .nil pass0 (pa_cons (pv 0) (pa_cons (pv 1) pa_nil))) pa_nil)) (pa_cons (pe_lst (pa_cons (pv 2) pa_nil)) pa_nil))))))))), ?_⟩
    have e26 : flags n 26 = ((List.range 26).map fun j => decide (n = j)).map V.bl := by
      unfold flags
      rw [List.map_map] <;> rfl
    have hcnt : ∀ m, m < 26 → ((List.range 26).map fun j => decide (m = j)).count true = 1 := by decide
    have hget : (flags n 26)[n]? = some (.bl (decide (n = n))) := by
      unfold flags
      rw [List.getElem?_map, List.getElem?_range hn]
      rfl
    refine ⟨_, rfl, a, n, rfl, hn, hE.at, fun p H1 s1 _ hp => ?_⟩
    have hE1 := (hE.same s1).at
    refine ⟨_, rfl, _, rfl, p, _, _, _, rfl, rfl, SqL.of hp, atI_nat hget, _, rfl, ?_⟩
    refine ifF (by simp) ?_
    refine ⟨_, rfl, .inl ⟨rfl, _, SqL.of hp⟩, p, _, true, rfl, rfl, (by rw [← e26]; exact SqL.of hp), rfl, _, rfl, ?_⟩
    refine ifF (by rw [hcnt n hn]; decide) ?_
    refine ⟨_, rfl, _, _, rfl, .inl ⟨_, SqL.of hp, rfl⟩, rfl, _, rfl, ?_⟩
    have hl26 : (flags n 26).length = 26 := by unfold flags; rw [List.length_map, List.length_range]
    refine ifF (by rw [hl26]; decide) ?_
    refine ⟨_, rfl, a, Cs n, .ref CE, .ref CE, _, rfl, hE1, .own _, R.err n hn, R.kitC n hn, _, rfl, ?_⟩
    refine ifF (by decide) ?_
    refine ⟨_, rfl, a, Cs n, .ty "ValueError", .type "ValueError", _, rfl, hE1, .ty _, R.err n hn, R.kitV n hn, _, rfl, ?_⟩
    refine ifF (by decide) ?_
    refine ⟨_, rfl, _, _, rfl, rfl, _, rfl, ?_⟩
    refine ite2 (fun _ => k _ s1) (fun c => ?_)
    have hn7 : n < 7 := by
      have : ¬ (6 : Int) < (n : Int) := fun z => c (decide_eq_true z)
      omega
    obtain ⟨rfl, hT⟩ := hv hn7
    refine ⟨_, rfl, _, rfl, a, n, t, rfl, hn7, hE.same s1, (by show 1 ≤ sizeLine; decide), fun q hq => ?_⟩
    refine ⟨_, rfl, (by show 1 ≤ sizeLine; decide), fun q2 hq2 => ?_⟩
    have s2 := same_new (o := .lst [t]) s1 hq
    have s3 := same_new (o := .lst [t]) s2 hq2
    refine ⟨.ref q, .ref q2, rfl, .inr (.inl ⟨q, q2, [t], rfl, rfl, .inl ⟨?_, upd_same⟩, (by show 1 ≤ 1000; decide), fun x hx => ?_⟩), fun H' s' => k H' fun b o e => s' b o (s3 b o e)⟩
    · rw [upd_ne (ne_of_none upd_same hq2)]
      exact upd_same
    · rw [List.mem_singleton] at hx
      subst hx
      exact hT.same s3
end
end K00

set_option Elab.async false
set_option linter.all false
set_option maxRecDepth 100000
set_option maxHeartbeats 2000000
namespace K00
open PySem L2
abbrev sLInit : Stmt := inClass (top 39) 0
abbrev sLEq : Stmt := inClass (top 39) 2
abbrev sMk : Stmt := top 40
/-- the attributes of the lot "once", its makers at t -/
def LF (t : Addr) : List (Str × V) := putF "_sums" .non (putF "makers" (.ref t) (putF "word" (.str "once") []))
theorem LF_eq (t : Addr) : LF t = [(("word" : Str), V.str "once"), (("makers" : Str), .ref t), (("_sums" : Str), .non)] := by
  unfold LF
  have h1 : ¬ (("word" : Str) = "makers") := by decide +kernel
  have h2 : ¬ (("word" : Str) = "_sums") := by decide +kernel
  have h3 : ¬ (("makers" : Str) = "_sums") := by decide +kernel
  simp only [putF, if_neg h1, if_neg h2, if_neg h3]
theorem LF_word (t : Addr) : (LF t).lookup ("word" : Str) = some (.str "once") := by
  rw [LF_eq]
  have h2 : (("word" : Str) == "word") = true := by decide +kernel
  simp only [List.lookup, h2]
theorem LF_makers (t : Addr) : (LF t).lookup ("makers" : Str) = some (.ref t) := by
  rw [LF_eq]
  have h1 : (("makers" : Str) == "word") = false := by decide +kernel
  have h2 : (("makers" : Str) == "makers") = true := by decide +kernel
  simp only [List.lookup, h1, h2]
/-- the lot of the law -/
def LotAt (CL : Addr) (H : Hp) (x : Addr) : Prop := ∃ dx t, H x = some (.ins CL dx (LF t)) ∧ H t = some (.tup [])
theorem LotAt.same {CL : Addr} {H H' : Hp} {x : Addr} (h : LotAt CL H x) (s : Same H H') : LotAt CL H' x := by
  obtain ⟨dx, t, h1, h2⟩ := h
  exact ⟨dx, t, s _ _ h1, s _ _ h2⟩
/-- what the written part says of Lot -/
structure LotT (K : PySem.W.Frag) (mg : Str → Option Value) (CL aW : Addr) : Prop where
  cl : Cls K CL
  nW : NoAttr K CL "word"
  nM : NoAttr K CL "makers"
  nS : NoAttr K CL "_sums"
  mgL : mg "Lot" = some (.ref CL)
  mgW : mg "WORDS" = some (.ref aW)
  words : ∀ H : Hp, SqT K H aW [.str "once", .str "loan", .str "free", .str "more"]
  str : mg "str" = none
  ha : PySem.W.findIn K (.ref CL) "__class__" = some (some (.builtin "object.__class__"))
  cg : PySem.W.specialIn K (.builtin "object.__class__") "__get__" = some (some (.builtin "getset_descriptor.__get__"))
  cTk : PySem.W.takesIn K (.builtin "object.__class__") = some true
  hm : PySem.W.mroIn K CL (.type "object") = some true
section
variable {P : Program} {w : World} {K : PySem.W.Frag} {mg : Str → Option Value} {base : Heap} {CL aW : Addr}
theorem scMk : FnScope ["word", "thing", "maker"] ["word", "thing"] (defScope sMk) := ⟨rfl, rfl, rfl, by decide +kernel, rfl, by decide +kernel, by decide +kernel⟩
def spMk : Sp := fun vs H Q _ => ∃ t : Addr, vs = [.str "once", .ref t] ∧ H t = some (.tup []) ∧ Q (.bl true) H
theorem ok_mk {f : Addr} {fd : FuncData} (F : Fun K "_is_makers" "_is_makers" sMk f fd) (T : TxB mg) (T2 : TxC mg) : FnOk P w K mg base CX0 1 f fd ["word", "thing"] spMk := by
  refine F.ok scMk (fun vs H Q E h => ?_) (fun cdv A outer s H vs Q E hr h => ?_)
  · obtain ⟨t, rfl, _⟩ := h
    rfl
  · obtain ⟨t, rfl, ht, k⟩ := h
    refine ⟨_, pss_cons (ps_if (pt_not (pt_val (pe_callB call_isi (by rfl) T.isinstance (by decide +kernel) (pa_cons (pv 1) (pa_cons (pe_bltn (v := .ty "tuple") (by rfl) T2.tuple (by decide +kernel) rfl) pa_nil))))) (pss_one (ps_ret pe_bl)) pss_nil)
      (pss_cons (ps_if (pt_cmpR op_ne (pv 0) pe_str (nomark _)) (pss_one (ps_ret (pe_cmpR op_eq (pe_callB call_len (by rfl) T.len PySem.boot_len (pa_cons (pv 1) pa_nil)) pe_int (nomark _)))) pss_nil)
      pss_never), ?_⟩
    refine ⟨_, rfl, _, _, _, _, _, rfl, .ty _, .base (.tup ht), kit_ty (r := true) (by decide +kernel), _, rfl, ?_⟩
    refine ifF (by decide) ?_
    refine ⟨_, rfl, rfl, _, rfl, ?_⟩
    refine ifT (by decide +kernel) ?_
    exact ⟨_, rfl, _, _, rfl, .inr ⟨_, SqT.of ht, rfl⟩, rfl, k⟩
theorem scLI : FnScope ["self", "word", "makers"] ["self", "word", "makers"] (defScope sLInit) := ⟨rfl, rfl, rfl, by decide +kernel, rfl, by decide +kernel, by decide +kernel⟩
def spLInit (CL : Addr) : Sp := fun vs H Q _ => ∃ (x dx m : Addr), vs = [.ref x, .str "once", .ref m] ∧ H x = some (.ins CL dx []) ∧ H m = some (.tup []) ∧ ∀ H', (∀ b o, b ≠ x → H b = some o → H' b = some o) → LotAt CL H' x → Q .non H'
theorem ok_linit {f fM : Addr} {fd fdM : FuncData} (F : Fun K "__init__" "Lot.__init__" sLInit f fd) (T : TxB mg) (T2 : TxC mg) (L : LotT K mg CL aW)
    (FM : Fun K "_is_makers" "_is_makers" sMk fM fdM) (bM : Binds K fdM ["word", "thing"] []) (mM : mg "_is_makers" = some (.ref fM)) : FnOk P w K mg base CX0 2 f fd ["self", "word", "makers"] (spLInit CL) := by
  have GM : FnOk P w K mg base CX0 1 fM fdM ["word", "thing"] spMk := ok_mk FM T T2
  refine F.ok scLI (fun vs H Q E h => ?_) (fun cdv A outer s H vs Q E hr h => ?_)
  · obtain ⟨x, dx, m, rfl, _⟩ := h
    rfl
  · obtain ⟨x, dx, m, rfl, hx, hm, k⟩ := h
    refine ⟨_, pss_cons (ps_if (PW.pt (pw_or (pt_not (pt_val (pe_callB call_isi (by rfl) T.isinstance (by decide +kernel) (pa_cons (pv 1) (pa_cons (pe_bltn (v := .ty "str") (by rfl) L.str (by decide +kernel) rfl) pa_nil)))))
        (pw_or1 (pt_cmpR op_notIn_seq (pv 1) (pe_glob (v := .ref aW) (by rfl) L.mgW rfl) (by rfl))))) (pss_one ps_never) pss_nil)
      (pss_cons (ps_if (pt_not (pt_val (pe_call GM hr (by rfl) mM FM.kp bM .nil pass0 (pa_cons (pv 1) (pa_cons (pv 2) pa_nil))))) (pss_one ps_never) pss_nil)
      (pss_cons (ps_fld (pv 0) (pv 1) rfl)
      (pss_cons (ps_fld (pv 0) (pe_tup pa_nil) rfl)
      (pss_cons (ps_fld (pv 0) pe_non rfl)
      (pss_one (ps_if (pt_cmpR op_eq (pv 1) pe_str (nomark _)) (pss_one ps_never) pss_nil)))))), ?_⟩
    refine ⟨_, rfl, _, _, _, _, _, rfl, .ty _, .base (.str _), kit_ty (r := true) (by decide +kernel), _, rfl, ?_⟩
    refine ifF (by decide) ?_
    refine ⟨_, rfl, aW, _, rfl, .inr (L.words H), rfl, rfl, _, rfl, ?_⟩
    refine ifF (by decide +kernel) ?_
    refine ⟨_, rfl, _, rfl, m, rfl, hm, _, rfl, ?_⟩
    refine ifF (by decide) ?_
    refine ⟨_, rfl, _, rfl, x, CL, dx, _, rfl, hx, L.cl, L.nW, (by show 0 < 1000; decide), ?_⟩
    refine ⟨(by show 0 ≤ sizeLine; decide), fun t ht => ?_⟩
    have htx : t ≠ x := fun z => by rw [z, upd_same] at ht; cases ht
    have hxt : (upd (upd H x (.ins CL dx (putF "word" (.str "once") []))) t (.tup [])) x = some (.ins CL dx (putF "word" (.str "once") [])) := by rw [upd_ne htx.symm, upd_same]
    refine ⟨_, rfl, x, CL, dx, _, rfl, hxt, L.cl, L.nM, (by show 1 < 1000; decide), ?_⟩
    refine ⟨_, rfl, x, CL, dx, _, rfl, upd_same, L.cl, L.nS, ?_, ?_⟩
    · have h1 : ¬ (("word" : Str) = "makers") := by decide +kernel
      simp only [putF, if_neg h1]
      show 2 < 1000
      decide
    · refine ⟨_, rfl, rfl, _, rfl, ?_⟩
      refine ifF (by decide +kernel) ?_
      refine k _ (fun b o hb e => ?_) ⟨dx, t, upd_same, ?_⟩
      · have hbt : b ≠ t := fun z => by
          rw [z] at e
          rw [upd_ne htx, e] at ht
          cases ht
        rw [upd_ne hb, upd_ne hb, upd_ne hbt, upd_ne hb]
        exact e
      · rw [upd_ne htx, upd_ne htx, upd_same]
theorem scLE : FnScope ["self", "other"] ["self", "other"] (defScope sLEq) := ⟨rfl, rfl, rfl, by decide +kernel, rfl, by decide +kernel, by decide +kernel⟩
def RLot (CL : Addr) : Addr → Addr → Hp → Prop := fun a b H => a = b ∧ LotAt CL H a
theorem ok_leq {f : Addr} {fd : FuncData} (F : Fun K "__eq__" "Lot.__eq__" sLEq f fd) (T : TxB mg) (L : LotT K mg CL aW) : FnOk P w K mg base CX0 1 f fd ["self", "other"] (spEq (RLot CL)) := by
  refine F.ok scLE (fun vs H Q E h => ?_) (fun cdv A outer s H vs Q E hr h => ?_)
  · obtain ⟨a, b, rfl, _⟩ := h
    rfl
  · obtain ⟨a, b, rfl, ⟨rfl, dx, t, hx, ht⟩, k⟩ := h
    refine ⟨_, pss_one (ps_ret (pe_and (pe_callB call_isi (by rfl) T.isinstance (by decide +kernel) (pa_cons (pv 1) (pa_cons (pe_glob (v := .ref CL) (by rfl) L.mgL rfl) pa_nil)))
      (pe_and (pe_cmpR op_eq (pe_fld (pv 0) rfl) (pe_fld (pv 1) rfl) (nomark _)) (pe_one (pe_cmpR (op_eqD hr.units) (pe_fld (pv 0) rfl) (pe_fld (pv 1) rfl) (nomark _)))))), ?_⟩
    refine ⟨_, rfl, _, _, _, _, true, rfl, .own _, .base (.ins hx L.cl L.ha L.cg L.cTk L.hm), (by unfold PySem.W.kitOne; rw [if_pos (beq_self_eq_true _)]), _, rfl, ?_⟩
    refine iteT ?_
    refine ⟨_, rfl, a, CL, dx, _, _, rfl, hx, L.cl, L.nW, LF_word t, _, rfl, a, CL, dx, _, _, rfl, hx, L.cl, L.nW, LF_word t, rfl, _, rfl, ?_⟩
    refine ifT (decide_eq_true rfl) ?_
    refine ⟨_, rfl, a, CL, dx, _, _, rfl, hx, L.cl, L.nM, LF_makers t, _, rfl, a, CL, dx, _, _, rfl, hx, L.cl, L.nM, LF_makers t, .tuple [], .tuple [], .tup (SqT.of ht) .nil, .tup (SqT.of ht) .nil, rfl, rfl, ?_⟩
    exact k _ fun _ _ e => e
end
end K00

set_option Elab.async false
set_option linter.all false
set_option maxRecDepth 100000
set_option maxHeartbeats 5000000
namespace K00
open PySem L2
abbrev sLaw : Stmt := top 51
/-- a def of the text that is called: where it stands, how its arguments bind -/
structure Fn (K : PySem.W.Frag) (mg : Str → Option Value) (x : Str) (st : Stmt) (ps : List Str) (f : Addr) (fd : FuncData) : Prop where
  F : Fun K x x st f fd
  b : Binds K fd ps []
  m : mg x = some (.ref f)
theorem del_same_of {H H' : Hp} {p : Addr} (s : Same H H') : Same (del H p) (del H' p) := fun b o e => by
  by_cases hb : b = p
  · rw [hb, del_same] at e; cases e
  · rw [del_ne hb] at e ⊢; exact s b o e
theorem del_off {H H' : Hp} {p : Addr} (k : ∀ b, b ≠ p → H' b = H b) : Same (del H p) (del H' p) := fun b o e => by
  by_cases hb : b = p
  · rw [hb, del_same] at e; cases e
  · rw [del_ne hb] at e ⊢; rw [k b hb]; exact e
theorem del_le {H : Hp} {p : Addr} : Same (del H p) H := fun b o e => by
  by_cases hb : b = p
  · rw [hb, del_same] at e; cases e
  · rw [del_ne hb] at e; exact e
theorem same_trans {H H' H'' : Hp} (a : Same H H') (b : Same H' H'') : Same H H'' := fun c o e => b c o (a c o e)
theorem HandAt.same {H H' : Hp} {p c : Addr} {cells : List Int} (h : HandAt H p c cells) (s : Same H H') : HandAt H' p c cells := by
  obtain ⟨⟨i, z, s0, n, hi, e⟩, l⟩ := h
  exact ⟨⟨i, z, s0, n, hi, s _ _ e⟩, s _ _ l⟩
theorem lotAt_del {CL : Addr} {H : Hp} {p x : Addr} {l : List V} (hp : H p = some (.lst l)) (h : LotAt CL H x) : LotAt CL (del H p) x := by
  obtain ⟨dx, t, h1, h2⟩ := h
  exact ⟨dx, t, by rw [del_ne (ne_of h1 hp (fun z => by cases z))]; exact h1, by rw [del_ne (ne_of h2 hp (fun z => by cases z))]; exact h2⟩
theorem same_refl (H : Hp) : Same H H := fun _ _ e => e
theorem same_new2 {H H' : Hp} {p : Addr} {o o' : HO} (s : Same H H') (hp : H' p = none) : Same H (upd (upd H' p o) p o') := fun b u e => by
  have hb := ne_of_none (s b u e) hp
  rw [upd_ne hb, upd_ne hb]; exact s b u e
theorem tr_fl {K : PySem.W.Frag} {H : Hp} {n : Nat} {v : V} (h : fl v = true) : TrV K H (n + 1) v := .inl h
theorem tr_tup {K : PySem.W.Frag} {H : Hp} {n : Nat} {t : Addr} {xs : List V} (e : H t = some (.tup xs)) (hl : xs.length ≤ 1000) (hx : ∀ x ∈ xs, TrV K H n x) : TrV K H (n + 1) (.ref t) := .inr (.inl ⟨t, xs, rfl, .inr e, hl, hx⟩)
theorem tr_lst {K : PySem.W.Frag} {H : Hp} {n : Nat} {t : Addr} {xs : List V} (e : H t = some (.lst xs)) (hl : xs.length ≤ 1000) (hx : ∀ x ∈ xs, TrV K H n x) : TrV K H (n + 1) (.ref t) := .inr (.inl ⟨t, xs, rfl, .inl e, hl, hx⟩)
theorem tr_dict {K : PySem.W.Frag} {H : Hp} {n : Nat} {t : Addr} {z : Str} {i : Int} (e : H t = some (.dK [(Sum.inr z, .int i)])) : TrV K H (n + 2) (.ref t) := .inr (.inr ⟨Nat.succ_pos _, t, z, i, rfl, e⟩)
/-- what stands before the errors are made: the hand, the lot, what was drawn -/
structure Ready (K : PySem.W.Frag) (CL : Addr) (H : Hp) (p c : Addr) (cells : List Int) (x tl : Addr) (ts : List V) : Prop where
  hand : HandAt H p c cells
  lot : LotAt CL (del H p) x
  told : del H p tl = some (.lst ts)
  len : ts.length = 7
  tr : ∀ v ∈ ts, TrV K (del H p) 38 v
theorem Ready.same {K : PySem.W.Frag} {CL : Addr} {H H' : Hp} {p c : Addr} {cells : List Int} {x tl : Addr} {ts : List V} (h : Ready K CL H p c cells x tl ts) (s : Same H H') : Ready K CL H' p c cells x tl ts :=
  ⟨h.hand.same s, h.lot.same (del_same_of s), del_same_of s _ _ h.told, h.len, fun v hv => (h.tr v hv).same (del_same_of s)⟩
section
variable {P : Program} {w : World} {K : PySem.W.Frag} {mg : Str → Option Value} {base : Heap} {Cs fI : Nat → Addr} {CE CL aW : Addr} {fdI : Nat → FuncData}
def spLaw (K : PySem.W.Frag) : Sp := fun vs H Q _ => ∃ (a : Addr) (ns : List Int), vs = [.ref a] ∧ SqL K H a (ns.map V.int) ∧ ns.length ≤ 63 ∧ ∀ H', Q (.bl true) H'
theorem scW : FnScope ["_law_script", "_law_hand_here", "_law_lot", "_law_things", "_law_told", "_law_number", "_law_errors", "_law_error", "_law_which"] ["_law_script"] (defScope sLaw) := ⟨rfl, rfl, rfl, by decide +kernel, rfl, by decide +kernel, by decide +kernel⟩
theorem ex1_go {n : Nat} {v : V} {H : Hp} {Q : Addr → Hp → Prop} (hn : n < 7) (R : ErrT K mg Cs CE) (k : ∀ a H', Same H H' → H a = none → ErrFull Cs H' a n v → Q a H') :
    [v].length ≤ 1000 ∧ ∀ a, H a = none → spInit1 K (Cs n) (fld n) (.ref a :: ([v] ++ [])) (upd H a (exo a (Cs n) none)) (fun u H2 => u = .non ∧ ∃ (d : Addr) (fs : List (Str × V)), H2 a = some (exo a (Cs n) (some d)) ∧ H2 d = some (exd d fs) ∧ H d = none ∧
      ∀ a' G', upd (del H2 a) d (.xd fs) a' = none → G' = upd (upd (del H2 a) d (.xd fs)) a' (errO a' (.ref (Cs n)) (some d)) → Q a' G') (fun _ _ _ => False) := by
  refine ⟨(by show 1 ≤ 1000; decide), fun a ha => ⟨a, v, rfl, (R.err n (by omega)).ox, R.noF n hn, upd_same, fun dx hdx hne => ?_⟩⟩
  have hd0 : H dx = none := by rw [upd_ne hne] at hdx; exact hdx
  refine ⟨rfl, dx, [(fld n, v)], upd_same, (upd_ne hne).trans upd_same, hd0, fun a' G' fr e => ?_⟩
  have s1 : Same H (upd (del (upd (upd (upd H a (exo a (Cs n) none)) dx (exd dx [(fld n, v)])) a (exo a (Cs n) (some dx))) a) dx (.xd [(fld n, v)])) := fun b o e => by
    rw [upd_ne (ne_of_none e hd0), del_ne (ne_of_none e ha), upd_ne (ne_of_none e ha), upd_ne (ne_of_none e hd0), upd_ne (ne_of_none e ha)]
    exact e
  rw [e]
  exact k a' _ (same_new s1 fr) (same_none s1 fr) (.inl ⟨hn, dx, upd_same, stay_new fr⟩)
theorem ex0_go {n : Nat} {v : V} {H : Hp} {Q : Addr → Hp → Prop} (hn : 7 ≤ n) (k : ∀ a H', Same H H' → H a = none → ErrFull Cs H' a n v → Q a H') :
    ∀ a, H a = none → spInit0 [.ref a] (upd H a (errO a (.ref (Cs n)) none)) (fun u H2 => u = .non ∧ Q a H2) (fun _ _ _ => False) := fun a ha =>
  ⟨a, rfl, rfl, k a _ (same_new (fun _ _ e => e) ha) ha (.inr ⟨hn, upd_same⟩)⟩
/-- the first m errors of the list -/
def ErrsAt (Cs : Nat → Addr) (H : Hp) (es : List V) (m : Nat) (tv : Nat → V) : Prop := es.length = m ∧ ∀ i, i < m → ∃ a, es[i]? = some (.ref a) ∧ ErrFull Cs H a i (tv i)
theorem errs_nil {H : Hp} {tv : Nat → V} : ErrsAt Cs H [] 0 tv := ⟨rfl, fun i hi => by omega⟩
theorem ErrsAt.same {H H' : Hp} {es : List V} {m : Nat} {tv : Nat → V} (h : ErrsAt Cs H es m tv) (s : Same H H') : ErrsAt Cs H' es m tv := ⟨h.1, fun i hi => by
  obtain ⟨a, e, f⟩ := h.2 i hi
  exact ⟨a, e, f.same s⟩⟩
theorem ErrsAt.of_eq {H : Hp} {es es' : List V} {m : Nat} {tv : Nat → V} (h : ErrsAt Cs H es m tv) (e : es = es') : ErrsAt Cs H es' m tv := e ▸ h
theorem ErrsAt.snoc {H : Hp} {es : List V} {m : Nat} {tv : Nat → V} {a : Addr} (h : ErrsAt Cs H es m tv) (f : ErrFull Cs H a m (tv m)) : ErrsAt Cs H (es ++ [.ref a]) (m + 1) tv := by
  refine ⟨by rw [List.length_append, h.1]; rfl, fun i hi => ?_⟩
  by_cases hm : i < m
  · obtain ⟨b, e, q⟩ := h.2 i hm
    exact ⟨b, by rw [List.getElem?_append_left (by rw [h.1]; exact hm)]; exact e, q⟩
  · have e : i = m := by omega
    subst e
    exact ⟨a, by rw [List.getElem?_append_right (by rw [h.1]; exact Nat.le_refl _), h.1, Nat.sub_self]; rfl, f⟩
theorem ok_law {f fH fDr fSo fIs fDp fRa fRt fCl fFl fL fMk fEq : Addr} {fd fdH fdDr fdSo fdIs fdDp fdRa fdRt fdCl fdFl fdL fdMk fdEq : FuncData} (F : Fun K "law" "law" sLaw f fd) (T : TxB mg) (T2 : TxC mg) (mE : mg "enumerate" = none) (R : ErrT K mg Cs CE) (G : ErrF K Cs fI fdI) (L : LotT K mg CL aW)
    (NH : Fn K mg "_law_hand" sHand ["_law_script"] fH fdH) (ND : Fn K mg "_law_draw" sDraw ["_law_hand_here", "_law_many"] fDr fdDr) (NS : Fn K mg "_law_some" sSome ["_law_hand_here", "_law_things"] fSo fdSo)
    (NI : Fn K mg "_law_is" sIs ["_law_told", "_law_due"] fIs fdIs) (NP : Fn K mg "_law_deep" sDeep ["_law_kind"] fDp fdDp) (NR : Fn K mg "_law_raised" sRaised ["_law_which", "_law_thing"] fRa fdRa)
    (NT : Fn K mg "_law_right" sRight ["_law_error", "_law_number", "_law_thing"] fRt fdRt) (NC : Fn K mg "_law_classes" sClasses ["_law_error"] fCl fdCl) (NF : Fn K mg "_law_field" sField ["_law_error", "_law_number"] fFl fdFl)
    (NM : Fn K mg "_is_makers" sMk ["word", "thing"] fMk fdMk)
    (ML : Mk K CL fL) (FL : Fun K "__init__" "Lot.__init__" sLInit fL fdL) (bL : Binds K fdL ["self", "word", "makers"] [])
    (FE : Fun K "__eq__" "Lot.__eq__" sLEq fEq fdEq) (bE : Binds K fdEq ["self", "other"] []) (hsE : PySem.W.findIn K (.ref CL) "__eq__" = some (some (.ref fEq))) (hfE : PySem.W.isFn K (.ref fEq) = true) :
    FnOk P w K mg base CX0 46 f fd ["_law_script"] (spLaw K) := by
  have GH : FnOk P w K mg base CX0 1 fH fdH ["_law_script"] (spHand K) := ok_hand NH.F T
  have GD : FnOk P w K mg base CX0 1 fDr fdDr ["_law_hand_here", "_law_many"] spDraw := ok_draw ND.F T
  have GS : FnOk P w K mg base CX0 2 fSo fdSo ["_law_hand_here", "_law_things"] (spSome K) := ok_some NS.F T ND.F ND.b ND.m
  have GI : FnOk P w K mg base CX0 40 fIs fdIs ["_law_told", "_law_due"] (spIs K 39) := ok_is NI.F T T2 NI.m NI.b 39
  have GP : FnOk P w K mg base CX0 1 fDp fdDp ["_law_kind"] (spDeep K) := ok_deep NP.F T
  have GR : FnOk P w K mg base CX0 3 fRa fdRa ["_law_which", "_law_thing"] spRaised := ok_raised NR.F T R G
  have GT : FnOk P w K mg base CX0 41 fRt fdRt ["_law_error", "_law_number", "_law_thing"] (spRight K Cs) := ok_right NT.F T T2 R NC.F NC.b NC.m NF.F NF.b NF.m NI.F NI.b NI.m
  have GL : FnOk P w K mg base CX0 2 fL fdL ["self", "word", "makers"] (spLInit CL) := ok_linit FL T T2 L NM.F NM.b NM.m
  have GE : FnOk P w K mg base CX0 1 fEq fdEq ["self", "other"] (spEq (RLot CL)) := ok_leq FE T L
  refine F.ok scW (fun vs H Q E h => ?_) (fun cdv A outer s H vs Q E hr h => ?_)
  · obtain ⟨a, ns, rfl, _⟩ := h
    rfl
  · obtain ⟨a, ns, rfl, hS, hlen, k⟩ := h
    have nd := scW.nd
    have hu := hu_of hr
    have hr1 := hr.mono (show 1 ≤ 45 by decide)
    have hr2 := hr.mono (show 2 ≤ 45 by decide)
    have hr3 := hr.mono (show 3 ≤ 45 by decide)
    have hr40 := hr.mono (show 40 ≤ 45 by decide)
    have hr41 := hr.mono (show 41 ≤ 45 by decide)
    refine ⟨_, (pss_cons (ps_set (i := 1) nd rfl (Or.inr rfl) (pe_call GH hr1 (by rfl) NH.m NH.F.kp NH.b .nil pass0 (pa_cons (pv 0) pa_nil)))
      (Evl.pss_cut (ps_set (i := 2) nd rfl (Or.inl rfl) (pe_make ML GL hr3 (by rfl) L.mgL bL .nil pass0 (pa_cons pe_str (pa_cons (pe_tup pa_nil) pa_nil))))
      (pss_cons (ps_set (i := 3) nd rfl (Or.inr rfl) (pe_lst (pa_cons pe_str (pa_cons pe_str (pa_cons pe_int (pa_cons (pe_un un_neg pe_int) (pa_cons pe_int (pa_cons pe_non (pa_cons pe_bl (pa_cons (pe_tup (pa_cons pe_str (pa_cons pe_int pa_nil))) (pa_cons (pe_tup (pa_cons pe_str (pa_cons pe_int (pa_cons pe_int pa_nil)))) (pa_cons (pe_lst (pa_cons pe_int (pa_cons (pe_lst (pa_cons pe_int pa_nil)) pa_nil))) (pa_cons (pe_disp (pps_cons pe_str pe_int pps_nil) (by rfl) (by rfl) (fun z => by cases z) (by decide)) (pa_cons (pe_tup pa_nil) (pa_cons (pe_op op_pow pe_int pe_int) pa_nil)))))))))))))))
      (Evl.pss_cut (ps_expr (pe_bm PySem.F.plainAttrs_list PySem.F.slot_list_append PySem.F.type_list_append mt_append (pv 3) (pa_cons (pe_call GP hr1 (by rfl) NP.m NP.F.kp NP.b .nil pass0 (pa_cons pe_int pa_nil)) pa_nil)))
      (Evl.pss_cut (ps_setLc (i := 4) (own := [("_law_number", 5)]) (g := gName 5) (tt := tYes) rfl nd rfl rfl (sw_true rfl rfl rfl (by decide +kernel)) (pi_range1 (by rfl) T.range (pa_cons pe_int pa_nil)) (blkOk_by (N := ["_law_script", "_law_hand_here", "_law_lot", "_law_things", "_law_told", "_law_number", "_law_errors", "_law_error", "_law_which"]) (sc := defScope sLaw) (by decide +kernel))
        (fun _ _ _ _ _ => pg_name (i := 5) nd rfl (Or.inl rfl)) (fun _ _ _ _ _ => pts_nil) (fun _ _ _ _ _ => (pe_call GS hr2 (by rfl) NS.m NS.F.kp NS.b .nil pass0 (pa_cons (pv 1) (pa_cons (pv 3) pa_nil)))))
      (Evl.pss_cut (ps_set (i := 6) nd rfl (Or.inl rfl) (pe_lst (pa_cons (pe_held (pmk_oex (R.err 0 (by decide)).ox G.i0 G.t0 (ok_e0 (C := Cs 0) G.F0) hr2 G.b0 .nil pass0 (by rfl) R.m0 (pa_cons (pe_ix ix_list (pv 4) pe_int (fun _ _ => rfl)) pa_nil))) (pa_cons (pe_held (pmk_oex (R.err 1 (by decide)).ox G.i1 G.t1 (ok_e1 (C := Cs 1) G.F1) hr2 G.b1 .nil pass0 (by rfl) R.m1 (pa_cons (pe_ix ix_list (pv 4) pe_int (fun _ _ => rfl)) pa_nil))) (pa_cons (pe_held (pmk_oex (R.err 2 (by decide)).ox G.i2 G.t2 (ok_e2 (C := Cs 2) G.F2) hr2 G.b2 .nil pass0 (by rfl) R.m2 (pa_cons (pe_ix ix_list (pv 4) pe_int (fun _ _ => rfl)) pa_nil))) (pa_cons (pe_held (pmk_oex (R.err 3 (by decide)).ox G.i3 G.t3 (ok_e3 (C := Cs 3) G.F3) hr2 G.b3 .nil pass0 (by rfl) R.m3 (pa_cons (pe_ix ix_list (pv 4) pe_int (fun _ _ => rfl)) pa_nil))) (pa_cons (pe_held (pmk_oex (R.err 4 (by decide)).ox G.i4 G.t4 (ok_e4 (C := Cs 4) G.F4) hr2 G.b4 .nil pass0 (by rfl) R.m4 (pa_cons (pe_ix ix_list (pv 4) pe_int (fun _ _ => rfl)) pa_nil))) (pa_cons (pe_held (pmk_oex (R.err 5 (by decide)).ox G.i5 G.t5 (ok_e5 (C := Cs 5) G.F5) hr2 G.b5 .nil pass0 (by rfl) R.m5 (pa_cons (pe_ix ix_list (pv 4) pe_int (fun _ _ => rfl)) pa_nil))) pa_nil))))))))
      (Evl.pss_cut (ps_set (i := 6) nd rfl (Or.inl rfl) (pe_op op_cat (pv 6) (pe_lst (pa_cons (pe_held (pmk_oex (R.err 6 (by decide)).ox G.i6 G.t6 (ok_e6 (C := Cs 6) G.F6) hr2 G.b6 .nil pass0 (by rfl) R.m6 (pa_cons (pe_ix ix_list (pv 4) pe_int (fun _ _ => rfl)) pa_nil))) (pa_cons (pe_held0 (R.err 7 (by decide)).ox G.i7 G.t7 (ok_e7 G.F7) hr2 G.b7 pass0 (by rfl) R.m7) (pa_cons (pe_held0 (R.err 8 (by decide)).ox G.i8 G.t8 (ok_e8 G.F8) hr2 G.b8 pass0 (by rfl) R.m8) (pa_cons (pe_held0 (R.err 9 (by decide)).ox G.i9 G.t9 (ok_e9 G.F9) hr2 G.b9 pass0 (by rfl) R.m9) (pa_cons (pe_held0 (R.err 10 (by decide)).ox G.i10 G.t10 (ok_e10 G.F10) hr2 G.b10 pass0 (by rfl) R.m10) (pa_cons (pe_held0 (R.err 11 (by decide)).ox G.i11 G.t11 (ok_e11 G.F11) hr2 G.b11 pass0 (by rfl) R.m11) (pa_cons (pe_held0 (R.err 12 (by decide)).ox G.i12 G.t12 (ok_e12 G.F12) hr2 G.b12 pass0 (by rfl) R.m12) (pa_cons (pe_held0 (R.err 13 (by decide)).ox G.i13 G.t13 (ok_e13 G.F13) hr2 G.b13 pass0 (by rfl) R.m13) pa_nil)))))))))))
      (Evl.pss_cut (ps_set (i := 6) nd rfl (Or.inl rfl) (pe_op op_cat (pv 6) (pe_lst (pa_cons (pe_held0 (R.err 14 (by decide)).ox G.i14 G.t14 (ok_e14 G.F14) hr2 G.b14 pass0 (by rfl) R.m14) (pa_cons (pe_held0 (R.err 15 (by decide)).ox G.i15 G.t15 (ok_e15 G.F15) hr2 G.b15 pass0 (by rfl) R.m15) (pa_cons (pe_held0 (R.err 16 (by decide)).ox G.i16 G.t16 (ok_e16 G.F16) hr2 G.b16 pass0 (by rfl) R.m16) (pa_cons (pe_held0 (R.err 17 (by decide)).ox G.i17 G.t17 (ok_e17 G.F17) hr2 G.b17 pass0 (by rfl) R.m17) (pa_cons (pe_held0 (R.err 18 (by decide)).ox G.i18 G.t18 (ok_e18 G.F18) hr2 G.b18 pass0 (by rfl) R.m18) (pa_cons (pe_held0 (R.err 19 (by decide)).ox G.i19 G.t19 (ok_e19 G.F19) hr2 G.b19 pass0 (by rfl) R.m19) (pa_cons (pe_held0 (R.err 20 (by decide)).ox G.i20 G.t20 (ok_e20 G.F20) hr2 G.b20 pass0 (by rfl) R.m20) (pa_cons (pe_held0 (R.err 21 (by decide)).ox G.i21 G.t21 (ok_e21 G.F21) hr2 G.b21 pass0 (by rfl) R.m21) (pa_cons (pe_held0 (R.err 22 (by decide)).ox G.i22 G.t22 (ok_e22 G.F22) hr2 G.b22 pass0 (by rfl) R.m22) pa_nil))))))))))))
      (Evl.pss_cut (ps_set (i := 6) nd rfl (Or.inl rfl) (pe_op op_cat (pv 6) (pe_lst (pa_cons (pe_held0 (R.err 23 (by decide)).ox G.i23 G.t23 (ok_e23 G.F23) hr2 G.b23 pass0 (by rfl) R.m23) (pa_cons (pe_held0 (R.err 24 (by decide)).ox G.i24 G.t24 (ok_e24 G.F24) hr2 G.b24 pass0 (by rfl) R.m24) (pa_cons (pe_held0 (R.err 25 (by decide)).ox G.i25 G.t25 (ok_e25 G.F25) hr2 G.b25 pass0 (by rfl) R.m25) pa_nil))))))
      (Evl.pss_cut (ps_for PassesOwn.never rfl (pi_enum (by rfl) mE (pa_cons (pv 6) pa_nil)) (pg_tup rfl (pgs_cons (pg_name (i := 5) nd rfl (Or.inl rfl)) (pgs_cons (pg_name (i := 7) nd rfl (Or.inl rfl)) pgs_nil))) (pss_one (ps_if (pt_not (pt_val (pe_call GT hr41 (by rfl) NT.m NT.F.kp NT.b .nil pass0 (pa_cons (pv 7) (pa_cons (pv 5) (pa_cons (pe_ifExp (pt_cmpR op_lt (pv 5) pe_int (nomark _)) (pe_ix ix_list (pv 4) (pv 5) (fun _ _ => rfl)) pe_non) pa_nil)))))) (pss_one (ps_ret pe_bl)) pss_nil)))
      (Evl.pss_cut (ps_set (i := 8) nd rfl (Or.inl rfl) (pe_call GD hr1 (by rfl) ND.m ND.F.kp ND.b .nil pass0 (pa_cons (pv 1) (pa_cons pe_int pa_nil))))
      (pss_one (ps_ret (pe_and (pe_cmpR (op_eqG (rcG_ins (C := CL) (R := RLot CL) GE hsE hfE bE pass0) hr1) (pe_exF (pe_held (pmk_oex (R.err 0 (by decide)).ox G.i0 G.t0 (ok_e0 (C := Cs 0) G.F0) hr2 G.b0 .nil pass0 (by rfl) R.m0 (pa_cons (pv 2) pa_nil)))) (pv 2) (nomark _)) (pe_one (pe_call GI hr40 (by rfl) NI.m NI.F.kp NI.b .nil pass0 (pa_cons (pe_lst (pa_cons (pe_call GR hr3 (by rfl) NR.m NR.F.kp NR.b .nil pass0 (pa_cons (pv 8) (pa_cons (pe_ix ix_list (pv 4) (pv 8) (fun _ _ => rfl)) pa_nil))) pa_nil)) (pa_cons (pe_lst (pa_cons (pe_ix ix_list (pv 4) (pv 8) (fun _ _ => rfl)) pa_nil)) pa_nil)))))))))))))))))), ?_⟩
    -- the hand, the lot
    refine ⟨_, rfl, a, ns, rfl, hS, by omega, fun p c cells H1 s1 hp0 hA => ?_⟩
    have hpH1 : ∃ l, H1 p = some (.lst l) := by
      obtain ⟨⟨i, z, s0, n, _, e⟩, _⟩ := hA
      exact ⟨_, e⟩
    refine ⟨fun σ' H' => ∃ x, σ' = [some (.ref a), some (.ref p), some (.ref x), none, none, none, none, none, none] ∧ HandAt H' p c cells ∧ LotAt CL (del H' p) x, ?_, ?_⟩
    · refine ⟨(by show 0 ≤ sizeLine; decide), fun t ht => ?_⟩
      intro x dx nx ndx nex
      have htx : t ≠ x := ne_of_none upd_same nx
      have htd : t ≠ dx := ne_of_none upd_same ndx
      refine ⟨x, dx, t, rfl, upd_same, (by rw [upd_ne htx, upd_ne htd, upd_same]), fun H' kp hL => ⟨rfl, x, rfl, ?_, ?_⟩⟩
      all_goals
        have s2 : Same H1 H' := fun b o e => by
          have hbt : b ≠ t := ne_of_none e ht
          have e2 : upd H1 t (.tup []) b = some o := by rw [upd_ne hbt]; exact e
          have hbx : b ≠ x := ne_of_none e2 nx
          have hbd : b ≠ dx := ne_of_none e2 ndx
          exact kp b o hbx (by rw [upd_ne hbx, upd_ne hbd]; exact e2)
      · exact hA.same s2
      · obtain ⟨l, hl⟩ := hpH1
        exact lotAt_del (s2 _ _ hl) hL
    clear s1 hp0 hA hpH1 hS
    rintro _ H2 ⟨x, rfl, hA, hL⟩
    -- the things
    obtain ⟨l0, hl0⟩ : ∃ l, H2 p = some (.lst l) := by
      obtain ⟨⟨i, z, s0, n, _, e⟩, _⟩ := id hA
      exact ⟨_, e⟩
    refine ⟨_, rfl, (by show 2 ≤ sizeLine; decide), fun t1 h1 => ?_⟩
    refine ⟨(by show 3 ≤ sizeLine; decide), fun t2 h2 => ?_⟩
    refine ⟨(by show 1 ≤ sizeLine; decide), fun q1 h3 => ?_⟩
    refine ⟨(by show 2 ≤ sizeLine; decide), fun q2 h4 => ?_⟩
    intro d h5
    refine ⟨upd_same, [(Sum.inr "a", .int 1)], rfl, (by show 1 ≤ 15; decide), ?_⟩
    refine ⟨(by show 0 ≤ sizeLine; decide), fun t3 h6 => ?_⟩
    refine ⟨_, _, rfl, rfl, ⟨by decide, by decide, by decide⟩, (by show 13 ≤ sizeLine; decide), fun th h7 => ?_⟩
    refine ⟨fun σ' H' => ∃ th xs, σ' = [some (.ref a), some (.ref p), some (.ref x), some (.ref th), none, none, none, none, none] ∧ HandAt H' p c cells ∧ LotAt CL (del H' p) x ∧ del H' p th = some (.lst xs) ∧ xs.length = 14 ∧ ∀ v ∈ xs, TrV K (del H' p) 38 v, ?_, ?_⟩
    · refine ⟨_, rfl, .inl ⟨rfl, _, SqL.of upd_same⟩, rfl, fun v H' s8 hT => ?_⟩
      refine ⟨th, _, _, rfl, rfl, s8 _ _ upd_same, (by show 13 < sizeLine; decide), ?_⟩
      -- all that stood ahead of the list of things
      have z6 := same_new (o := .tup []) (same_refl _) h6
      have z5 := same_trans (same_new2 (same_refl _) h5) z6
      have z4 := same_trans (same_new (same_refl _) h4) z5
      have z3 := same_trans (same_new (same_refl _) h3) z4
      have z2 := same_trans (same_new (same_refl _) h2) z3
      have z1 := same_trans (same_new (same_refl _) h1) z2
      have e1 := z2 t1 _ upd_same
      have e2 := z3 t2 _ upd_same
      have e3 := z4 q1 _ upd_same
      have e4 := z5 q2 _ upd_same
      have e5 := z6 d _ upd_same
      have n3 : p ≠ q1 := ne_of_none (same_trans (same_new (same_refl _) h1) (same_new (same_refl _) h2) p _ hl0) h3
      have n4 : p ≠ q2 := ne_of_none (same_trans (same_new (same_refl _) h1) (same_trans (same_new (same_refl _) h2) (same_new (same_refl _) h3)) p _ hl0) h4
      generalize hG : upd (upd (upd (upd (upd (upd (upd H2 t1 _) t2 _) q1 _) q2 _) d _) d _) t3 _ = G6 at *
      have e6 : G6 t3 = some (.tup []) := by rw [← hG]; exact upd_same
      clear hG z2 z3 z4 z5 z6 h1 h2 h3 h4 h5 h6
      have g0 : G6 p = some (.lst l0) := z1 p _ hl0
      have npt : p ≠ th := ne_of_none g0 h7
      have n1 : t1 ≠ p := ne_of e1 g0 (fun z => by cases z)
      have n2 : t2 ≠ p := ne_of e2 g0 (fun z => by cases z)
      have n5 : d ≠ p := ne_of e5 g0 (fun z => by cases z)
      have n6 : t3 ≠ p := ne_of e6 g0 (fun z => by cases z)
      have s7 := same_new (o := .lst [.str "lot", .str "", .int 7, .int (-1), .int 0, .non, .bl true, .ref t1, .ref t2, .ref q2, .ref d, .ref t3, .int (10 ^ 29)]) (same_refl G6) h7
      have s8' := same_trans s7 s8
      have F9 : ∀ (o' : HO) b o, G6 b = some o → (upd H' th o') b = some o := fun o' b o e => by
        rw [upd_ne (ne_of_none e h7)]; exact s8' b o e
      refine ⟨th, _, rfl, hA.same (same_trans z1 (F9 _)), hL.same (del_same_of (same_trans z1 (F9 _))), (by rw [del_ne npt.symm]; exact upd_same), rfl, ?_⟩
      generalize HO.lst _ = o9
      have K9 : ∀ b o, b ≠ p → G6 b = some o → del (upd H' th o9) p b = some o := fun b o hb e => by rw [del_ne hb]; exact F9 o9 b o e
      intro u hu
      rcases List.mem_append.mp hu with hu' | hu'
      · simp only [List.mem_cons, List.not_mem_nil, or_false] at hu'
        rcases hu' with rfl | rfl | rfl | rfl | rfl | rfl | rfl | rfl | rfl | rfl | rfl | rfl | rfl
        · exact tr_fl (n := 37) rfl
        · exact tr_fl (n := 37) rfl
        · exact tr_fl (n := 37) rfl
        · exact tr_fl (n := 37) rfl
        · exact tr_fl (n := 37) rfl
        · exact tr_fl (n := 37) rfl
        · exact tr_fl (n := 37) rfl
        · refine tr_tup (n := 37) (K9 _ _ n1 e1) (by show 2 ≤ 1000; decide) fun y hy => ?_
          simp only [List.mem_cons, List.not_mem_nil, or_false] at hy
          rcases hy with rfl | rfl <;> exact tr_fl (n := 36) rfl
        · refine tr_tup (n := 37) (K9 _ _ n2 e2) (by show 3 ≤ 1000; decide) fun y hy => ?_
          simp only [List.mem_cons, List.not_mem_nil, or_false] at hy
          rcases hy with rfl | rfl | rfl <;> exact tr_fl (n := 36) rfl
        · refine tr_lst (n := 37) (K9 _ _ n4.symm e4) (by show 2 ≤ 1000; decide) fun y hy => ?_
          simp only [List.mem_cons, List.not_mem_nil, or_false] at hy
          rcases hy with rfl | rfl
          · exact tr_fl (n := 36) rfl
          · refine tr_lst (n := 36) (K9 _ _ n3.symm e3) (by show 1 ≤ 1000; decide) fun y hy => ?_
            rw [List.mem_singleton] at hy
            subst hy
            exact tr_fl (n := 35) rfl
        · exact tr_dict (n := 36) (K9 _ _ n5 e5)
        · exact tr_tup (n := 37) (K9 _ _ n6 e6) (by show 0 ≤ 1000; decide) fun y hy => by cases hy
        · exact tr_fl (n := 37) rfl
      · rw [List.mem_singleton] at hu'
        subst hu'
        refine (hT.same fun b o e => ?_).up
        obtain ⟨q1', q2'⟩ := off_le e
        have hbt : b ≠ th := fun z => by rw [z, upd_same] at q1'; cases q1'
        have hbp : b ≠ p := fun z => by rw [z, upd_ne npt, g0] at q1'; cases q1'
        rw [del_ne hbp, upd_ne hbt]
        exact q2'
    clear hA hL hl0 l0
    rintro _ H3 ⟨th, xs, rfl, hA, hL, hth, hxl, hxt⟩
    -- what is drawn
    refine ⟨fun σ' H' => ∃ tl ts, σ' = [some (.ref a), some (.ref p), some (.ref x), some (.ref th), some (.ref tl), none, none, none, none] ∧ Ready K CL H' p c cells x tl ts, ?_, ?_⟩
    · refine ⟨7, rfl, by decide, by decide, fun D hD => ?_⟩
      have hpD : p ≠ D := by
        obtain ⟨⟨i, z, s0, n, _, e⟩, _⟩ := id hA
        exact ne_of_none e hD
      have htp : th ≠ p := fun z => by rw [z, del_same] at hth; cases hth
      refine lc_range (lo := 0) (n := (7 : Int).toNat) (fun i H' => HandAt H' p c cells ∧ Same (del H3 p) (del H' p) ∧ ∃ ts : List V, ts.length = i ∧ H' D = some (.lst ts) ∧ ∀ v ∈ ts, v ∈ xs)
        ⟨hA.same (same_new (same_refl _) hD), del_same_of (same_new (same_refl _) hD), [], rfl, upd_same, fun v hv => by cases hv⟩ ?_ ?_
      · rintro i H' hi ⟨hA', hs, ts, h1, h2, h3⟩
        have hi7 : i < 7 := hi
        refine ⟨rfl, ?_⟩
        refine yes_kept ?_
        refine ⟨_, rfl, _, rfl, p, c, th, cells, xs, rfl, hA', SqL.of (del_le th _ (hs th _ hth)), htp, by omega, by omega, fun kk v H'' hk hA'' offp => ?_⟩
        refine ⟨ts, (offp D hpD.symm).trans h2, (by rw [h1]; exact small1000 (by omega)), ?_, fun b o e => ?_, ts ++ [v], by rw [List.length_append, h1]; rfl, upd_same, fun u hu => ?_⟩
        · have hDc : c ≠ D := ne_of_none hA.cl hD
          obtain ⟨⟨i', z', s', n', hi', e'⟩, l'⟩ := id hA''
          exact ⟨⟨i', z', s', n', hi', by rw [upd_ne hpD]; exact e'⟩, by rw [upd_ne hDc]; exact l'⟩
        · have hbp : b ≠ p := fun z => by rw [z, del_same] at e; cases e
          have hbD : b ≠ D := ne_of_none (del_le b o e) hD
          have e2 := hs b o e
          rw [del_ne hbp] at e2
          rw [del_ne hbp, upd_ne hbD, offp b hbp]
          exact e2
        · rcases List.mem_append.mp hu with hu1 | hu1
          · exact h3 u hu1
          · rw [List.mem_singleton] at hu1
            subst hu1
            exact List.mem_of_getElem? hk
      · rintro H' ⟨hA', hs, ts, h1, h2, h3⟩
        exact ⟨D, ts, rfl, hA', hL.same hs, by rw [del_ne hpD.symm]; exact h2, h1, fun v hv => (hxt v (h3 v hv)).same hs⟩
    clear hA hL hth hxl hxt xs
    rintro _ H4 ⟨tl, ts, rfl, hR⟩
    -- the errors
    have hget : ∀ i, i < 7 → ts[i]? = some (ts.getD i .non) := fun i hi => by
      have hl : i < ts.length := by rw [hR.len]; exact hi
      rw [List.getD_eq_getElem?_getD, List.getElem?_eq_getElem hl] <;> rfl
    have hTr : ∀ i, i < 7 → TrV K (del H4 p) 38 (ts.getD i .non) := fun i hi => hR.tr _ (List.mem_of_getElem? (hget i hi))
    have hTl : ∀ H', Same H4 H' → H' tl = some (.lst ts) := fun H' s => s _ _ (del_le _ _ hR.told)
    generalize hg : (fun i => ts.getD i V.non) = tv at *
    have hget : ∀ i, i < 7 → ts[i]? = some (tv i) := fun i hi => by rw [hget i hi, ← hg]
    have hTr : ∀ i, i < 7 → TrV K (del H4 p) 38 (tv i) := fun i hi => by rw [← hg]; exact hTr i hi
    have sr := same_refl H4
    have sB := sr
    refine ⟨fun σ' H' => ∃ el es, σ' = [some (.ref a), some (.ref p), some (.ref x), some (.ref th), some (.ref tl), none, some (.ref el), none, none] ∧ Same H4 H' ∧ H' el = some (.lst es) ∧ ErrsAt Cs H' es 6 tv, ?_, ?_⟩
    · refine ⟨_, rfl, tl, _, _, tv 0, rfl, rfl, SqL.of (hTl _ sB), atI_nat (j := 0) (hget 0 (by decide)), ex1_go (n := 0) (v := tv 0) (by decide) R fun a0 G0 s0 n0 f0 => ?_⟩
      have S0 := same_trans sB s0
      have E0 := (errs_nil (Cs := Cs) (H := G0) (tv := tv)).snoc f0
      refine ⟨_, rfl, tl, _, _, tv 1, rfl, rfl, SqL.of (hTl _ S0), atI_nat (j := 1) (hget 1 (by decide)), ex1_go (n := 1) (v := tv 1) (by decide) R fun a1 G1 s1 n1 f1 => ?_⟩
      have S1 := same_trans S0 s1
      have E1 := (E0.same s1).snoc f1
      refine ⟨_, rfl, tl, _, _, tv 2, rfl, rfl, SqL.of (hTl _ S1), atI_nat (j := 2) (hget 2 (by decide)), ex1_go (n := 2) (v := tv 2) (by decide) R fun a2 G2 s2 n2 f2 => ?_⟩
      have S2 := same_trans S1 s2
      have E2 := (E1.same s2).snoc f2
      refine ⟨_, rfl, tl, _, _, tv 3, rfl, rfl, SqL.of (hTl _ S2), atI_nat (j := 3) (hget 3 (by decide)), ex1_go (n := 3) (v := tv 3) (by decide) R fun a3 G3 s3 n3 f3 => ?_⟩
      have S3 := same_trans S2 s3
      have E3 := (E2.same s3).snoc f3
      refine ⟨_, rfl, tl, _, _, tv 4, rfl, rfl, SqL.of (hTl _ S3), atI_nat (j := 4) (hget 4 (by decide)), ex1_go (n := 4) (v := tv 4) (by decide) R fun a4 G4 s4 n4 f4 => ?_⟩
      have S4 := same_trans S3 s4
      have E4 := (E3.same s4).snoc f4
      refine ⟨_, rfl, tl, _, _, tv 5, rfl, rfl, SqL.of (hTl _ S4), atI_nat (j := 5) (hget 5 (by decide)), ex1_go (n := 5) (v := tv 5) (by decide) R fun a5 G5 s5 n5 f5 => ?_⟩
      have S5 := same_trans S4 s5
      have E5 := (E4.same s5).snoc f5
      refine ⟨(by show 6 ≤ sizeLine; decide), fun q hq => ?_⟩
      exact ⟨q, _, rfl, same_new S5 hq, upd_same, (E5.same (same_new (same_refl _) hq)).of_eq (by simp)⟩
    rintro _ B6 ⟨el, es, rfl, sB, hel, hE⟩
    refine ⟨fun σ' H' => ∃ el es, σ' = [some (.ref a), some (.ref p), some (.ref x), some (.ref th), some (.ref tl), none, some (.ref el), none, none] ∧ Same H4 H' ∧ H' el = some (.lst es) ∧ ErrsAt Cs H' es 14 tv, ?_, ?_⟩
    · refine ⟨_, rfl, ?_⟩
      refine ⟨_, rfl, tl, _, _, tv 6, rfl, rfl, SqL.of (hTl _ sB), atI_nat (j := 6) (hget 6 (by decide)), ex1_go (n := 6) (v := tv 6) (by decide) R fun a6 G6 s6 n6 f6 => ?_⟩
      have S6 := same_trans sB s6
      have E6 := (hE.same s6).snoc f6
      have el6 := s6 _ _ hel
      refine ex0_go (n := 7) (v := tv 7) (by decide) fun a7 G7 s7 n7 f7 => ?_
      have S7 := same_trans S6 s7
      have E7 := (E6.same s7).snoc f7
      have el7 := s7 _ _ el6
      refine ex0_go (n := 8) (v := tv 8) (by decide) fun a8 G8 s8 n8 f8 => ?_
      have S8 := same_trans S7 s8
      have E8 := (E7.same s8).snoc f8
      have el8 := s8 _ _ el7
      refine ex0_go (n := 9) (v := tv 9) (by decide) fun a9 G9 s9 n9 f9 => ?_
      have S9 := same_trans S8 s9
      have E9 := (E8.same s9).snoc f9
      have el9 := s9 _ _ el8
      refine ex0_go (n := 10) (v := tv 10) (by decide) fun a10 G10 s10 n10 f10 => ?_
      have S10 := same_trans S9 s10
      have E10 := (E9.same s10).snoc f10
      have el10 := s10 _ _ el9
      refine ex0_go (n := 11) (v := tv 11) (by decide) fun a11 G11 s11 n11 f11 => ?_
      have S11 := same_trans S10 s11
      have E11 := (E10.same s11).snoc f11
      have el11 := s11 _ _ el10
      refine ex0_go (n := 12) (v := tv 12) (by decide) fun a12 G12 s12 n12 f12 => ?_
      have S12 := same_trans S11 s12
      have E12 := (E11.same s12).snoc f12
      have el12 := s12 _ _ el11
      refine ex0_go (n := 13) (v := tv 13) (by decide) fun a13 G13 s13 n13 f13 => ?_
      have S13 := same_trans S12 s13
      have E13 := (E12.same s13).snoc f13
      have el13 := s13 _ _ el12
      refine ⟨(by show 8 ≤ sizeLine; decide), fun q hq => ?_⟩
      refine ⟨_, q, _, _, rfl, rfl, (by rw [upd_ne (ne_of_none el13 hq)]; exact el13), upd_same, (by rw [hE.1]; show 6 + 8 ≤ sizeLine; decide), fun q2 hq2 => ?_⟩
      exact ⟨q2, _, rfl, same_trans S13 (same_trans (same_new (same_refl _) hq) (same_new (same_refl _) hq2)), upd_same, (E13.same (same_trans (same_new (same_refl _) hq) (same_new (same_refl _) hq2))).of_eq (by simp)⟩
    rintro _ B14 ⟨el, es, rfl, sB, hel, hE⟩
    refine ⟨fun σ' H' => ∃ el es, σ' = [some (.ref a), some (.ref p), some (.ref x), some (.ref th), some (.ref tl), none, some (.ref el), none, none] ∧ Same H4 H' ∧ H' el = some (.lst es) ∧ ErrsAt Cs H' es 23 tv, ?_, ?_⟩
    · refine ⟨_, rfl, ?_⟩
      refine ex0_go (n := 14) (v := tv 14) (by decide) fun a14 G14 s14 n14 f14 => ?_
      have S14 := same_trans sB s14
      have E14 := (hE.same s14).snoc f14
      have el14 := s14 _ _ hel
      refine ex0_go (n := 15) (v := tv 15) (by decide) fun a15 G15 s15 n15 f15 => ?_
      have S15 := same_trans S14 s15
      have E15 := (E14.same s15).snoc f15
      have el15 := s15 _ _ el14
      refine ex0_go (n := 16) (v := tv 16) (by decide) fun a16 G16 s16 n16 f16 => ?_
      have S16 := same_trans S15 s16
      have E16 := (E15.same s16).snoc f16
      have el16 := s16 _ _ el15
      refine ex0_go (n := 17) (v := tv 17) (by decide) fun a17 G17 s17 n17 f17 => ?_
      have S17 := same_trans S16 s17
      have E17 := (E16.same s17).snoc f17
      have el17 := s17 _ _ el16
      refine ex0_go (n := 18) (v := tv 18) (by decide) fun a18 G18 s18 n18 f18 => ?_
      have S18 := same_trans S17 s18
      have E18 := (E17.same s18).snoc f18
      have el18 := s18 _ _ el17
      refine ex0_go (n := 19) (v := tv 19) (by decide) fun a19 G19 s19 n19 f19 => ?_
      have S19 := same_trans S18 s19
      have E19 := (E18.same s19).snoc f19
      have el19 := s19 _ _ el18
      refine ex0_go (n := 20) (v := tv 20) (by decide) fun a20 G20 s20 n20 f20 => ?_
      have S20 := same_trans S19 s20
      have E20 := (E19.same s20).snoc f20
      have el20 := s20 _ _ el19
      refine ex0_go (n := 21) (v := tv 21) (by decide) fun a21 G21 s21 n21 f21 => ?_
      have S21 := same_trans S20 s21
      have E21 := (E20.same s21).snoc f21
      have el21 := s21 _ _ el20
      refine ex0_go (n := 22) (v := tv 22) (by decide) fun a22 G22 s22 n22 f22 => ?_
      have S22 := same_trans S21 s22
      have E22 := (E21.same s22).snoc f22
      have el22 := s22 _ _ el21
      refine ⟨(by show 9 ≤ sizeLine; decide), fun q hq => ?_⟩
      refine ⟨_, q, _, _, rfl, rfl, (by rw [upd_ne (ne_of_none el22 hq)]; exact el22), upd_same, (by rw [hE.1]; show 14 + 9 ≤ sizeLine; decide), fun q2 hq2 => ?_⟩
      exact ⟨q2, _, rfl, same_trans S22 (same_trans (same_new (same_refl _) hq) (same_new (same_refl _) hq2)), upd_same, (E22.same (same_trans (same_new (same_refl _) hq) (same_new (same_refl _) hq2))).of_eq (by simp)⟩
    rintro _ B23 ⟨el, es, rfl, sB, hel, hE⟩
    refine ⟨fun σ' H' => ∃ el es, σ' = [some (.ref a), some (.ref p), some (.ref x), some (.ref th), some (.ref tl), none, some (.ref el), none, none] ∧ Same H4 H' ∧ H' el = some (.lst es) ∧ ErrsAt Cs H' es 26 tv, ?_, ?_⟩
    · refine ⟨_, rfl, ?_⟩
      refine ex0_go (n := 23) (v := tv 23) (by decide) fun a23 G23 s23 n23 f23 => ?_
      have S23 := same_trans sB s23
      have E23 := (hE.same s23).snoc f23
      have el23 := s23 _ _ hel
      refine ex0_go (n := 24) (v := tv 24) (by decide) fun a24 G24 s24 n24 f24 => ?_
      have S24 := same_trans S23 s24
      have E24 := (E23.same s24).snoc f24
      have el24 := s24 _ _ el23
      refine ex0_go (n := 25) (v := tv 25) (by decide) fun a25 G25 s25 n25 f25 => ?_
      have S25 := same_trans S24 s25
      have E25 := (E24.same s25).snoc f25
      have el25 := s25 _ _ el24
      refine ⟨(by show 3 ≤ sizeLine; decide), fun q hq => ?_⟩
      refine ⟨_, q, _, _, rfl, rfl, (by rw [upd_ne (ne_of_none el25 hq)]; exact el25), upd_same, (by rw [hE.1]; show 23 + 3 ≤ sizeLine; decide), fun q2 hq2 => ?_⟩
      exact ⟨q2, _, rfl, same_trans S25 (same_trans (same_new (same_refl _) hq) (same_new (same_refl _) hq2)), upd_same, (E25.same (same_trans (same_new (same_refl _) hq) (same_new (same_refl _) hq2))).of_eq (by simp)⟩
    rintro _ B26 ⟨el, es, rfl, sB, hel, hE⟩
    -- each error is right
    refine ⟨fun σ' H' => ∃ v5 v7, σ' = [some (.ref a), some (.ref p), some (.ref x), some (.ref th), some (.ref tl), v5, some (.ref el), v7, none] ∧ Same B26 H', ?_, ?_⟩
    · refine ⟨_, rfl, el, es, rfl, SqL.of hel, ?_⟩
      refine for_it (walk_enum (xs := es)) (fun i σ H' => ∃ v5 v7, σ = [some (.ref a), some (.ref p), some (.ref x), some (.ref th), some (.ref tl), v5, some (.ref el), v7, none] ∧ Same B26 H') ⟨none, none, rfl, same_refl _⟩ (fun i σ H' _ ⟨_, _, _, s⟩ => SqL.of (s _ _ hel)) ?_ ?_
      · rintro i y σ H' H'' hi ⟨v5, v7, rfl, s⟩ ⟨T0, x0, y0, rfl, hT, rfl, hx0, hy0⟩
        cases hx0
        have hi26 : i < 26 := by rw [hE.1] at hi; exact hi
        obtain ⟨ai, e, fE⟩ := hE.2 i hi26
        have hy1 : es[i]? = some y0 := hy0
        rw [e] at hy1
        cases hy1
        have S1 : Same B26 (upd H' T0 (.tup [.int (i : Int), .ref ai])) := same_new s hT
        have S4 := same_trans sB S1
        refine ⟨T0, _, rfl, SqT.of upd_same, rfl, _, _, rfl, _, _, rfl, rfl, ?_⟩
        refine ⟨_, rfl, _, rfl, _, rfl, _, _, rfl, rfl, _, rfl, ?_⟩
        refine ite2 (fun c1 => ?_) (fun c1 => ?_)
        · have h7 : i < 7 := by have := of_decide_eq_true c1; omega
          refine ⟨_, rfl, _, rfl, tl, _, _, tv i, rfl, rfl, SqL.of (hTl _ S4), atI_nat (hget i h7), ai, i, tv i, tv i, rfl, hi26, fE.same S1, fun _ => ⟨rfl, (hTr i h7).same (same_trans del_le S4)⟩, fun H3' s3 => ⟨_, rfl, ?_⟩⟩
          refine ifF rfl ?_
          exact ⟨_, _, rfl, same_trans S1 s3⟩
        · have h7 : ¬ i < 7 := fun z => c1 (decide_eq_true (by omega))
          refine ⟨ai, i, tv i, .non, rfl, hi26, fE.same S1, fun z => absurd z h7, fun H3' s3 => ⟨_, rfl, ?_⟩⟩
          refine ifF rfl ?_
          exact ⟨_, _, rfl, same_trans S1 s3⟩
      · rintro σ H' ⟨v5, v7, rfl, s⟩
        exact ⟨v5, v7, rfl, s⟩
    rintro _ H6 ⟨v5, v7, rfl, s6⟩
    have hR6 := hR.same (same_trans sB s6)
    -- one that is raised
    refine ⟨fun σ' H' => ∃ j : Nat, j < 4 ∧ σ' = [some (.ref a), some (.ref p), some (.ref x), some (.ref th), some (.ref tl), v5, some (.ref el), v7, some (.int (j : Int))] ∧ Same (del H6 p) (del H' p), ?_, ?_⟩
    · refine ⟨_, rfl, p, c, cells, 4, rfl, hR6.hand, by decide, by decide, fun r H7 h0 h4 hA7 offp => ?_⟩
      rcases Int.eq_ofNat_of_zero_le h0 with ⟨j, rfl⟩
      exact ⟨j, by omega, rfl, del_off offp⟩
    rintro _ H7 ⟨j, hj, rfl, sd⟩
    have hL7 : LotAt CL H7 x := (hR6.lot.same sd).same del_le
    have hT7 : H7 tl = some (.lst ts) := del_le _ _ (sd _ _ hR6.told)
    have hj7 := hget j (by omega)
    have tr7 : TrV K H7 38 (tv j) := ((hR6.tr _ (List.mem_of_getElem? hj7)).same sd).same del_le
    refine ⟨_, rfl, ex1_go (n := 0) (v := .ref x) (by decide) R fun a0 G0 s0 n0 f0 => ?_⟩
    obtain ⟨dx0, e1, e2⟩ : ∃ dx, G0 a0 = some (errO a0 (.ref (Cs 0)) (some dx)) ∧ G0 dx = some (.xd [(("part" : Str), .ref x)]) := by
      rcases f0 with ⟨_, h⟩ | ⟨h, _⟩
      · exact h
      · omega
    refine ⟨a0, Cs 0, dx0, _, .ref x, rfl, R.err 0 (by decide), R.noF 0 (by decide), e1, e2, rfl, ?_⟩
    obtain ⟨dx, t, hx, ht⟩ := hL7.same s0
    refine ⟨_, rfl, ⟨x, x, dx, dx, _, _, rfl, rfl, hx, hx, rfl, dx, t, hx, ht⟩, fun H8 s8 => ⟨_, rfl, ?_⟩⟩
    refine iteT ?_
    have S8 : Same H7 H8 := same_trans s0 s8
    refine ⟨_, rfl, _, rfl, _, rfl, tl, _, _, tv j, rfl, rfl, SqL.of (S8 _ _ hT7), atI_nat hj7, (j : Int), tv j, rfl, by omega, by omega, fun H9 s9 => ?_⟩
    have S9 := same_trans S8 s9
    refine ⟨(by show 1 ≤ sizeLine; decide), fun q hq => ?_⟩
    have S10 := same_new (o := .lst [tv j]) S9 hq
    refine ⟨_, rfl, _, rfl, tl, _, _, tv j, rfl, rfl, SqL.of (S10 _ _ hT7), atI_nat hj7, (by show 1 ≤ sizeLine; decide), fun q2 hq2 => ?_⟩
    have S11 := same_new (o := .lst [tv j]) S10 hq2
    refine ⟨.ref q, .ref q2, rfl, .inr (.inl ⟨q, q2, [tv j], rfl, rfl, .inl ⟨?_, upd_same⟩, (by show 1 ≤ 1000; decide), fun y hy => ?_⟩), fun H' _ => k H'⟩
    · rw [upd_ne (ne_of_none upd_same hq2)]
      exact upd_same
    · rw [List.mem_singleton] at hy
      subst hy
      exact tr7.same S11

end
end K00

set_option Elab.async false
set_option linter.all false
set_option maxRecDepth 100000
set_option maxHeartbeats 5000000
namespace K00
open PySem L2
/-- a def of the text as the top has left it -/
def DefPack (K : PySem.W.Frag) (x : Str) (st : Stmt) (ps : List Str) : Prop := ∃ (f : Addr) (fd : FuncData), PySem.W.nsIn K mainGlobals x = some (some (.ref f)) ∧ Fun K x x st f fd ∧ Binds K fd ps []
theorem DefPack.fn {K : PySem.W.Frag} {h : Heap} {mg : Str → Option Value} {x : Str} {st : Stmt} {ps : List Str} (X : K.In h) (G : h.Ns mainGlobals mg) (d : DefPack K x st ps) : ∃ f fd, Fn K mg x st ps f fd := by
  obtain ⟨f, fd, a, F, b⟩ := d
  exact ⟨f, fd, F, b, PySem.W.mg_of X G a⟩
theorem def_mk {K : PySem.W.Frag} {x : Str} {st : Stmt} {ps : List Str} {f : Addr} {oc : Value} {od an : Option Addr} {osl : Array (Option Value)} {kV doc pm cdv ct : Value} (a : PySem.W.nsIn K mainGlobals x = some (some (.ref f)))
    (l : K.lookup f = some ⟨oc, od, .func (PySem.W.fnOf x x (defArgs st) (defBody st) (defScope st) .none kV doc pm an cdv ct), osl⟩) (c : PySem.W.codeIn K cdv x = true) (k : PySem.W.keepIn K (.ref f) = true)
    (h : ∀ (kV doc pm : Value) (an : Option Addr) (cdv ct : Value) (us : List Value), us.length = ps.length → bindArgs (PySem.W.fnOf x x (defArgs st) (defBody st) (defScope st) .none kV doc pm an cdv ct) ⟨us, []⟩ = pure (ps.zip us)) : DefPack K x st ps :=
  ⟨f, _, a, fun_mk l c k, (fun_mk l c k).binds h⟩
/-- an error class of the text as the top has left it -/
structure CF (K : PySem.W.Frag) (CE D : Addr) (nm : Str) : Prop where
  x : ∃ q N bs sn sub ab col dd k0 k1 k2 k3 k5, K.lookup D = some (excClassObj nm q D N bs [.ref CE, .type "ValueError", .type "Exception", .type "BaseException", .type "object"] true sn sub ab col dd k0 k1 k2 k3 k5 "ValueError.__new__")
  sa : PySem.W.findIn K (.ref D) "__setattr__" = some (some (.builtin "object.__setattr__"))
  ga : PySem.W.findIn K (.ref D) "__getattribute__" = some (some (.builtin "BaseException.__getattribute__"))
  gg : PySem.W.findIn K (.ref D) "__getattr__" = some none
  tyC : PySem.W.typeIn K (.ref D) = some (.type "type")
  kC : PySem.W.keepIn K (.ref D) = true
  haC : PySem.W.findIn K (.ref D) "__class__" = some (some (.builtin "object.__class__"))
theorem CF.cls {K : PySem.W.Frag} {CE C : Addr} {nm : Str} (h : CF K CE C nm) : ∃ cd, PySem.W.clsIn K C = some cd ∧ cd.name = nm ∧ cd.mro = [.ref C, .ref CE, .type "ValueError", .type "Exception", .type "BaseException", .type "object"] ∧ cd.hasDict = true := by
  obtain ⟨q, N, bs, sn, sub, ab, col, dd, k0, k1, k2, k3, k5, e⟩ := h.x
  refine ⟨_, by unfold PySem.W.clsIn; rw [e] <;> rfl, rfl, rfl, rfl⟩
theorem CF.ne {K : PySem.W.Frag} {CE C C' : Addr} {nm nm' : Str} (h : CF K CE C nm) (h' : CF K CE C' nm') (hn : nm ≠ nm') : C ≠ C' := fun z => by
  obtain ⟨cd, e, n, _⟩ := h.cls
  obtain ⟨cd', e', n', _⟩ := h'.cls
  rw [z, e'] at e
  cases e
  exact hn (n.symm.trans n')
theorem CF.mro {K : PySem.W.Frag} {CE C : Addr} {nm : Str} (h : CF K CE C nm) (b : Value) : PySem.W.mroIn K C b = some ([Value.ref C, .ref CE, .type "ValueError", .type "Exception", .type "BaseException", .type "object"].contains b) := by
  obtain ⟨cd, e, _, m, _⟩ := h.cls
  unfold PySem.W.mroIn
  rw [e, Option.bind_some, m]
  rfl
theorem CF.kitR {K : PySem.W.Frag} {CE C C' : Addr} {nm nm' : Str} (h : CF K CE C nm) (h' : CF K CE C' nm') : PySem.W.kitOne K (.ref C) (.ref C') = some (decide (C = C') || decide (C' = CE)) := by
  unfold PySem.W.kitOne
  by_cases e : C = C'
  · subst e
    rw [if_pos (beq_self_eq_true _), decide_eq_true rfl]
    rfl
  · have hbf : (Value.ref C == Value.ref C') = false := beq_eq_false_iff_ne.mpr fun z => e (Value.ref.inj z)
    rw [hbf, if_neg Bool.false_ne_true]
    obtain ⟨cd, ec, _⟩ := h'.cls
    show (if ((PySem.W.clsIn K C').isSome && PySem.W.typeIn K (.ref C') == some (.type "type")) = true then PySem.W.subIn K (.ref C) (.ref C') else none) = _
    rw [ec, h'.tyC, if_pos (by rfl)]
    show PySem.W.mroIn K C (.ref C') = _
    rw [h.mro]
    have e2 : ¬ C' = C := fun z => e z.symm
    by_cases e3 : C' = CE
    · subst e3; simp
    · simp [e, e2, e3]

theorem CF.errC {K : PySem.W.Frag} {CE C : Addr} {nm : Str} (h : CF K CE C nm) (hn : PySem.W.specialIn K (.builtin "object.__class__") "__get__" = some (some (.builtin "getset_descriptor.__get__"))) (ht : PySem.W.takesIn K (.builtin "object.__class__") = some true) : ErrC K C := by
  have exC : PySem.W.subIn K (.ref C) (.type "BaseException") = some true := (h.mro _).trans (by simp)
  have hd : PySem.W.hasDictIn K C = true := by
    obtain ⟨cd, e, _, _, d⟩ := h.cls
    unfold PySem.W.hasDictIn
    rw [e]
    exact d
  obtain ⟨q, N, bs, sn, sub, ab, col, dd, k0, k1, k2, k3, k5, e⟩ := h.x
  exact ⟨⟨⟨nm, q, N, bs, _, sn, sub, ab, col, dd, k0, k1, k2, k3, k5, e, (show PySem.HandSPX.refsVE [.type "ValueError", .type "Exception", .type "BaseException", .type "object"] = true by decide +kernel)⟩, h.sa, exC, h.tyC, h.kC⟩, ⟨h.ga, h.gg, exC, hd⟩, h.haC, ⟨hn, ht⟩, (h.mro _).trans (by simp)⟩

def ClsPack (K : PySem.W.Frag) (CE : Addr) (nm qual : Str) (st : Stmt) (ps : List Str) (fs : Option Str) : Prop := ∃ (C fI : Addr) (fd : FuncData), PySem.W.nsIn K mainGlobals nm = some (some (.ref C)) ∧ CF K CE C nm ∧ Fun K "__init__" qual st fI fd ∧ Binds K fd ps [] ∧
  PySem.W.findIn K (.ref C) "__init__" = some (some (.ref fI)) ∧ PySem.W.typeIn K (.ref fI) = some (.type "function") ∧ ∀ f, fs = some f → PySem.W.findIn K (.ref C) f = some none
theorem cls_mk {K : PySem.W.Frag} {CE C fI : Addr} {nm qual : Str} {st : Stmt} {ps : List Str} {fs : Option Str} {q : Str} {N : Addr} {bs : List Value} {sn : List Str} {sub : List Value} {ab : Bool} {col : Option Bool} {dd : Option Addr} {k0 k1 k2 k3 k5 : Option Value}
    {oc : Value} {od an : Option Addr} {osl : Array (Option Value)} {kV doc pm cdv ct : Value} (a : PySem.W.nsIn K mainGlobals nm = some (some (.ref C)))
    (x : K.lookup C = some (excClassObj nm q C N bs [.ref CE, .type "ValueError", .type "Exception", .type "BaseException", .type "object"] true sn sub ab col dd k0 k1 k2 k3 k5 "ValueError.__new__"))
    (sa : PySem.W.findIn K (.ref C) "__setattr__" = some (some (.builtin "object.__setattr__"))) (ga : PySem.W.findIn K (.ref C) "__getattribute__" = some (some (.builtin "BaseException.__getattribute__"))) (gg : PySem.W.findIn K (.ref C) "__getattr__" = some none)
    (ty : PySem.W.typeIn K (.ref C) = some (.type "type")) (kC : PySem.W.keepIn K (.ref C) = true) (ha : PySem.W.findIn K (.ref C) "__class__" = some (some (.builtin "object.__class__")))
    (i : PySem.W.findIn K (.ref C) "__init__" = some (some (.ref fI))) (t : PySem.W.typeIn K (.ref fI) = some (.type "function"))
    (l : K.lookup fI = some ⟨oc, od, .func (PySem.W.fnOf "__init__" qual (defArgs st) (defBody st) (defScope st) .none kV doc pm an cdv ct), osl⟩) (c : PySem.W.codeIn K cdv qual = true) (k : PySem.W.keepIn K (.ref fI) = true)
    (h : ∀ (kV doc pm : Value) (an : Option Addr) (cdv ct : Value) (us : List Value), us.length = ps.length → bindArgs (PySem.W.fnOf "__init__" qual (defArgs st) (defBody st) (defScope st) .none kV doc pm an cdv ct) ⟨us, []⟩ = pure (ps.zip us))
    (nf : ∀ f, fs = some f → PySem.W.findIn K (.ref C) f = some none) : ClsPack K CE nm qual st ps fs :=
  ⟨C, fI, _, a, ⟨⟨q, N, bs, sn, sub, ab, col, dd, k0, k1, k2, k3, k5, x⟩, sa, ga, gg, ty, kC, ha⟩, fun_mk l c k, (fun_mk l c k).binds h, i, t, nf⟩
/-- Lot as the top has left it -/
structure LotPack (K : PySem.W.Frag) (CL aW fL fE : Addr) (fdL fdE : FuncData) : Prop where
  aL : PySem.W.nsIn K mainGlobals "Lot" = some (some (.ref CL))
  cl : Cls K CL
  nW : NoAttr K CL "word"
  nM : NoAttr K CL "makers"
  nS : NoAttr K CL "_sums"
  aWn : PySem.W.nsIn K mainGlobals "WORDS" = some (some (.ref aW))
  words : ∀ H : Hp, SqT K H aW [.str "once", .str "loan", .str "free", .str "more"]
  ha : PySem.W.findIn K (.ref CL) "__class__" = some (some (.builtin "object.__class__"))
  hm : PySem.W.mroIn K CL (.type "object") = some true
  mkL : Mk K CL fL
  FL : Fun K "__init__" "Lot.__init__" sLInit fL fdL
  bL : Binds K fdL ["self", "word", "makers"] []
  FE : Fun K "__eq__" "Lot.__eq__" sLEq fE fdE
  bE : Binds K fdE ["self", "other"] []
  hsE : PySem.W.findIn K (.ref CL) "__eq__" = some (some (.ref fE))
  hfE : PySem.W.isFn K (.ref fE) = true
theorem lot_mk {K : PySem.W.Frag} {CL aW fL fE : Addr} {dW : Option Addr} {nW : Nat} {slW : Array (Option Value)} {u1 u2 u3 u4 : Tok}
    {oc1 : Value} {od1 an1 : Option Addr} {sl1 : Array (Option Value)} {kV1 dc1 pm1 cd1 ct1 : Value} {oc2 : Value} {od2 an2 : Option Addr} {sl2 : Array (Option Value)} {kV2 dc2 pm2 cd2 ct2 : Value}
    (aL : PySem.W.nsIn K mainGlobals "Lot" = some (some (.ref CL))) (pg : PySem.W.plainGet K CL Str.empty = true) (hd : PySem.W.hasDictIn K CL = true) (po : PySem.W.plainOver K CL = true) (sa : PySem.W.findIn K (.ref CL) "__setattr__" = some (some (.builtin "object.__setattr__")))
    (n1 : PySem.W.findIn K (.ref CL) "word" = some none) (n2 : PySem.W.findIn K (.ref CL) "makers" = some none) (n3 : PySem.W.findIn K (.ref CL) "_sums" = some none)
    (aw : PySem.W.nsIn K mainGlobals "WORDS" = some (some (.ref aW))) (lw : K.lookup aW = some ⟨.type "tuple", dW, .seq #[.str "once" u1, .str "loan" u2, .str "free" u3, .str "more" u4] nW, slW⟩)
    (ha : PySem.W.findIn K (.ref CL) "__class__" = some (some (.builtin "object.__class__"))) (hm : PySem.W.mroIn K CL (.type "object") = some true) (mk : PySem.W.makesIn K CL = true) (kc : PySem.W.keepIn K (.ref CL) = true)
    (i1 : PySem.W.findIn K (.ref CL) "__init__" = some (some (.ref fL))) (f1 : PySem.W.isFn K (.ref fL) = true) (l1 : K.lookup fL = some ⟨oc1, od1, .func (PySem.W.fnOf "__init__" "Lot.__init__" (defArgs sLInit) (defBody sLInit) (defScope sLInit) .none kV1 dc1 pm1 an1 cd1 ct1), sl1⟩) (c1 : PySem.W.codeIn K cd1 "Lot.__init__" = true) (k1 : PySem.W.keepIn K (.ref fL) = true)
    (i2 : PySem.W.findIn K (.ref CL) "__eq__" = some (some (.ref fE))) (f2 : PySem.W.isFn K (.ref fE) = true) (l2 : K.lookup fE = some ⟨oc2, od2, .func (PySem.W.fnOf "__eq__" "Lot.__eq__" (defArgs sLEq) (defBody sLEq) (defScope sLEq) .none kV2 dc2 pm2 an2 cd2 ct2), sl2⟩) (c2 : PySem.W.codeIn K cd2 "Lot.__eq__" = true) (k2 : PySem.W.keepIn K (.ref fE) = true) :
    ∃ CL aW fL fE fdL fdE, LotPack K CL aW fL fE fdL fdE :=
  ⟨CL, aW, fL, fE, _, _, aL, ⟨pg, hd, po, sa⟩, n1, n2, n3, aw, fun H => .inr ⟨⟨.type "tuple", dW, .seq #[.str "once" u1, .str "loan" u2, .str "free" u3, .str "more" u4] nW, slW⟩, _, nW, lw, rfl, rfl, (by show 4 ≤ sizeLine; decide), .cons ⟨_, rfl⟩ (.cons ⟨_, rfl⟩ (.cons ⟨_, rfl⟩ (.cons ⟨_, rfl⟩ .nil)))⟩, ha, hm, ⟨mk, i1, f1, kc⟩, fun_mk l1 c1 k1,
    (fun_mk l1 c1 k1).binds fun _ _ _ _ _ _ us hl => (match us, hl with | [_, _, _], _ => rfl), fun_mk l2 c2 k2, (fun_mk l2 c2 k2).binds fun _ _ _ _ _ _ us hl => (match us, hl with | [_, _], _ => rfl), i2, f2⟩
def LawPack (K : PySem.W.Frag) : Prop := ∃ (f : Addr) (fd : FuncData), PySem.W.nsIn K mainGlobals "law" = some (some (.ref f)) ∧ Fun K "law" "law" sLaw f fd ∧ ∀ (s : Shared) (v : Value), BindsTo s fd ⟨[v], []⟩ [("_law_script", v)]
theorem law_mk {K : PySem.W.Frag} {f : Addr} {oc : Value} {od an : Option Addr} {osl : Array (Option Value)} {kV doc pm cdv ct : Value} (a : PySem.W.nsIn K mainGlobals "law" = some (some (.ref f)))
    (l : K.lookup f = some ⟨oc, od, .func (PySem.W.fnOf "law" "law" (defArgs sLaw) (defBody sLaw) (defScope sLaw) .none kV doc pm an cdv ct), osl⟩) (c : PySem.W.codeIn K cdv "law" = true) (k : PySem.W.keepIn K (.ref f) = true) : LawPack K :=
  ⟨f, _, a, fun_mk l c k, fun s v => .of_eq rfl⟩
def nmOf (n : Nat) : Str := (["BadLot", "BadBook", "BadHouse", "BadText", "Faulty", "TooMany", "Unknown", "NoNumber", "NoKind", "NoProgram", "NoPlace", "NoHanded", "NoStep", "NotFlat", "NoFunctions", "IsOver", "NothingDone", "NotLet", "NoBag", "NoPart", "NoName", "Full", "NoWish", "NotMade", "NotWhole", "NoText"] : List Str).getD n ""
theorem nm_ne : ∀ n, n < 26 → ∀ m, m < 26 → n ≠ m → nmOf n ≠ nmOf m := by decide +kernel
theorem nm_ce : ∀ n, n < 26 → nmOf n ≠ "CountsError" := by decide +kernel
theorem all_mk {l : PySem.W.OpenLaw} {w : World} {K : PySem.W.Frag} {h : Heap} {mg : Str → Option Value} {fa CE : Addr} (X : K.In h) (G : h.Ns mainGlobals mg) (hfa : mg "law" = some (.ref fa))
    {q : Str} {N : Addr} {bs : List Value} {sn : List Str} {sub : List Value} {ab : Bool} {col : Option Bool} {dd : Option Addr} {m0 m1 m2 m3 m5 : Option Value}
    (aE : PySem.W.nsIn K mainGlobals "CountsError" = some (some (.ref CE)))
    (xE : K.lookup CE = some (excClassObj "CountsError" q CE N bs [.type "ValueError", .type "Exception", .type "BaseException", .type "object"] true sn sub ab col dd m0 m1 m2 m3 m5 "ValueError.__new__"))
    (tE : PySem.W.typeIn K (.ref CE) = some (.type "type")) (sE : PySem.W.subIn K (.ref CE) (.type "BaseException") = some true) (hE : PySem.W.hasDictIn K CE = true)
    (hn : PySem.W.specialIn K (.builtin "object.__class__") "__get__" = some (some (.builtin "getset_descriptor.__get__"))) (ht : PySem.W.takesIn K (.builtin "object.__class__") = some true)
    (p0 : ClsPack K CE "BadLot" "BadLot.__init__" sI0 ["self", "part"] (some "part"))
    (p1 : ClsPack K CE "BadBook" "BadBook.__init__" sI1 ["self", "part"] (some "part"))
    (p2 : ClsPack K CE "BadHouse" "BadHouse.__init__" sI2 ["self", "part"] (some "part"))
    (p3 : ClsPack K CE "BadText" "BadText.__init__" sI3 ["self", "index"] (some "index"))
    (p4 : ClsPack K CE "Faulty" "Faulty.__init__" sI4 ["self", "fault"] (some "fault"))
    (p5 : ClsPack K CE "TooMany" "TooMany.__init__" sI5 ["self", "most"] (some "most"))
    (p6 : ClsPack K CE "Unknown" "Unknown.__init__" sI6 ["self", "name"] (some "name"))
    (p7 : ClsPack K CE "NoNumber" "NoNumber.__init__" sI7 ["self"] none)
    (p8 : ClsPack K CE "NoKind" "NoKind.__init__" sI8 ["self"] none)
    (p9 : ClsPack K CE "NoProgram" "NoProgram.__init__" sI9 ["self"] none)
    (p10 : ClsPack K CE "NoPlace" "NoPlace.__init__" sI10 ["self"] none)
    (p11 : ClsPack K CE "NoHanded" "NoHanded.__init__" sI11 ["self"] none)
    (p12 : ClsPack K CE "NoStep" "NoStep.__init__" sI12 ["self"] none)
    (p13 : ClsPack K CE "NotFlat" "NotFlat.__init__" sI13 ["self"] none)
    (p14 : ClsPack K CE "NoFunctions" "NoFunctions.__init__" sI14 ["self"] none)
    (p15 : ClsPack K CE "IsOver" "IsOver.__init__" sI15 ["self"] none)
    (p16 : ClsPack K CE "NothingDone" "NothingDone.__init__" sI16 ["self"] none)
    (p17 : ClsPack K CE "NotLet" "NotLet.__init__" sI17 ["self"] none)
    (p18 : ClsPack K CE "NoBag" "NoBag.__init__" sI18 ["self"] none)
    (p19 : ClsPack K CE "NoPart" "NoPart.__init__" sI19 ["self"] none)
    (p20 : ClsPack K CE "NoName" "NoName.__init__" sI20 ["self"] none)
    (p21 : ClsPack K CE "Full" "Full.__init__" sI21 ["self"] none)
    (p22 : ClsPack K CE "NoWish" "NoWish.__init__" sI22 ["self"] none)
    (p23 : ClsPack K CE "NotMade" "NotMade.__init__" sI23 ["self"] none)
    (p24 : ClsPack K CE "NotWhole" "NotWhole.__init__" sI24 ["self"] none)
    (p25 : ClsPack K CE "NoText" "NoText.__init__" sI25 ["self"] none)
    (d0 : DefPack K "_law_hand" sHand ["_law_script"])
    (d1 : DefPack K "_law_draw" sDraw ["_law_hand_here", "_law_many"])
    (d2 : DefPack K "_law_some" sSome ["_law_hand_here", "_law_things"])
    (d3 : DefPack K "_law_is" sIs ["_law_told", "_law_due"])
    (d4 : DefPack K "_law_deep" sDeep ["_law_kind"])
    (d5 : DefPack K "_law_raised" sRaised ["_law_which", "_law_thing"])
    (d6 : DefPack K "_law_right" sRight ["_law_error", "_law_number", "_law_thing"])
    (d7 : DefPack K "_law_classes" sClasses ["_law_error"])
    (d8 : DefPack K "_law_field" sField ["_law_error", "_law_number"])
    (d9 : DefPack K "_is_makers" sMk ["word", "thing"])
    (pL : ∃ CL aW fL fE fdL fdE, LotPack K CL aW fL fE fdL fdE) (pW : LawPack K)
    (z0 : PySem.W.nsIn K mainGlobals "abs" = some none) (z1 : PySem.W.nsIn K mainGlobals "int" = some none) (z2 : PySem.W.nsIn K mainGlobals "len" = some none) (z3 : PySem.W.nsIn K mainGlobals "isinstance" = some none) (z4 : PySem.W.nsIn K mainGlobals "all" = some none) (z5 : PySem.W.nsIn K mainGlobals "range" = some none) (z6 : PySem.W.nsIn K mainGlobals "tuple" = some none) (z7 : PySem.W.nsIn K mainGlobals "list" = some none) (z8 : PySem.W.nsIn K mainGlobals "dict" = some none) (z9 : PySem.W.nsIn K mainGlobals "bool" = some none) (z10 : PySem.W.nsIn K mainGlobals "str" = some none) (z11 : PySem.W.nsIn K mainGlobals "enumerate" = some none) (z12 : PySem.W.nsIn K mainGlobals "ValueError" = some none) :
    ∃ fd : FuncData, (∀ (s : Shared) (v : Value), BindsTo s fd ⟨[v], []⟩ [("_law_script", v)]) ∧ ∀ base : Heap, K.In base → base.Ns mainGlobals mg → FnOk l.prog w K mg base CX0 46 fa fd ["_law_script"] (spLaw K) := by
  obtain ⟨fw, fdw, aw, Fw, bw⟩ := pW
  have e := hfa.symm.trans (PySem.W.mg_of X G aw)
  cases e
  obtain ⟨C0, f0, fd0, a0, c0, F0, b0, i0, t0, n0⟩ := p0
  obtain ⟨C1, f1, fd1, a1, c1, F1, b1, i1, t1, n1⟩ := p1
  obtain ⟨C2, f2, fd2, a2, c2, F2, b2, i2, t2, n2⟩ := p2
  obtain ⟨C3, f3, fd3, a3, c3, F3, b3, i3, t3, n3⟩ := p3
  obtain ⟨C4, f4, fd4, a4, c4, F4, b4, i4, t4, n4⟩ := p4
  obtain ⟨C5, f5, fd5, a5, c5, F5, b5, i5, t5, n5⟩ := p5
  obtain ⟨C6, f6, fd6, a6, c6, F6, b6, i6, t6, n6⟩ := p6
  obtain ⟨C7, f7, fd7, a7, c7, F7, b7, i7, t7, n7⟩ := p7
  obtain ⟨C8, f8, fd8, a8, c8, F8, b8, i8, t8, n8⟩ := p8
  obtain ⟨C9, f9, fd9, a9, c9, F9, b9, i9, t9, n9⟩ := p9
  obtain ⟨C10, f10, fd10, a10, c10, F10, b10, i10, t10, n10⟩ := p10
  obtain ⟨C11, f11, fd11, a11, c11, F11, b11, i11, t11, n11⟩ := p11
  obtain ⟨C12, f12, fd12, a12, c12, F12, b12, i12, t12, n12⟩ := p12
  obtain ⟨C13, f13, fd13, a13, c13, F13, b13, i13, t13, n13⟩ := p13
  obtain ⟨C14, f14, fd14, a14, c14, F14, b14, i14, t14, n14⟩ := p14
  obtain ⟨C15, f15, fd15, a15, c15, F15, b15, i15, t15, n15⟩ := p15
  obtain ⟨C16, f16, fd16, a16, c16, F16, b16, i16, t16, n16⟩ := p16
  obtain ⟨C17, f17, fd17, a17, c17, F17, b17, i17, t17, n17⟩ := p17
  obtain ⟨C18, f18, fd18, a18, c18, F18, b18, i18, t18, n18⟩ := p18
  obtain ⟨C19, f19, fd19, a19, c19, F19, b19, i19, t19, n19⟩ := p19
  obtain ⟨C20, f20, fd20, a20, c20, F20, b20, i20, t20, n20⟩ := p20
  obtain ⟨C21, f21, fd21, a21, c21, F21, b21, i21, t21, n21⟩ := p21
  obtain ⟨C22, f22, fd22, a22, c22, F22, b22, i22, t22, n22⟩ := p22
  obtain ⟨C23, f23, fd23, a23, c23, F23, b23, i23, t23, n23⟩ := p23
  obtain ⟨C24, f24, fd24, a24, c24, F24, b24, i24, t24, n24⟩ := p24
  obtain ⟨C25, f25, fd25, a25, c25, F25, b25, i25, t25, n25⟩ := p25
  obtain ⟨g0, gd0, D0⟩ := d0.fn X G
  obtain ⟨g1, gd1, D1⟩ := d1.fn X G
  obtain ⟨g2, gd2, D2⟩ := d2.fn X G
  obtain ⟨g3, gd3, D3⟩ := d3.fn X G
  obtain ⟨g4, gd4, D4⟩ := d4.fn X G
  obtain ⟨g5, gd5, D5⟩ := d5.fn X G
  obtain ⟨g6, gd6, D6⟩ := d6.fn X G
  obtain ⟨g7, gd7, D7⟩ := d7.fn X G
  obtain ⟨g8, gd8, D8⟩ := d8.fn X G
  obtain ⟨g9, gd9, D9⟩ := d9.fn X G
  obtain ⟨CL, aW, fL, fE, fdL, fdE, LP⟩ := pL
  let Cs : Nat → Addr := fun n => ([C0, C1, C2, C3, C4, C5, C6, C7, C8, C9, C10, C11, C12, C13, C14, C15, C16, C17, C18, C19, C20, C21, C22, C23, C24, C25] : List Addr).getD n 0
  let fI : Nat → Addr := fun n => ([f0, f1, f2, f3, f4, f5, f6, f7, f8, f9, f10, f11, f12, f13, f14, f15, f16, f17, f18, f19, f20, f21, f22, f23, f24, f25] : List Addr).getD n 0
  let fdI : Nat → FuncData := fun n => ([fd0, fd1, fd2, fd3, fd4, fd5, fd6, fd7, fd8, fd9, fd10, fd11, fd12, fd13, fd14, fd15, fd16, fd17, fd18, fd19, fd20, fd21, fd22, fd23, fd24, fd25] : List FuncData).getD n fd0
  have cf : ∀ n, n < 26 → CF K CE (Cs n) (nmOf n) := fun n hn => match n, hn with
    | 0, _ => c0
    | 1, _ => c1
    | 2, _ => c2
    | 3, _ => c3
    | 4, _ => c4
    | 5, _ => c5
    | 6, _ => c6
    | 7, _ => c7
    | 8, _ => c8
    | 9, _ => c9
    | 10, _ => c10
    | 11, _ => c11
    | 12, _ => c12
    | 13, _ => c13
    | 14, _ => c14
    | 15, _ => c15
    | 16, _ => c16
    | 17, _ => c17
    | 18, _ => c18
    | 19, _ => c19
    | 20, _ => c20
    | 21, _ => c21
    | 22, _ => c22
    | 23, _ => c23
    | 24, _ => c24
    | 25, _ => c25
    | n + 26, h => absurd h (by omega)
  have hCE : ∀ n, n < 26 → Cs n ≠ CE := fun n hn z => by
    obtain ⟨cd, e, nm, _⟩ := (cf n hn).cls
    unfold PySem.W.clsIn at e
    rw [z, xE] at e
    cases e
    exact nm_ce n hn nm.symm
  have T : TxB mg := ⟨PySem.W.mg_none_of X G z0, PySem.W.mg_none_of X G z1, PySem.W.mg_none_of X G z2, PySem.W.mg_none_of X G z3, PySem.W.mg_none_of X G z4, PySem.W.mg_none_of X G z5⟩
  have T2 : TxC mg := ⟨PySem.W.mg_none_of X G z6, PySem.W.mg_none_of X G z7, PySem.W.mg_none_of X G z8, PySem.W.mg_none_of X G z9⟩
  have R : ErrT K mg Cs CE := {
    err := fun n h => (cf n h).errC hn ht
    kit := fun n h m h' => by
      rw [(cf n h).kitR (cf m h'), decide_eq_false (hCE m h'), Bool.or_false]
      by_cases e : n = m
      · subst e; rw [decide_eq_true rfl, decide_eq_true rfl]
      · rw [decide_eq_false e, decide_eq_false ((cf n h).ne (cf m h') (nm_ne n h m h' e))]
    kitC := fun n h => by
      have hbf : (Value.ref (Cs n) == Value.ref CE) = false := beq_eq_false_iff_ne.mpr fun z => hCE n h (Value.ref.inj z)
      unfold PySem.W.kitOne
      rw [hbf, if_neg Bool.false_ne_true]
      show (if ((PySem.W.clsIn K CE).isSome && PySem.W.typeIn K (.ref CE) == some (.type "type")) = true then PySem.W.subIn K (.ref (Cs n)) (.ref CE) else none) = _
      have e1 : (PySem.W.clsIn K CE).isSome = true := by unfold PySem.W.clsIn; rw [xE] <;> rfl
      rw [e1, tE, if_pos (by rfl)]
      exact ((cf n h).mro _).trans (by simp)
    kitV := fun n h => by
      unfold PySem.W.kitOne
      rw [show (Value.ref (Cs n) == Value.type "ValueError") = false from rfl, if_neg Bool.false_ne_true]
      show (if PySem.W.kitMeta "ValueError" = true then PySem.W.subIn K (.ref (Cs n)) (.type "ValueError") else none) = _
      rw [if_pos (by decide +kernel)]
      exact ((cf n h).mro _).trans (by simp)
    noF := fun n h => match n, h with
      | 0, _ => n0 _ rfl
      | 1, _ => n1 _ rfl
      | 2, _ => n2 _ rfl
      | 3, _ => n3 _ rfl
      | 4, _ => n4 _ rfl
      | 5, _ => n5 _ rfl
      | 6, _ => n6 _ rfl
      | n + 7, h => absurd h (by omega)
    exm := fun n h => PySem.W.exm_ref sE hE tE (((cf n h).mro _).trans (by simp))
    gE := PySem.W.mg_of X G aE
    vE := PySem.W.mg_none_of X G z12
    m0 := PySem.W.mg_of X G a0
    m1 := PySem.W.mg_of X G a1
    m2 := PySem.W.mg_of X G a2
    m3 := PySem.W.mg_of X G a3
    m4 := PySem.W.mg_of X G a4
    m5 := PySem.W.mg_of X G a5
    m6 := PySem.W.mg_of X G a6
    m7 := PySem.W.mg_of X G a7
    m8 := PySem.W.mg_of X G a8
    m9 := PySem.W.mg_of X G a9
    m10 := PySem.W.mg_of X G a10
    m11 := PySem.W.mg_of X G a11
    m12 := PySem.W.mg_of X G a12
    m13 := PySem.W.mg_of X G a13
    m14 := PySem.W.mg_of X G a14
    m15 := PySem.W.mg_of X G a15
    m16 := PySem.W.mg_of X G a16
    m17 := PySem.W.mg_of X G a17
    m18 := PySem.W.mg_of X G a18
    m19 := PySem.W.mg_of X G a19
    m20 := PySem.W.mg_of X G a20
    m21 := PySem.W.mg_of X G a21
    m22 := PySem.W.mg_of X G a22
    m23 := PySem.W.mg_of X G a23
    m24 := PySem.W.mg_of X G a24
    m25 := PySem.W.mg_of X G a25
  }
  have GF : ErrF K Cs fI fdI := {
    F0 := F0, b0 := b0, i0 := i0, t0 := t0
    F1 := F1, b1 := b1, i1 := i1, t1 := t1
    F2 := F2, b2 := b2, i2 := i2, t2 := t2
    F3 := F3, b3 := b3, i3 := i3, t3 := t3
    F4 := F4, b4 := b4, i4 := i4, t4 := t4
    F5 := F5, b5 := b5, i5 := i5, t5 := t5
    F6 := F6, b6 := b6, i6 := i6, t6 := t6
    F7 := F7, b7 := b7, i7 := i7, t7 := t7
    F8 := F8, b8 := b8, i8 := i8, t8 := t8
    F9 := F9, b9 := b9, i9 := i9, t9 := t9
    F10 := F10, b10 := b10, i10 := i10, t10 := t10
    F11 := F11, b11 := b11, i11 := i11, t11 := t11
    F12 := F12, b12 := b12, i12 := i12, t12 := t12
    F13 := F13, b13 := b13, i13 := i13, t13 := t13
    F14 := F14, b14 := b14, i14 := i14, t14 := t14
    F15 := F15, b15 := b15, i15 := i15, t15 := t15
    F16 := F16, b16 := b16, i16 := i16, t16 := t16
    F17 := F17, b17 := b17, i17 := i17, t17 := t17
    F18 := F18, b18 := b18, i18 := i18, t18 := t18
    F19 := F19, b19 := b19, i19 := i19, t19 := t19
    F20 := F20, b20 := b20, i20 := i20, t20 := t20
    F21 := F21, b21 := b21, i21 := i21, t21 := t21
    F22 := F22, b22 := b22, i22 := i22, t22 := t22
    F23 := F23, b23 := b23, i23 := i23, t23 := t23
    F24 := F24, b24 := b24, i24 := i24, t24 := t24
    F25 := F25, b25 := b25, i25 := i25, t25 := t25
  }
  have L : LotT K mg CL aW := { cl := LP.cl, nW := LP.nW, nM := LP.nM, nS := LP.nS, mgL := PySem.W.mg_of X G LP.aL, mgW := PySem.W.mg_of X G LP.aWn, words := LP.words, str := PySem.W.mg_none_of X G z10, ha := LP.ha, cg := hn, cTk := ht, hm := LP.hm }
  exact ⟨fdw, bw, fun base _ _ => ok_law Fw T T2 (PySem.W.mg_none_of X G z11) R GF L D0 D1 D2 D3 D4 D5 D6 D7 D8 D9 LP.mkL LP.FL LP.bL LP.FE LP.bE LP.hsE LP.hfE⟩
theorem walk {l : PySem.W.OpenLaw} {q : Program} {loose : List Str} {XP : (Str → Option Value) → Heap → Prop} {YP : World → Heap → Prop} {d : DefRec} {K : Params → PySem.W.Frag} (hn : l.most = some 63) (hdf : d.params.defaults = [])
    (hY : ∀ (w : World) (h : Heap), YP w h → (K w.params).In h)
    (F : ∀ (w : World) (mg : Str → Option Value) (fa : Addr) (h : Heap), (K w.params).In h → h.Ns mainGlobals mg → mg d.name = some (.ref fa) →
      ∃ fd : FuncData, (∀ (s : Shared) (u : Value), BindsTo s fd ⟨[u], []⟩ [("_law_script", u)]) ∧ ∀ base : Heap, (K w.params).In base → base.Ns mainGlobals mg → FnOk l.prog w (K w.params) mg base CX0 46 fa fd ["_law_script"] (spLaw (K w.params))) :
    PySem.W.WalkO q loose XP YP l.row.toRowW d [] (fun f vs => PySem.call f vs) :=
  L2.walk_of (n := 63) (k := 46) (x := "_law_script") (CX := fun _ => CX0) (sp := fun w => spLaw (K w.params)) hn (by decide) hdf ⟨rfl, by decide, by decide⟩ hY F (fun _ _ a ns hl _ hS => ⟨a, ns, rfl, hS, hl, fun _ => rfl⟩) fun _ _ _ _ _ z => z
end K00

open PySem PySem.W PyProof.Rows
set_option Elab.async false
set_option maxRecDepth 100000 in
set_option maxHeartbeats 0 in
theorem PySem.Challenge.cw_usecounts_k00_errors_of_the_package_holds : PySem.Challenge.rw_usecounts_k00_errors_of_the_package.Holds := by
  w_on; o_law; k_head; (case hw => w_witness2)
  k_fill
  refine K00.walk (l := PySem.Challenge.rw_usecounts_k00_errors_of_the_package) rfl rfl (fun w h Y => PySem.W.kIn_of Y) ?F
  case F =>
    intro w mg fa h KX G hmg
    refine' K00.all_mk KX G hmg ?aE ?xE ?tE ?sE ?hE ?hn ?ht ?p0 ?p1 ?p2 ?p3 ?p4 ?p5 ?p6 ?p7 ?p8 ?p9 ?p10 ?p11 ?p12 ?p13 ?p14 ?p15 ?p16 ?p17 ?p18 ?p19 ?p20 ?p21 ?p22 ?p23 ?p24 ?p25 ?d0 ?d1 ?d2 ?d3 ?d4 ?d5 ?d6 ?d7 ?d8 ?d9 ?pL ?pW ?z0 ?z1 ?z2 ?z3 ?z4 ?z5 ?z6 ?z7 ?z8 ?z9 ?z10 ?z11 ?z12
    (case aE => k_is)
    (case xE => k_is)
    (case tE => k_is)
    (case sE => k_is)
    (case hE => k_is)
    (case hn => k_is)
    (case ht => k_is)
    (case p0 => (refine' K00.cls_mk ?p0a ?p0x ?p0sa ?p0ga ?p0gg ?p0ty ?p0kC ?p0ha ?p0i ?p0t ?p0l ?p0c ?p0k ?p0h ?p0nf; (case p0a => k_is); (case p0x => k_is); (case p0sa => k_is); (case p0ga => k_is); (case p0gg => k_is); (case p0ty => k_is); (case p0kC => k_is); (case p0ha => k_is); (case p0i => k_is); (case p0t => k_is); (case p0l => k_is); (case p0c => k_is); (case p0k => k_is); (case p0h => exact fun _ _ _ _ _ _ us hl => match us, hl with | [_, _], _ => rfl); (case p0nf => (intro f hf; cases hf; k_is))))
    (case p1 => (refine' K00.cls_mk ?p1a ?p1x ?p1sa ?p1ga ?p1gg ?p1ty ?p1kC ?p1ha ?p1i ?p1t ?p1l ?p1c ?p1k ?p1h ?p1nf; (case p1a => k_is); (case p1x => k_is); (case p1sa => k_is); (case p1ga => k_is); (case p1gg => k_is); (case p1ty => k_is); (case p1kC => k_is); (case p1ha => k_is); (case p1i => k_is); (case p1t => k_is); (case p1l => k_is); (case p1c => k_is); (case p1k => k_is); (case p1h => exact fun _ _ _ _ _ _ us hl => match us, hl with | [_, _], _ => rfl); (case p1nf => (intro f hf; cases hf; k_is))))
    (case p2 => (refine' K00.cls_mk ?p2a ?p2x ?p2sa ?p2ga ?p2gg ?p2ty ?p2kC ?p2ha ?p2i ?p2t ?p2l ?p2c ?p2k ?p2h ?p2nf; (case p2a => k_is); (case p2x => k_is); (case p2sa => k_is); (case p2ga => k_is); (case p2gg => k_is); (case p2ty => k_is); (case p2kC => k_is); (case p2ha => k_is); (case p2i => k_is); (case p2t => k_is); (case p2l => k_is); (case p2c => k_is); (case p2k => k_is); (case p2h => exact fun _ _ _ _ _ _ us hl => match us, hl with | [_, _], _ => rfl); (case p2nf => (intro f hf; cases hf; k_is))))
    (case p3 => (refine' K00.cls_mk ?p3a ?p3x ?p3sa ?p3ga ?p3gg ?p3ty ?p3kC ?p3ha ?p3i ?p3t ?p3l ?p3c ?p3k ?p3h ?p3nf; (case p3a => k_is); (case p3x => k_is); (case p3sa => k_is); (case p3ga => k_is); (case p3gg => k_is); (case p3ty => k_is); (case p3kC => k_is); (case p3ha => k_is); (case p3i => k_is); (case p3t => k_is); (case p3l => k_is); (case p3c => k_is); (case p3k => k_is); (case p3h => exact fun _ _ _ _ _ _ us hl => match us, hl with | [_, _], _ => rfl); (case p3nf => (intro f hf; cases hf; k_is))))
    (case p4 => (refine' K00.cls_mk ?p4a ?p4x ?p4sa ?p4ga ?p4gg ?p4ty ?p4kC ?p4ha ?p4i ?p4t ?p4l ?p4c ?p4k ?p4h ?p4nf; (case p4a => k_is); (case p4x => k_is); (case p4sa => k_is); (case p4ga => k_is); (case p4gg => k_is); (case p4ty => k_is); (case p4kC => k_is); (case p4ha => k_is); (case p4i => k_is); (case p4t => k_is); (case p4l => k_is); (case p4c => k_is); (case p4k => k_is); (case p4h => exact fun _ _ _ _ _ _ us hl => match us, hl with | [_, _], _ => rfl); (case p4nf => (intro f hf; cases hf; k_is))))
    (case p5 => (refine' K00.cls_mk ?p5a ?p5x ?p5sa ?p5ga ?p5gg ?p5ty ?p5kC ?p5ha ?p5i ?p5t ?p5l ?p5c ?p5k ?p5h ?p5nf; (case p5a => k_is); (case p5x => k_is); (case p5sa => k_is); (case p5ga => k_is); (case p5gg => k_is); (case p5ty => k_is); (case p5kC => k_is); (case p5ha => k_is); (case p5i => k_is); (case p5t => k_is); (case p5l => k_is); (case p5c => k_is); (case p5k => k_is); (case p5h => exact fun _ _ _ _ _ _ us hl => match us, hl with | [_, _], _ => rfl); (case p5nf => (intro f hf; cases hf; k_is))))
    (case p6 => (refine' K00.cls_mk ?p6a ?p6x ?p6sa ?p6ga ?p6gg ?p6ty ?p6kC ?p6ha ?p6i ?p6t ?p6l ?p6c ?p6k ?p6h ?p6nf; (case p6a => k_is); (case p6x => k_is); (case p6sa => k_is); (case p6ga => k_is); (case p6gg => k_is); (case p6ty => k_is); (case p6kC => k_is); (case p6ha => k_is); (case p6i => k_is); (case p6t => k_is); (case p6l => k_is); (case p6c => k_is); (case p6k => k_is); (case p6h => exact fun _ _ _ _ _ _ us hl => match us, hl with | [_, _], _ => rfl); (case p6nf => (intro f hf; cases hf; k_is))))
    (case p7 => (refine' K00.cls_mk ?p7a ?p7x ?p7sa ?p7ga ?p7gg ?p7ty ?p7kC ?p7ha ?p7i ?p7t ?p7l ?p7c ?p7k ?p7h ?p7nf; (case p7a => k_is); (case p7x => k_is); (case p7sa => k_is); (case p7ga => k_is); (case p7gg => k_is); (case p7ty => k_is); (case p7kC => k_is); (case p7ha => k_is); (case p7i => k_is); (case p7t => k_is); (case p7l => k_is); (case p7c => k_is); (case p7k => k_is); (case p7h => exact fun _ _ _ _ _ _ us hl => match us, hl with | [_], _ => rfl); (case p7nf => (intro f hf; cases hf))))
    (case p8 => (refine' K00.cls_mk ?p8a ?p8x ?p8sa ?p8ga ?p8gg ?p8ty ?p8kC ?p8ha ?p8i ?p8t ?p8l ?p8c ?p8k ?p8h ?p8nf; (case p8a => k_is); (case p8x => k_is); (case p8sa => k_is); (case p8ga => k_is); (case p8gg => k_is); (case p8ty => k_is); (case p8kC => k_is); (case p8ha => k_is); (case p8i => k_is); (case p8t => k_is); (case p8l => k_is); (case p8c => k_is); (case p8k => k_is); (case p8h => exact fun _ _ _ _ _ _ us hl => match us, hl with | [_], _ => rfl); (case p8nf => (intro f hf; cases hf))))
    (case p9 => (refine' K00.cls_mk ?p9a ?p9x ?p9sa ?p9ga ?p9gg ?p9ty ?p9kC ?p9ha ?p9i ?p9t ?p9l ?p9c ?p9k ?p9h ?p9nf; (case p9a => k_is); (case p9x => k_is); (case p9sa => k_is); (case p9ga => k_is); (case p9gg => k_is); (case p9ty => k_is); (case p9kC => k_is); (case p9ha => k_is); (case p9i => k_is); (case p9t => k_is); (case p9l => k_is); (case p9c => k_is); (case p9k => k_is); (case p9h => exact fun _ _ _ _ _ _ us hl => match us, hl with | [_], _ => rfl); (case p9nf => (intro f hf; cases hf))))
    (case p10 => (refine' K00.cls_mk ?p10a ?p10x ?p10sa ?p10ga ?p10gg ?p10ty ?p10kC ?p10ha ?p10i ?p10t ?p10l ?p10c ?p10k ?p10h ?p10nf; (case p10a => k_is); (case p10x => k_is); (case p10sa => k_is); (case p10ga => k_is); (case p10gg => k_is); (case p10ty => k_is); (case p10kC => k_is); (case p10ha => k_is); (case p10i => k_is); (case p10t => k_is); (case p10l => k_is); (case p10c => k_is); (case p10k => k_is); (case p10h => exact fun _ _ _ _ _ _ us hl => match us, hl with | [_], _ => rfl); (case p10nf => (intro f hf; cases hf))))
    (case p11 => (refine' K00.cls_mk ?p11a ?p11x ?p11sa ?p11ga ?p11gg ?p11ty ?p11kC ?p11ha ?p11i ?p11t ?p11l ?p11c ?p11k ?p11h ?p11nf; (case p11a => k_is); (case p11x => k_is); (case p11sa => k_is); (case p11ga => k_is); (case p11gg => k_is); (case p11ty => k_is); (case p11kC => k_is); (case p11ha => k_is); (case p11i => k_is); (case p11t => k_is); (case p11l => k_is); (case p11c => k_is); (case p11k => k_is); (case p11h => exact fun _ _ _ _ _ _ us hl => match us, hl with | [_], _ => rfl); (case p11nf => (intro f hf; cases hf))))
    (case p12 => (refine' K00.cls_mk ?p12a ?p12x ?p12sa ?p12ga ?p12gg ?p12ty ?p12kC ?p12ha ?p12i ?p12t ?p12l ?p12c ?p12k ?p12h ?p12nf; (case p12a => k_is); (case p12x => k_is); (case p12sa => k_is); (case p12ga => k_is); (case p12gg => k_is); (case p12ty => k_is); (case p12kC => k_is); (case p12ha => k_is); (case p12i => k_is); (case p12t => k_is); (case p12l => k_is); (case p12c => k_is); (case p12k => k_is); (case p12h => exact fun _ _ _ _ _ _ us hl => match us, hl with | [_], _ => rfl); (case p12nf => (intro f hf; cases hf))))
    (case p13 => (refine' K00.cls_mk ?p13a ?p13x ?p13sa ?p13ga ?p13gg ?p13ty ?p13kC ?p13ha ?p13i ?p13t ?p13l ?p13c ?p13k ?p13h ?p13nf; (case p13a => k_is); (case p13x => k_is); (case p13sa => k_is); (case p13ga => k_is); (case p13gg => k_is); (case p13ty => k_is); (case p13kC => k_is); (case p13ha => k_is); (case p13i => k_is); (case p13t => k_is); (case p13l => k_is); (case p13c => k_is); (case p13k => k_is); (case p13h => exact fun _ _ _ _ _ _ us hl => match us, hl with | [_], _ => rfl); (case p13nf => (intro f hf; cases hf))))
    (case p14 => (refine' K00.cls_mk ?p14a ?p14x ?p14sa ?p14ga ?p14gg ?p14ty ?p14kC ?p14ha ?p14i ?p14t ?p14l ?p14c ?p14k ?p14h ?p14nf; (case p14a => k_is); (case p14x => k_is); (case p14sa => k_is); (case p14ga => k_is); (case p14gg => k_is); (case p14ty => k_is); (case p14kC => k_is); (case p14ha => k_is); (case p14i => k_is); (case p14t => k_is); (case p14l => k_is); (case p14c => k_is); (case p14k => k_is); (case p14h => exact fun _ _ _ _ _ _ us hl => match us, hl with | [_], _ => rfl); (case p14nf => (intro f hf; cases hf))))
    (case p15 => (refine' K00.cls_mk ?p15a ?p15x ?p15sa ?p15ga ?p15gg ?p15ty ?p15kC ?p15ha ?p15i ?p15t ?p15l ?p15c ?p15k ?p15h ?p15nf; (case p15a => k_is); (case p15x => k_is); (case p15sa => k_is); (case p15ga => k_is); (case p15gg => k_is); (case p15ty => k_is); (case p15kC => k_is); (case p15ha => k_is); (case p15i => k_is); (case p15t => k_is); (case p15l => k_is); (case p15c => k_is); (case p15k => k_is); (case p15h => exact fun _ _ _ _ _ _ us hl => match us, hl with | [_], _ => rfl); (case p15nf => (intro f hf; cases hf))))
    (case p16 => (refine' K00.cls_mk ?p16a ?p16x ?p16sa ?p16ga ?p16gg ?p16ty ?p16kC ?p16ha ?p16i ?p16t ?p16l ?p16c ?p16k ?p16h ?p16nf; (case p16a => k_is); (case p16x => k_is); (case p16sa => k_is); (case p16ga => k_is); (case p16gg => k_is); (case p16ty => k_is); (case p16kC => k_is); (case p16ha => k_is); (case p16i => k_is); (case p16t => k_is); (case p16l => k_is); (case p16c => k_is); (case p16k => k_is); (case p16h => exact fun _ _ _ _ _ _ us hl => match us, hl with | [_], _ => rfl); (case p16nf => (intro f hf; cases hf))))
    (case p17 => (refine' K00.cls_mk ?p17a ?p17x ?p17sa ?p17ga ?p17gg ?p17ty ?p17kC ?p17ha ?p17i ?p17t ?p17l ?p17c ?p17k ?p17h ?p17nf; (case p17a => k_is); (case p17x => k_is); (case p17sa => k_is); (case p17ga => k_is); (case p17gg => k_is); (case p17ty => k_is); (case p17kC => k_is); (case p17ha => k_is); (case p17i => k_is); (case p17t => k_is); (case p17l => k_is); (case p17c => k_is); (case p17k => k_is); (case p17h => exact fun _ _ _ _ _ _ us hl => match us, hl with | [_], _ => rfl); (case p17nf => (intro f hf; cases hf))))
    (case p18 => (refine' K00.cls_mk ?p18a ?p18x ?p18sa ?p18ga ?p18gg ?p18ty ?p18kC ?p18ha ?p18i ?p18t ?p18l ?p18c ?p18k ?p18h ?p18nf; (case p18a => k_is); (case p18x => k_is); (case p18sa => k_is); (case p18ga => k_is); (case p18gg => k_is); (case p18ty => k_is); (case p18kC => k_is); (case p18ha => k_is); (case p18i => k_is); (case p18t => k_is); (case p18l => k_is); (case p18c => k_is); (case p18k => k_is); (case p18h => exact fun _ _ _ _ _ _ us hl => match us, hl with | [_], _ => rfl); (case p18nf => (intro f hf; cases hf))))
    (case p19 => (refine' K00.cls_mk ?p19a ?p19x ?p19sa ?p19ga ?p19gg ?p19ty ?p19kC ?p19ha ?p19i ?p19t ?p19l ?p19c ?p19k ?p19h ?p19nf; (case p19a => k_is); (case p19x => k_is); (case p19sa => k_is); (case p19ga => k_is); (case p19gg => k_is); (case p19ty => k_is); (case p19kC => k_is); (case p19ha => k_is); (case p19i => k_is); (case p19t => k_is); (case p19l => k_is); (case p19c => k_is); (case p19k => k_is); (case p19h => exact fun _ _ _ _ _ _ us hl => match us, hl with | [_], _ => rfl); (case p19nf => (intro f hf; cases hf))))
    (case p20 => (refine' K00.cls_mk ?p20a ?p20x ?p20sa ?p20ga ?p20gg ?p20ty ?p20kC ?p20ha ?p20i ?p20t ?p20l ?p20c ?p20k ?p20h ?p20nf; (case p20a => k_is); (case p20x => k_is); (case p20sa => k_is); (case p20ga => k_is); (case p20gg => k_is); (case p20ty => k_is); (case p20kC => k_is); (case p20ha => k_is); (case p20i => k_is); (case p20t => k_is); (case p20l => k_is); (case p20c => k_is); (case p20k => k_is); (case p20h => exact fun _ _ _ _ _ _ us hl => match us, hl with | [_], _ => rfl); (case p20nf => (intro f hf; cases hf))))
    (case p21 => (refine' K00.cls_mk ?p21a ?p21x ?p21sa ?p21ga ?p21gg ?p21ty ?p21kC ?p21ha ?p21i ?p21t ?p21l ?p21c ?p21k ?p21h ?p21nf; (case p21a => k_is); (case p21x => k_is); (case p21sa => k_is); (case p21ga => k_is); (case p21gg => k_is); (case p21ty => k_is); (case p21kC => k_is); (case p21ha => k_is); (case p21i => k_is); (case p21t => k_is); (case p21l => k_is); (case p21c => k_is); (case p21k => k_is); (case p21h => exact fun _ _ _ _ _ _ us hl => match us, hl with | [_], _ => rfl); (case p21nf => (intro f hf; cases hf))))
    (case p22 => (refine' K00.cls_mk ?p22a ?p22x ?p22sa ?p22ga ?p22gg ?p22ty ?p22kC ?p22ha ?p22i ?p22t ?p22l ?p22c ?p22k ?p22h ?p22nf; (case p22a => k_is); (case p22x => k_is); (case p22sa => k_is); (case p22ga => k_is); (case p22gg => k_is); (case p22ty => k_is); (case p22kC => k_is); (case p22ha => k_is); (case p22i => k_is); (case p22t => k_is); (case p22l => k_is); (case p22c => k_is); (case p22k => k_is); (case p22h => exact fun _ _ _ _ _ _ us hl => match us, hl with | [_], _ => rfl); (case p22nf => (intro f hf; cases hf))))
    (case p23 => (refine' K00.cls_mk ?p23a ?p23x ?p23sa ?p23ga ?p23gg ?p23ty ?p23kC ?p23ha ?p23i ?p23t ?p23l ?p23c ?p23k ?p23h ?p23nf; (case p23a => k_is); (case p23x => k_is); (case p23sa => k_is); (case p23ga => k_is); (case p23gg => k_is); (case p23ty => k_is); (case p23kC => k_is); (case p23ha => k_is); (case p23i => k_is); (case p23t => k_is); (case p23l => k_is); (case p23c => k_is); (case p23k => k_is); (case p23h => exact fun _ _ _ _ _ _ us hl => match us, hl with | [_], _ => rfl); (case p23nf => (intro f hf; cases hf))))
    (case p24 => (refine' K00.cls_mk ?p24a ?p24x ?p24sa ?p24ga ?p24gg ?p24ty ?p24kC ?p24ha ?p24i ?p24t ?p24l ?p24c ?p24k ?p24h ?p24nf; (case p24a => k_is); (case p24x => k_is); (case p24sa => k_is); (case p24ga => k_is); (case p24gg => k_is); (case p24ty => k_is); (case p24kC => k_is); (case p24ha => k_is); (case p24i => k_is); (case p24t => k_is); (case p24l => k_is); (case p24c => k_is); (case p24k => k_is); (case p24h => exact fun _ _ _ _ _ _ us hl => match us, hl with | [_], _ => rfl); (case p24nf => (intro f hf; cases hf))))
    (case p25 => (refine' K00.cls_mk ?p25a ?p25x ?p25sa ?p25ga ?p25gg ?p25ty ?p25kC ?p25ha ?p25i ?p25t ?p25l ?p25c ?p25k ?p25h ?p25nf; (case p25a => k_is); (case p25x => k_is); (case p25sa => k_is); (case p25ga => k_is); (case p25gg => k_is); (case p25ty => k_is); (case p25kC => k_is); (case p25ha => k_is); (case p25i => k_is); (case p25t => k_is); (case p25l => k_is); (case p25c => k_is); (case p25k => k_is); (case p25h => exact fun _ _ _ _ _ _ us hl => match us, hl with | [_], _ => rfl); (case p25nf => (intro f hf; cases hf))))
    (case d0 => (refine' K00.def_mk ?d0a ?d0l ?d0c ?d0k ?d0h; (case d0a => k_is); (case d0l => k_is); (case d0c => k_is); (case d0k => k_is); (case d0h => exact fun _ _ _ _ _ _ us hl => match us, hl with | [_], _ => rfl)))
    (case d1 => (refine' K00.def_mk ?d1a ?d1l ?d1c ?d1k ?d1h; (case d1a => k_is); (case d1l => k_is); (case d1c => k_is); (case d1k => k_is); (case d1h => exact fun _ _ _ _ _ _ us hl => match us, hl with | [_, _], _ => rfl)))
    (case d2 => (refine' K00.def_mk ?d2a ?d2l ?d2c ?d2k ?d2h; (case d2a => k_is); (case d2l => k_is); (case d2c => k_is); (case d2k => k_is); (case d2h => exact fun _ _ _ _ _ _ us hl => match us, hl with | [_, _], _ => rfl)))
    (case d3 => (refine' K00.def_mk ?d3a ?d3l ?d3c ?d3k ?d3h; (case d3a => k_is); (case d3l => k_is); (case d3c => k_is); (case d3k => k_is); (case d3h => exact fun _ _ _ _ _ _ us hl => match us, hl with | [_, _], _ => rfl)))
    (case d4 => (refine' K00.def_mk ?d4a ?d4l ?d4c ?d4k ?d4h; (case d4a => k_is); (case d4l => k_is); (case d4c => k_is); (case d4k => k_is); (case d4h => exact fun _ _ _ _ _ _ us hl => match us, hl with | [_], _ => rfl)))
    (case d5 => (refine' K00.def_mk ?d5a ?d5l ?d5c ?d5k ?d5h; (case d5a => k_is); (case d5l => k_is); (case d5c => k_is); (case d5k => k_is); (case d5h => exact fun _ _ _ _ _ _ us hl => match us, hl with | [_, _], _ => rfl)))
    (case d6 => (refine' K00.def_mk ?d6a ?d6l ?d6c ?d6k ?d6h; (case d6a => k_is); (case d6l => k_is); (case d6c => k_is); (case d6k => k_is); (case d6h => exact fun _ _ _ _ _ _ us hl => match us, hl with | [_, _, _], _ => rfl)))
    (case d7 => (refine' K00.def_mk ?d7a ?d7l ?d7c ?d7k ?d7h; (case d7a => k_is); (case d7l => k_is); (case d7c => k_is); (case d7k => k_is); (case d7h => exact fun _ _ _ _ _ _ us hl => match us, hl with | [_], _ => rfl)))
    (case d8 => (refine' K00.def_mk ?d8a ?d8l ?d8c ?d8k ?d8h; (case d8a => k_is); (case d8l => k_is); (case d8c => k_is); (case d8k => k_is); (case d8h => exact fun _ _ _ _ _ _ us hl => match us, hl with | [_, _], _ => rfl)))
    (case d9 => (refine' K00.def_mk ?d9a ?d9l ?d9c ?d9k ?d9h; (case d9a => k_is); (case d9l => k_is); (case d9c => k_is); (case d9k => k_is); (case d9h => exact fun _ _ _ _ _ _ us hl => match us, hl with | [_, _], _ => rfl)))
    (case pL => (refine' K00.lot_mk ?pLaL ?pLpg ?pLhd ?pLpo ?pLsa ?pLn1 ?pLn2 ?pLn3 ?pLaw ?pLlw ?pLha ?pLhm ?pLmk ?pLkc ?pLi1 ?pLf1 ?pLl1 ?pLc1 ?pLk1 ?pLi2 ?pLf2 ?pLl2 ?pLc2 ?pLk2; (case pLaL => k_is); (case pLpg => k_is); (case pLhd => k_is); (case pLpo => k_is); (case pLsa => k_is); (case pLn1 => k_is); (case pLn2 => k_is); (case pLn3 => k_is); (case pLaw => k_is); (case pLlw => k_is); (case pLha => k_is); (case pLhm => k_is); (case pLmk => k_is); (case pLkc => k_is); (case pLi1 => k_is); (case pLf1 => k_is); (case pLl1 => k_is); (case pLc1 => k_is); (case pLk1 => k_is); (case pLi2 => k_is); (case pLf2 => k_is); (case pLl2 => k_is); (case pLc2 => k_is); (case pLk2 => k_is)))
    (case pW => (refine' K00.law_mk ?pWa ?pWl ?pWc ?pWk; (case pWa => k_is); (case pWl => k_is); (case pWc => k_is); (case pWk => k_is)))
    (case z0 => k_is)
    (case z1 => k_is)
    (case z2 => k_is)
    (case z3 => k_is)
    (case z4 => k_is)
    (case z5 => k_is)
    (case z6 => k_is)
    (case z7 => k_is)
    (case z8 => k_is)
    (case z9 => k_is)
    (case z10 => k_is)
    (case z11 => k_is)
    (case z12 => k_is)
#print axioms PySem.Challenge.cw_usecounts_k00_errors_of_the_package_holds
