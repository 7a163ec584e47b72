import PyProof.Rows.All
import Wide.All
import OpenK.AllK
import Wide.FinOn
import HandS.ForMost
import HandS.Exc
import HandS.TryOnly
import HandS.ExcOwn
import HandS.WordsExc
import HandS.IsInst
import HandS.ExcInit
import HandS.DeepEq
import HandS.Evl
import HandS.Walk
import HandS.ExcField
import HandS.ExcIs
import HandS.ExcValue
import HandS.OwnEq
import KE.KExcIs
import HandS.Rev
import PySem.Challenge.RW_usecounts_k06_whole_kinds_judged_and_bui
set_option Elab.async false
set_option maxRecDepth 100000
namespace K06
open PySem L2
def top (i : Nat) : Stmt := PySem.Challenge.pw_usecounts_k06_whole_kinds_judged_and_bui.main.body.getD i (.Pass ⟨0, 0, 0, 0⟩)
abbrev sHand : Stmt := top 29
abbrev sDraw : Stmt := top 30
abbrev sSome : Stmt := top 31

theorem yes_kept {A B : Hp → Prop} {σ : St} {H : Hp} (h : A H) : tYes σ H (fun b H3 => if b = true then A H3 else B H3) := by
  show (if true = true then A H else B H)
  rw [if_pos rfl]
  exact h
/-- the builtins that the text leaves alone -/
structure TxB (mg : Str → Option Value) : Prop where
  abs : mg "abs" = none
  int : mg "int" = none
  len : mg "len" = none
  isinstance : mg "isinstance" = none
  all : mg "all" = none
  range : mg "range" = none

/-- the hand of draws -/
structure HandAt (H : Hp) (p c : Addr) (cells : List Int) : Prop where
  ob : ∃ i z s n : Int, 0 ≤ i ∧ H p = some (.lst [.ref c, .int i, .int z, .int s, .int n])
  cl : H c = some (.lst (cells.map V.int))
theorem HandAt.ne {H : Hp} {p c : Addr} {cells : List Int} (h : HandAt H p c cells) : p ≠ c := by
  obtain ⟨⟨i, z, s, n, _, e⟩, k⟩ := h
  refine ne_of e k (fun z => ?_)
  cases cells with
  | nil => cases z
  | cons a l => cases z
theorem HandAt.put {H : Hp} {p c : Addr} {cells : List Int} (h : HandAt H p c cells) {i z s n : Int} (hi : 0 ≤ i) : HandAt (upd H p (.lst [.ref c, .int i, .int z, .int s, .int n])) p c cells :=
  ⟨⟨i, z, s, n, hi, upd_same⟩, by rw [upd_ne h.ne.symm]; exact h.cl⟩
theorem HandAt.keep {H H' : Hp} {p c : Addr} {cells : List Int} (h : HandAt H p c cells) (k : ∀ b, b ≠ p → H' b = H b) (e : H' p = H p) : HandAt H' p c cells := by
  obtain ⟨⟨i, z, s, n, hi, q⟩, l⟩ := id h
  exact ⟨⟨i, z, s, n, hi, by rw [e]; exact q⟩, by rw [k c h.ne.symm]; exact l⟩

def spHand (K : PySem.W.Frag) : Sp := fun vs H Q _ => ∃ (a : Addr) (ns : List Int), vs = [.ref a] ∧ SqL K H a (ns.map V.int) ∧ ns.length ≤ 1000 ∧
  ∀ (p c : Addr) (cells : List Int) (H' : Hp), Same H H' → H p = none → HandAt H' p c cells → Q (.ref p) H'
/-- a draw: some number below -/
def spDraw : Sp := fun vs H Q _ => ∃ (p c : Addr) (cells : List Int) (m : Int), vs = [.ref p, .int m] ∧ HandAt H p c cells ∧ 0 < m ∧ m < 1000000 ∧
  ∀ (r : Int) (H' : Hp), 0 ≤ r → r < m → HandAt H' p c cells → (∀ b, b ≠ p → H' b = H b) → Q (.int r) H'
def spSome (K : PySem.W.Frag) : Sp := fun vs H Q _ => ∃ (p c t : Addr) (cells : List Int) (xs : List V), vs = [.ref p, .ref t] ∧ HandAt H p c cells ∧ SqL K H t xs ∧ t ≠ p ∧ 0 < xs.length ∧ xs.length < 1000 ∧
  ∀ (k : Nat) (v : V) (H' : Hp), xs[k]? = some v → HandAt H' p c cells → (∀ b, b ≠ p → H' b = H b) → Q v H'

section
variable {P : Program} {w : World} {K : PySem.W.Frag} {mg : Str → Option Value} {base : Heap}
theorem scH : FnScope ["_law_script", "_law_cells", "_law_cell"] ["_law_script"] (defScope sHand) := ⟨rfl, rfl, rfl, by decide +kernel, rfl, by decide +kernel, by decide +kernel⟩
theorem ok_hand {f : Addr} {fd : FuncData} (F : Fun K "_law_hand" "_law_hand" sHand f fd) (T : TxB mg) : FnOk P w K mg base CX0 1 f fd ["_law_script"] (spHand K) := by
  refine F.ok scH (fun vs H Q E h => ?_) (fun cdv A outer s H vs Q E hr h => ?_)
  · obtain ⟨a, ns, rfl, _⟩ := h
    rfl
  · obtain ⟨a, ns, rfl, hS, hlen, k⟩ := h
    have hu := hu_of hr
    refine ⟨_, pss_cons (ps_setLc (i := 1) (own := [("_law_cell", 2)]) (g := gName 2) (tt := tYes) rfl scH.nd rfl rfl (sw_true rfl rfl rfl (by decide +kernel))
        (pi_list (pe_slice sl_list (pv 0) po_none (po_some pe_int))) (blkOk_by (N := ["_law_script", "_law_cells", "_law_cell"]) (sc := defScope sHand) (by decide +kernel))
        (fun _ _ _ _ _ => pg_name (i := 2) scH.nd rfl (Or.inl rfl)) (fun _ _ _ _ _ => pts_nil)
        (fun _ _ _ _ _ => pe_callB call_abs (by rfl) T.abs (by decide +kernel) (pa_cons (pe_callTy call_int1 (by rfl) T.int (by decide +kernel) (pa_cons (pv 2) pa_nil)) pa_nil)))
      (pss_one (ps_ret (pe_lst (pa_cons (pv 1) (pa_cons pe_int (pa_cons pe_int (pa_cons (pe_op op_add pe_int (pe_callB call_len (by rfl) T.len PySem.boot_len (pa_cons (pv 1) pa_nil))) (pa_cons pe_int pa_nil)))))))), ?_⟩
    refine ⟨_, rfl, 63, rfl, _, _, rfl, hS, ?_⟩
    intro sl hsl
    refine ⟨sl, rfl, ⟨_, SqL.of upd_same⟩, fun D hD => ?_⟩
    have hDs : D ≠ sl := fun e => by rw [e, upd_same] at hD; cases hD
    have hD0 : H D = none := by rw [upd_ne hDs] at hD; exact hD
    obtain ⟨zs, ez, hzl⟩ : ∃ zs : List Int, cutV (ns.map V.int) none (some 63) = zs.map V.int ∧ zs.length ≤ 1000 := by
      refine ⟨(ns.drop (HT.sIx (ns.map V.int).length 0 none)).take (HT.sIx (ns.map V.int).length (ns.map V.int).length (some 63) - HT.sIx (ns.map V.int).length 0 none), ?_, ?_⟩
      · unfold cutV
        rw [← List.map_drop, ← List.map_take]
      · rw [List.length_take, List.length_drop]; omega
    rw [ez]
    refine lc_list (K := K) (a := sl) (xs := zs.map V.int) (fun i H' => Same H H' ∧ H' sl = some (.lst (zs.map V.int)) ∧ ∃ cs : List Int, cs.length = i ∧ H' D = some (.lst (cs.map V.int)))
      ⟨fun b o e => ?_, ?_, [], rfl, upd_same⟩ (fun i H' _ p => SqL.of p.2.1) ?_ ?_
    · rw [upd_ne (ne_of_none e hD0), upd_ne (ne_of_none e hsl)]; exact e
    · rw [upd_ne hDs.symm, upd_same]
    · rintro i x H' hx ⟨h1, h2, cs, h3, h4⟩
      obtain ⟨z, rfl⟩ : ∃ z, x = V.int z := by
        rw [List.getElem?_map] at hx
        cases e : zs[i]? with
        | none => rw [e] at hx; cases hx
        | some z => rw [e] at hx; exact ⟨z, (Option.some.inj hx).symm⟩
      have hi : i < zs.length := by
        have := (List.getElem?_eq_some_iff.mp hx).1
        rwa [List.length_map] at this
      refine ⟨rfl, ?_⟩
      refine yes_kept ?_
      refine ⟨_, rfl, .inl ⟨_, rfl, _, rfl, cs.map V.int, h4, ?_, fun b o e => ?_, ?_, cs ++ [if z < 0 then -z else z], ?_, ?_⟩⟩
      · rw [List.length_map, h3]; exact small1000 (by omega)
      · rw [upd_ne (ne_of_none e hD0)]; exact h1 b o e
      · rw [upd_ne hDs.symm]; exact h2
      · rw [List.length_append, h3]; rfl
      · rw [upd_same, List.map_append]; rfl
    · rintro H' ⟨h1, h2, cs, h3, h4⟩
      refine ⟨_, rfl, _, rfl, _, _, rfl, .inl ⟨_, SqL.of h4, rfl⟩, _, _, rfl, rfl, (by show 5 ≤ sizeLine; decide), fun p hp => ?_⟩
      exact k p D cs _ (fun b o e => by rw [upd_ne (ne_of_none (h1 b o e) hp)]; exact h1 b o e) (by
        cases e : H p with
        | none => rfl
        | some o => have := h1 p o e; rw [hp] at this; cases this) ⟨⟨0, 0, _, 0, Int.le_refl _, upd_same⟩, by rw [upd_ne (ne_of_none h4 hp)]; exact h4⟩
theorem scD : FnScope ["_law_hand_here", "_law_many", "_law_cell", "_law_digit", "_law_number"] ["_law_hand_here", "_law_many"] (defScope sDraw) := ⟨rfl, rfl, rfl, by decide +kernel, rfl, by decide +kernel, by decide +kernel⟩
theorem ok_draw {f : Addr} {fd : FuncData} (F : Fun K "_law_draw" "_law_draw" sDraw f fd) (T : TxB mg) : FnOk P w K mg base CX0 1 f fd ["_law_hand_here", "_law_many"] spDraw := by
  refine F.ok scD (fun vs H Q E h => ?_) (fun cdv A outer s H vs Q E hr h => ?_)
  · obtain ⟨p, c, cells, m, rfl, _⟩ := h
    rfl
  · obtain ⟨p, c, cells, m, rfl, hA, hm, hm2, k⟩ := h
    have hu := hu_of hr
    have nd := scD.nd
    refine ⟨_, Evl.pss_cut (ps_if (PW.pt (pw_and (pt_cmpR op_eq (pe_ix ix_list (pv 0) pe_int (fun _ _ => rfl)) pe_int (nomark _))
          (pw_and1 (pt_cmpR op_lt (pe_ix ix_list (pv 0) pe_int (fun _ _ => rfl)) (pe_callB call_len (by rfl) T.len PySem.boot_len (pa_cons (pe_ix ix_list (pv 0) pe_int (fun _ _ => rfl)) pa_nil)) (nomark _)))))
        (pss_cons (ps_set (i := 2) nd rfl (Or.inl rfl) (pe_ix ix_list (pe_ix ix_list (pv 0) pe_int (fun _ _ => rfl)) (pe_ix ix_list (pv 0) pe_int (fun _ _ => rfl)) (fun _ _ => rfl)))
        (pss_cons (ps_asg (pe_op op_add (pe_ix ix_list (pv 0) pe_int (fun _ _ => rfl)) pe_int) (pg_sub (pv 0) pe_int set_list))
        (pss_cons (ps_asg (pe_op op_mod (pe_callTy call_int1 (by rfl) T.int (by decide +kernel) (pa_cons (pe_op op_add (pe_op op_add (pe_op op_mul (pe_ix ix_list (pv 0) pe_int (fun _ _ => rfl)) pe_int) (pv 2)) pe_int) pa_nil)) pe_int) (pg_sub (pv 0) pe_int set_list))
        (pss_one (ps_if (pt_cmpR op_ge (pv 2) (pe_op op_pow pe_int pe_int) (nomark _)) (pss_one (ps_asg (pv 2) (pg_sub (pv 0) pe_int set_list))) pss_nil)))))
        pss_nil)
      (pss_cons (ps_if (pt_cmpR op_gt (pe_ix ix_list (pv 0) pe_int (fun _ _ => rfl)) pe_int (nomark _))
        (pss_cons (ps_set (i := 3) nd rfl (Or.inl rfl) (pe_op op_mod (pe_callTy call_int1 (by rfl) T.int (by decide +kernel) (pa_cons (pe_ix ix_list (pv 0) pe_int (fun _ _ => rfl)) pa_nil)) (pv 1)))
        (pss_cons (ps_asg (pe_op op_fdivN (pe_ix ix_list (pv 0) pe_int (fun _ _ => rfl)) (pv 1)) (pg_sub (pv 0) pe_int set_list))
        (pss_one (ps_ret (pv 3))))) pss_nil)
      (pss_cons (ps_asg (pe_op op_add (pe_ix ix_list (pv 0) pe_int (fun _ _ => rfl)) pe_int) (pg_sub (pv 0) pe_int set_list))
      (pss_cons (ps_set (i := 4) nd rfl (Or.inl rfl) (pe_op op_mod (pe_callTy call_int1 (by rfl) T.int (by decide +kernel) (pa_cons (pe_op op_mul (pe_callTy call_int1 (by rfl) T.int (by decide +kernel) (pa_cons (pe_op op_add (pe_ix ix_list (pv 0) pe_int (fun _ _ => rfl)) (pe_op op_mul pe_int (pe_ix ix_list (pv 0) pe_int (fun _ _ => rfl)))) pa_nil)) pe_int) pa_nil)) pe_int))
      (pss_cons (ps_set (i := 4) nd rfl (Or.inl rfl) (pe_op op_mod (pe_callTy call_int1 (by rfl) T.int (by decide +kernel) (pa_cons (pe_op op_mul (pv 4) (pe_op op_add (pe_op op_fdiv (pv 4) pe_int) pe_int)) pa_nil)) pe_int))
      (pss_cons (ps_set (i := 4) nd rfl (Or.inl rfl) (pe_op op_mod (pe_callTy call_int1 (by rfl) T.int (by decide +kernel) (pa_cons (pe_op op_mul (pv 4) (pe_op op_add (pe_op op_fdiv (pv 4) pe_int) pe_int)) pa_nil)) pe_int))
      (pss_one (ps_ret (pe_op op_mod (pe_callTy call_int1 (by rfl) T.int (by decide +kernel) (pa_cons (pe_op op_fdiv (pv 4) pe_int) pa_nil)) (pv 1))))))))), ?_⟩
    obtain ⟨⟨i, z, s0, n, hi, hp⟩, hc⟩ := id hA
    have nep := hA.ne
    refine ⟨fun σ' H' => ∃ (i z s n : Int) (v : Option V), 0 ≤ i ∧ σ' = [some (.ref p), some (.int m), v, none, none] ∧ H' p = some (.lst [.ref c, .int i, .int z, .int s, .int n]) ∧ (∀ b, b ≠ p → H' b = H b), ?_, ?_⟩
    · -- hand[2] == 0 and hand[1] < len(hand[0])
      refine ⟨_, rfl, p, _, _, _, rfl, rfl, SqL.of hp, rfl, rfl, _, rfl, ?_⟩
      refine ite2 (fun _ => ?_) (fun _ => ?_)
      · refine ⟨_, rfl, p, _, _, _, rfl, rfl, SqL.of hp, rfl, _, rfl, p, _, _, _, rfl, rfl, SqL.of hp, rfl, _, _, rfl, .inl ⟨_, SqL.of hc, rfl⟩, _, _, rfl, rfl, _, rfl, ?_⟩
        refine ite2 (fun e1 => ?_) (fun _ => ?_)
        · have e2 : i < (cells.length : Int) := by
            have := of_decide_eq_true e1
            rw [List.length_map] at this
            exact this
          obtain ⟨j, rfl⟩ := Int.eq_ofNat_of_zero_le hi
          have hj : j < cells.length := by omega
          have hat : atI (cells.map V.int) (j : Int) = some (.int cells[j]) := atI_nat (by rw [List.getElem?_map, List.getElem?_eq_getElem hj]; rfl)
          refine ⟨_, rfl, p, _, _, _, rfl, rfl, SqL.of hp, rfl, _, rfl, p, _, _, _, rfl, rfl, SqL.of hp, rfl, c, _, _, _, rfl, rfl, SqL.of hc, hat, ?_⟩
          refine ⟨_, rfl, p, _, _, _, rfl, rfl, SqL.of hp, rfl, _, _, rfl, rfl, _, rfl, p, _, _, 1, rfl, rfl, hp, rfl, ?_⟩
          refine ⟨_, rfl, p, _, _, _, rfl, rfl, SqL.of upd_same, rfl, _, _, rfl, rfl, .inr ⟨by decide, by decide⟩, _, rfl, _, _, rfl, rfl, _, _, rfl, rfl, .inl ⟨_, rfl, _, _, rfl, rfl, (by show (0 : Int) < 2147483629; decide), _, rfl, p, _, _, 3, rfl, rfl, upd_same, rfl, ?_⟩⟩
          refine ⟨_, rfl, _, _, rfl, rfl, ⟨by decide, by decide, by decide⟩, _, _, rfl, rfl, _, rfl, ?_⟩
          refine ite2 (fun _ => ?_) (fun _ => ?_)
          · refine ⟨_, rfl, _, rfl, p, _, _, 2, rfl, rfl, upd_same, rfl, (j : Int) + 1, _, _, _, some (.int cells[j]), by omega, rfl, upd_same, fun b hb => by rw [upd_ne hb, upd_ne hb, upd_ne hb]⟩
          · exact ⟨(j : Int) + 1, _, _, _, some (.int cells[j]), by omega, rfl, upd_same, fun b hb => by rw [upd_ne hb, upd_ne hb]⟩
        · exact ⟨i, z, s0, n, none, hi, rfl, hp, fun _ _ => rfl⟩
      · exact ⟨i, z, s0, n, none, hi, rfl, hp, fun _ _ => rfl⟩
    · clear hi hp i z s0 n
      rintro _ H1 ⟨i, z, s0, n, v, hi, rfl, hp, kp⟩
      have hc1 : H1 c = some (.lst (cells.map V.int)) := by rw [kp c nep.symm]; exact hc
      have fin : ∀ (r : Int) (i z s n : Int) (H2 : Hp), 0 ≤ r → r < m → 0 ≤ i → H2 p = some (.lst [.ref c, .int i, .int z, .int s, .int n]) → (∀ b, b ≠ p → H2 b = H1 b) → Q (.int r) H2 :=
        fun r i z s n H2 h0 h1 hi h2 h3 => k r H2 h0 h1 ⟨⟨i, z, s, n, hi, h2⟩, by rw [h3 c nep.symm]; exact hc1⟩ fun b hb => (h3 b hb).trans (kp b hb)
      -- hand[2] > 0
      refine ⟨_, rfl, p, _, _, _, rfl, rfl, SqL.of hp, rfl, _, _, rfl, rfl, _, rfl, ?_⟩
      refine ite2 (fun _ => ?_) (fun _ => ?_)
      · refine ⟨_, rfl, p, _, _, _, rfl, rfl, SqL.of hp, rfl, .inl ⟨_, rfl, _, rfl, _, _, rfl, rfl, hm, ?_⟩⟩
        refine ⟨_, rfl, p, _, _, _, rfl, rfl, SqL.of hp, rfl, _, rfl, _, _, rfl, rfl, ⟨by omega, by omega⟩, _, rfl, p, _, _, 2, rfl, rfl, hp, rfl, _, rfl, ?_⟩
        exact fin _ i _ _ _ _ (Int.emod_nonneg _ (by omega)) (Int.emod_lt_of_pos _ hm) hi upd_same fun b hb => upd_ne hb
      · refine ⟨_, rfl, p, _, _, _, rfl, rfl, SqL.of hp, rfl, _, _, rfl, rfl, _, rfl, p, _, _, 4, rfl, rfl, hp, rfl, ?_⟩
        refine ⟨_, rfl, p, _, _, _, rfl, rfl, SqL.of upd_same, rfl, _, rfl, p, _, _, _, rfl, rfl, SqL.of upd_same, rfl, _, _, rfl, rfl, .inl ⟨by decide, by decide⟩, _, _, rfl, rfl, .inl ⟨_, rfl, _, _, rfl, rfl, .inr ⟨by decide, by decide⟩, .inl ⟨_, rfl, _, _, rfl, rfl, (by show (0 : Int) < 2147483647; decide), ?_⟩⟩⟩
        dsimp only
        generalize hn1 : ((s0 + 7919 * (n + 1)) * 48271) % 2147483647 = n1
        have b1 : 0 ≤ n1 := by rw [← hn1]; exact Int.emod_nonneg _ (by decide)
        have b2 : n1 < 2147483647 := by rw [← hn1]; exact Int.emod_lt_of_pos _ (by decide)
        clear hn1
        refine ⟨_, rfl, _, rfl, _, _, rfl, rfl, ⟨by decide, by decide⟩, _, _, rfl, rfl, _, _, rfl, rfl, .inl ⟨by omega, by omega⟩, .inl ⟨_, rfl, _, _, rfl, rfl, (by show (0 : Int) < 2147483647; decide), ?_⟩⟩
        dsimp only
        generalize hn2 : (n1 * (n1 / 1009 + 69621)) % 2147483647 = n2
        have b3 : 0 ≤ n2 := by rw [← hn2]; exact Int.emod_nonneg _ (by decide)
        have b4 : n2 < 2147483647 := by rw [← hn2]; exact Int.emod_lt_of_pos _ (by decide)
        clear hn2
        refine ⟨_, rfl, _, rfl, _, _, rfl, rfl, ⟨by decide, by decide⟩, _, _, rfl, rfl, _, _, rfl, rfl, .inl ⟨by omega, by omega⟩, .inl ⟨_, rfl, _, _, rfl, rfl, (by show (0 : Int) < 2147483399; decide), ?_⟩⟩
        refine ⟨_, rfl, _, _, rfl, rfl, ⟨by decide, by decide⟩, .inl ⟨_, rfl, _, rfl, _, _, rfl, rfl, hm, ?_⟩⟩
        exact fin _ i _ _ _ _ (Int.emod_nonneg _ (by omega)) (Int.emod_lt_of_pos _ hm) hi upd_same fun b hb => upd_ne hb
theorem scS : FnScope ["_law_hand_here", "_law_things"] ["_law_hand_here", "_law_things"] (defScope sSome) := ⟨rfl, rfl, rfl, by decide +kernel, rfl, by decide +kernel, by decide +kernel⟩
theorem ok_some {f fD : Addr} {fd fdD : FuncData} (F : Fun K "_law_some" "_law_some" sSome f fd) (T : TxB mg) (FD : Fun K "_law_draw" "_law_draw" sDraw fD fdD) (bD : Binds K fdD ["_law_hand_here", "_law_many"] []) (mD : mg "_law_draw" = some (.ref fD)) :
    FnOk P w K mg base CX0 2 f fd ["_law_hand_here", "_law_things"] (spSome K) := by
  have GD : FnOk P w K mg base CX0 1 fD fdD ["_law_hand_here", "_law_many"] spDraw := ok_draw FD T
  refine F.ok scS (fun vs H Q E h => ?_) (fun cdv A outer s H vs Q E hr h => ?_)
  · obtain ⟨p, c, t, cells, xs, rfl, _⟩ := h
    rfl
  · obtain ⟨p, c, t, cells, xs, rfl, hA, hT, hn, h0, h1, k⟩ := h
    refine ⟨_, pss_one (ps_ret (pe_ix ix_list (pv 1) (pe_call GD hr (by rfl) mD FD.kp bD .nil pass0 (pa_cons (pv 0) (pa_cons (pe_callB call_len (by rfl) T.len PySem.boot_len (pa_cons (pv 1) pa_nil)) pa_nil))) (fun _ _ => rfl))), ?_⟩
    refine ⟨_, rfl, _, rfl, _, rfl, _, _, rfl, .inl ⟨_, hT, rfl⟩, p, c, cells, _, rfl, hA, by omega, by omega, fun r H' h2 h3 hA' kp => ?_⟩
    obtain ⟨j, rfl⟩ := Int.eq_ofNat_of_zero_le h2
    have hj : j < xs.length := by omega
    have hT' : SqL K H' t xs := by
      rcases hT with q | q
      · exact .inl (by unfold Rd; rw [kp t hn]; exact q)
      · exact .inr q
    exact ⟨t, xs, _, _, rfl, rfl, hT', atI_nat (List.getElem?_eq_getElem hj), k j _ H' (List.getElem?_eq_getElem hj) hA' kp⟩
end
end K06

set_option Elab.async false
set_option linter.all false
set_option maxRecDepth 100000
namespace K06
open PySem L2
/-! ### things as data: an int, a truth value, what is neither nor a tuple, a tuple of another length, a pair -/
inductive Th where
  | int (i : Int) | bl (b : Bool) | non | tup | pr (l r : Th)
namespace Th
def size : Th → Nat
  | .pr l r => l.size + r.size + 1
  | _ => 1
def letter : Th → Bool
  | .int i => decide (0 ≤ i) && decide (i ≤ 25)
  | _ => false
/-- a kind of any size -/
def any : Th → Bool
  | .pr l r => l.any && r.any
  | t => t.letter
/-- a kind nested at most so deep -/
def ok : Nat → Th → Bool
  | 0, t => t.letter
  | m + 1, .pr l r => ok m l && ok m r
  | _ + 1, t => t.letter
def letters : Th → Nat
  | .pr l r => l.letters + r.letters
  | .int _ => 1
  | _ => 0
def isKind (t : Th) : Bool := t.ok 30 && decide (t.letters ≤ 60)
theorem ok_pr {m : Nat} {l r : Th} : ok (m + 1) (.pr l r) = (ok m l && ok m r) := rfl
theorem ok_of_letter {m : Nat} {t : Th} (h : t.letter = true) : t.ok m = true ∧ t.letters = 1 := by
  cases t with
  | int i => cases m <;> exact ⟨h, rfl⟩
  | bl b => cases h
  | non => cases h
  | tup => cases h
  | pr l r => cases h
theorem size_pos (t : Th) : 0 < t.size := by cases t <;> simp [size]
end Th
/-- the judging of what waits: (thing, how deep) -/
def jud (c : Nat) (ws : List (Th × Nat)) : Bool := ws.all (fun w => w.1.ok (30 - w.2)) && decide (c + (ws.map (·.1.letters)).sum ≤ 60)
theorem jud_letter {c : Nat} {ws : List (Th × Nat)} {t : Th} {d : Nat} (h : t.letter = true) : jud c (ws ++ [(t, d)]) = jud (c + 1) ws := by
  unfold jud
  have e := Th.ok_of_letter (m := 30 - d) h
  simp only [List.all_append, List.all_cons, List.all_nil, List.map_append, List.map_cons, List.map_nil, List.sum_append, List.sum_cons, List.sum_nil, e.1, e.2, Bool.and_true]
  have q : c + ((ws.map (·.1.letters)).sum + (1 + 0)) = c + 1 + (ws.map (·.1.letters)).sum := by omega
  rw [q]
theorem jud_pair {c : Nat} {ws : List (Th × Nat)} {l r : Th} {d : Nat} (h : d < 30) : jud c (ws ++ [(.pr l r, d)]) = jud c (ws ++ [(l, d + 1), (r, d + 1)]) := by
  unfold jud
  have e : 30 - d = (30 - (d + 1)) + 1 := by omega
  have q : c + ((ws.map (·.1.letters)).sum + (l.letters + r.letters + 0)) = c + ((ws.map (·.1.letters)).sum + (l.letters + (r.letters + 0))) := by omega
  simp only [List.all_append, List.all_cons, List.all_nil, List.map_append, List.map_cons, List.map_nil, List.sum_append, List.sum_cons, List.sum_nil, Bool.and_true, e, Th.ok_pr, Th.letters, q]
theorem jud_bad {c : Nat} {ws : List (Th × Nat)} {t : Th} {d : Nat} (h1 : t.letter = false) (h2 : ∀ l r, t = .pr l r → ¬ d < 30) : jud c (ws ++ [(t, d)]) = false := by
  unfold jud
  have e : t.ok (30 - d) = false := by
    cases t with
    | pr l r =>
      have := h2 l r rfl
      have e : 30 - d = 0 := by omega
      rw [e]; rfl
    | int i => cases h3 : 30 - d <;> exact h1
    | bl b => cases h3 : 30 - d <;> rfl
    | non => cases h3 : 30 - d <;> rfl
    | tup => cases h3 : 30 - d <;> rfl
  simp [e]
theorem jud_many {c : Nat} {ws : List (Th × Nat)} (h : ¬ c ≤ 60) : jud c ws = false := by
  unfold jud
  rw [Bool.and_eq_false_iff]; exact .inr (decide_eq_false (by omega))
theorem jud_nil {c : Nat} : jud c [] = decide (c ≤ 60) := by simp [jud]
theorem jud_one {t : Th} : jud 0 [(t, 0)] = t.isKind := by simp [jud, Th.isKind]
/-! ### where a thing stands -/
theorem tyx_same {K : PySem.W.Frag} {H H' : Hp} {v : V} {t : Value} (s : Same H H') (h : TyX K H v t) : TyX K H' v t := by
  cases h with
  | base b =>
    cases b with
    | non => exact .base .non
    | bl x => exact .base (.bl x)
    | int i => exact .base (.int i)
    | str x => exact .base (.str x)
    | flt x => exact .base (.flt x)
    | lst e => exact .base (.lst (s _ _ e))
    | frz e => exact .base (.frz (s _ _ e))
    | tup e => exact .base (.tup (s _ _ e))
    | dK e => exact .base (.dK (s _ _ e))
    | dT e => exact .base (.dT (s _ _ e))
    | ins e cl ha hn htk hm => exact .base (.ins (s _ _ e) cl ha hn htk hm)
  | byt b => exact .byt b
  | set e => exact .set (s _ _ e)
  | kList e c => exact .kList e c
  | kTuple e c => exact .kTuple e c
  | kDict e c => exact .kDict e c
  | fTuple e => exact .fTuple (s _ _ e)
  | fDict e => exact .fDict (s _ _ e)
def NonAt (K : PySem.W.Frag) (H : Hp) (v : V) : Prop := ∃ tv, TyX K H v tv ∧ PySem.W.kitOne K tv (.type "int") = some false ∧ PySem.W.kitOne K tv (.type "tuple") = some false
def ThAt (K : PySem.W.Frag) (H : Hp) : Th → V → Prop
  | .int i, v => v = .int i
  | .bl b, v => v = .bl b
  | .non, v => NonAt K H v
  | .tup, v => ∃ a xs, v = .ref a ∧ H a = some (.tup xs) ∧ xs.length ≠ 2
  | .pr l r, v => ∃ a x y, v = .ref a ∧ H a = some (.tup [x, y]) ∧ ThAt K H l x ∧ ThAt K H r y
theorem ThAt.same {K : PySem.W.Frag} {H H' : Hp} (s : Same H H') : ∀ {t : Th} {v : V}, ThAt K H t v → ThAt K H' t v
  | .int _, _, h => h
  | .bl _, _, h => h
  | .non, _, ⟨tv, h1, h2⟩ => ⟨tv, tyx_same s h1, h2⟩
  | .tup, _, ⟨a, xs, e, h, l⟩ => ⟨a, xs, e, s _ _ h, l⟩
  | .pr _ _, _, ⟨a, x, y, e, h, hl, hr⟩ => ⟨a, x, y, e, s _ _ h, hl.same s, hr.same s⟩
def Th.isI : Th → Bool
  | .int _ => true
  | .bl _ => true
  | _ => false
def Th.isB : Th → Bool
  | .bl _ => true
  | _ => false
def Th.isT : Th → Bool
  | .tup => true
  | .pr _ _ => true
  | _ => false
/-- its type, as isinstance asks it -/
theorem ThAt.ty {K : PySem.W.Frag} {H : Hp} {t : Th} {v : V} (h : ThAt K H t v) : ∃ tv, TyX K H v tv ∧ PySem.W.kitOne K tv (.type "int") = some t.isI ∧ (t.isI = true → PySem.W.kitOne K tv (.type "bool") = some t.isB) ∧ PySem.W.kitOne K tv (.type "tuple") = some t.isT := by
  cases t with
  | int i =>
    have e : v = .int i := h
    subst e
    exact ⟨_, .base (.int i), kit_ty (r := true) (by decide +kernel), fun _ => kit_ty (r := false) (by decide +kernel), kit_ty (r := false) (by decide +kernel)⟩
  | bl b =>
    have e : v = .bl b := h
    subst e
    exact ⟨_, .base (.bl b), kit_ty (r := true) (by decide +kernel), fun _ => kit_ty (r := true) (by decide +kernel), kit_ty (r := false) (by decide +kernel)⟩
  | non =>
    obtain ⟨tv, h1, h2, h3⟩ := h
    exact ⟨tv, h1, h2, fun z => (by cases z), h3⟩
  | tup =>
    obtain ⟨a, xs, rfl, h, l⟩ := h
    exact ⟨_, .base (.tup h), kit_ty (r := false) (by decide +kernel), fun z => (by cases z), kit_ty (r := true) (by decide +kernel)⟩
  | pr l r =>
    obtain ⟨a, x, y, rfl, h, _⟩ := h
    exact ⟨_, .base (.tup h), kit_ty (r := false) (by decide +kernel), fun z => (by cases z), kit_ty (r := true) (by decide +kernel)⟩
theorem same_refl (H : Hp) : Same H H := fun _ _ e => e
theorem same_trans {H H' H'' : Hp} (a : Same H H') (b : Same H' H'') : Same H H'' := fun c o e => b c o (a c o e)
theorem same_new {H H' : Hp} {p : Addr} {o : HO} (s : Same H H') (hp : H' p = none) : Same H (upd H' p o) := fun b u e => by rw [upd_ne (ne_of_none (s b u e) hp)]; exact s b u e
theorem same_none {H H' : Hp} {p : Addr} (s : Same H H') (hp : H' p = none) : H p = none := by
  cases e : H p with
  | none => rfl
  | some o => have := s p o e; rw [hp] at this; cases this
theorem ifT {c : Bool} {A B : Prop} (hc : c = true) (h : A) : if c = true then A else B := by
  rw [if_pos hc]
  exact h
theorem ifF {c : Bool} {A B : Prop} (hc : c = false) (h : B) : if c = true then A else B := by
  rw [hc, if_neg Bool.false_ne_true]
  exact h
end K06

set_option Elab.async false
set_option linter.all false
set_option maxRecDepth 100000
set_option maxHeartbeats 2000000
namespace K06
open PySem L2
abbrev sInteger : Stmt := top 2
abbrev sWithin : Stmt := top 3
abbrev sPair : Stmt := top 4
abbrev sLetter : Stmt := top 13
abbrev sKind : Stmt := top 14
abbrev sAny : Stmt := top 15
/-- further names of the text -/
structure TxD (mg : Str → Option Value) : Prop where
  tuple : mg "tuple" = none
  list : mg "list" = none
  dict : mg "dict" = none
  bool : mg "bool" = none
  last : ∃ u, mg "LAST_LETTER" = some (.int 25 u)
  most : ∃ u, mg "MOST_LETTERS" = some (.int 60 u)
  deep : ∃ u, mg "MOST_DEEP" = some (.int 30 u)
/-- a def of the text that is called: where it stands, how its arguments bind -/
structure Fn (K : PySem.W.Frag) (mg : Str → Option Value) (x : Str) (st : Stmt) (ps : List Str) (f : Addr) (fd : FuncData) : Prop where
  F : Fun K x x st f fd
  b : Binds K fd ps []
  m : mg x = some (.ref f)
def Th.isInt : Th → Bool
  | .int _ => true
  | _ => false
def Th.isPr : Th → Bool
  | .pr _ _ => true
  | _ => false
theorem letter_int {t : Th} (h : t.isInt = false) : t.letter = false := by
  cases t <;> first | rfl | cases h
def spInteger (K : PySem.W.Frag) : Sp := fun vs H Q _ => ∃ (v : V) (t : Th), vs = [v] ∧ ThAt K H t v ∧ Q (.bl t.isInt) H
def spWithin (K : PySem.W.Frag) : Sp := fun vs H Q _ => ∃ (v : V) (t : Th), vs = [.int 0, .int 25, v] ∧ ThAt K H t v ∧ Q (.bl t.letter) H
def spPair (K : PySem.W.Frag) : Sp := fun vs H Q _ => ∃ (v : V) (t : Th), vs = [v] ∧ ThAt K H t v ∧ Q (.bl t.isPr) H
def spLetter (K : PySem.W.Frag) : Sp := fun vs H Q _ => ∃ (v : V) (t : Th), vs = [v] ∧ ThAt K H t v ∧ Q (.bl t.letter) H
section
variable {P : Program} {w : World} {K : PySem.W.Frag} {mg : Str → Option Value} {base : Heap}
theorem scInteger : FnScope ["thing"] ["thing"] (defScope sInteger) := ⟨rfl, rfl, rfl, by decide +kernel, rfl, by decide +kernel, by decide +kernel⟩
theorem ok_integer {f : Addr} {fd : FuncData} (F : Fn K mg "is_integer" sInteger ["thing"] f fd) (T : TxB mg) (T2 : TxD mg) : FnOk P w K mg base CX0 1 f fd ["thing"] (spInteger K) := by
  refine F.F.ok scInteger (fun vs H Q E h => ?_) (fun cdv A outer s H vs Q E hr h => ?_)
  · obtain ⟨v, t, rfl, _⟩ := h
    rfl
  · obtain ⟨v, t, rfl, hv, k⟩ := h
    obtain ⟨tv, ty, k1, k2, k3⟩ := hv.ty
    refine ⟨_, pss_one (ps_ret (pe_and (pe_callB call_isi (by rfl) T.isinstance (by decide +kernel) (pa_cons (pv 0) (pa_cons (pe_bltn (v := .ty "int") (by rfl) T.int (by decide +kernel) rfl) pa_nil)))
      (pe_one (pe_not (pe_callB call_isi (by rfl) T.isinstance (by decide +kernel) (pa_cons (pv 0) (pa_cons (pe_bltn (v := .ty "bool") (by rfl) T2.bool (by decide +kernel) rfl) pa_nil))))))), ?_⟩
    refine ⟨_, rfl, _, _, _, _, _, rfl, .ty _, ty, k1, _, rfl, ?_⟩
    refine ite2 (fun c => ?_) (fun c => ?_)
    · refine ⟨_, rfl, _, _, _, _, _, rfl, .ty _, ty, k2 c, _, rfl, ?_⟩
      have e : t.isInt = !t.isB := by cases t <;> first | rfl | cases c
      rw [← e]
      exact k
    · have e : t.isInt = false := by cases t <;> first | rfl | exact absurd rfl c
      rw [← e]
      exact k
theorem scWithin : FnScope ["low", "high", "thing"] ["low", "high", "thing"] (defScope sWithin) := ⟨rfl, rfl, rfl, by decide +kernel, rfl, by decide +kernel, by decide +kernel⟩
theorem ok_within {f f1 : Addr} {fd fd1 : FuncData} (F : Fn K mg "is_integer_within" sWithin ["low", "high", "thing"] f fd) (N1 : Fn K mg "is_integer" sInteger ["thing"] f1 fd1) (T : TxB mg) (T2 : TxD mg) : FnOk P w K mg base CX0 2 f fd ["low", "high", "thing"] (spWithin K) := by
  have G1 : FnOk P w K mg base CX0 1 f1 fd1 ["thing"] (spInteger K) := ok_integer N1 T T2
  refine F.F.ok scWithin (fun vs H Q E h => ?_) (fun cdv A outer s H vs Q E hr h => ?_)
  · obtain ⟨v, t, rfl, _⟩ := h
    rfl
  · obtain ⟨v, t, rfl, hv, k⟩ := h
    refine ⟨_, pss_one (ps_ret (pe_and (pe_call G1 hr (by rfl) N1.m N1.F.kp N1.b .nil pass0 (pa_cons (pv 2) pa_nil)) (pe_one (pe_chain op_le op_le (pv 0) (pv 2) (pv 1))))), ?_⟩
    refine ⟨_, rfl, v, t, rfl, hv, _, rfl, ?_⟩
    refine ite2 (fun c => ?_) (fun c => ?_)
    · obtain ⟨i, rfl⟩ : ∃ i, t = .int i := by cases t <;> first | exact ⟨_, rfl⟩ | cases c
      obtain rfl : v = .int i := hv
      refine ⟨_, rfl, _, rfl, _, _, rfl, rfl, _, rfl, ?_⟩
      refine ite2 (fun c2 => ?_) (fun c2 => ?_)
      · refine ⟨_, rfl, _, _, rfl, rfl, ?_⟩
        have e : Th.letter (.int i) = decide (i ≤ 25) := by show (decide (0 ≤ i) && decide (i ≤ 25)) = _; rw [c2, Bool.true_and]
        rw [e] at k
        exact k
      · have e : Th.letter (.int i) = false := by show (decide (0 ≤ i) && decide (i ≤ 25)) = _; rw [Bool.eq_false_iff.mpr c2, Bool.false_and]
        rw [e] at k
        exact k
    · rw [letter_int (Bool.eq_false_iff.mpr c)] at k
      exact k
theorem scPair : FnScope ["thing"] ["thing"] (defScope sPair) := ⟨rfl, rfl, rfl, by decide +kernel, rfl, by decide +kernel, by decide +kernel⟩
theorem ok_pair {f : Addr} {fd : FuncData} (F : Fn K mg "is_pair" sPair ["thing"] f fd) (T : TxB mg) (T2 : TxD mg) : FnOk P w K mg base CX0 1 f fd ["thing"] (spPair K) := by
  refine F.F.ok scPair (fun vs H Q E h => ?_) (fun cdv A outer s H vs Q E hr h => ?_)
  · obtain ⟨v, t, rfl, _⟩ := h
    rfl
  · obtain ⟨v, t, rfl, hv, k⟩ := h
    obtain ⟨tv, ty, k1, k2, k3⟩ := hv.ty
    refine ⟨_, pss_one (ps_ret (pe_and (pe_callB call_isi (by rfl) T.isinstance (by decide +kernel) (pa_cons (pv 0) (pa_cons (pe_bltn (v := .ty "tuple") (by rfl) T2.tuple (by decide +kernel) rfl) pa_nil)))
      (pe_one (pe_cmpR op_eq (pe_callB call_len (by rfl) T.len PySem.boot_len (pa_cons (pv 0) pa_nil)) pe_int (nomark _))))), ?_⟩
    refine ⟨_, rfl, _, _, _, _, _, rfl, .ty _, ty, k3, _, rfl, ?_⟩
    refine ite2 (fun c => ?_) (fun c => ?_)
    · cases t with
      | int i => cases c
      | bl b => cases c
      | non => cases c
      | tup =>
        obtain ⟨a, xs, rfl, h, l⟩ := hv
        refine ⟨_, rfl, _, _, rfl, .inr ⟨xs, SqT.of h, rfl⟩, rfl, ?_⟩
        rw [decide_eq_false (fun z => l (by have := V.int.inj z; omega))]
        exact k
      | pr l r =>
        obtain ⟨a, x, y, rfl, h, _⟩ := hv
        exact ⟨_, rfl, _, _, rfl, .inr ⟨_, SqT.of h, rfl⟩, rfl, k⟩
    · have e : t.isPr = false := by cases t <;> first | rfl | exact absurd rfl c
      rw [e] at k
      exact k
theorem scLetter : FnScope ["thing"] ["thing"] (defScope sLetter) := ⟨rfl, rfl, rfl, by decide +kernel, rfl, by decide +kernel, by decide +kernel⟩
theorem ok_letter {f f1 f2 : Addr} {fd fd1 fd2 : FuncData} (F : Fn K mg "is_letter" sLetter ["thing"] f fd) (N2 : Fn K mg "is_integer_within" sWithin ["low", "high", "thing"] f2 fd2) (N1 : Fn K mg "is_integer" sInteger ["thing"] f1 fd1) (T : TxB mg) (T2 : TxD mg) : FnOk P w K mg base CX0 3 f fd ["thing"] (spLetter K) := by
  have G2 : FnOk P w K mg base CX0 2 f2 fd2 ["low", "high", "thing"] (spWithin K) := ok_within N2 N1 T T2
  obtain ⟨u, hu⟩ := T2.last
  refine F.F.ok scLetter (fun vs H Q E h => ?_) (fun cdv A outer s H vs Q E hr h => ?_)
  · obtain ⟨v, t, rfl, _⟩ := h
    rfl
  · obtain ⟨v, t, rfl, hv, k⟩ := h
    refine ⟨_, pss_one (ps_ret (pe_call G2 hr (by rfl) N2.m N2.F.kp N2.b .nil pass0 (pa_cons pe_int (pa_cons (pe_glob (v := .int 25) (by rfl) hu ⟨_, rfl⟩) (pa_cons (pv 0) pa_nil))))), ?_⟩
    exact ⟨_, rfl, v, t, rfl, hv, k⟩
end
/-- what waits: the thing, how deep, its tuple, its value -/
structure Wt where
  t : Th
  d : Nat
  a : Addr
  v : V
def wsz (ws : List Wt) : Nat := (ws.map (·.t.size)).sum
def WtAt (K : PySem.W.Frag) (H H' : Hp) (s : Wt) : Prop := H' s.a = some (.tup [s.v, .int (s.d : Int)]) ∧ ThAt K H s.t s.v
def jws (c : Nat) (ws : List Wt) : Bool := jud c (ws.map fun s => (s.t, s.d))
def spKind (K : PySem.W.Frag) : Sp := fun vs H Q _ => ∃ (v : V) (t : Th), vs = [v] ∧ ThAt K H t v ∧ t.size ≤ 10000 ∧ ∀ H', Same H H' → Q (.bl t.isKind) H'
theorem nil_or_snoc {α : Type} (l : List α) : l = [] ∨ ∃ l' x, l = l' ++ [x] := by
  rcases List.eq_nil_or_concat l with h | ⟨l', x, h⟩
  · exact .inl h
  · exact .inr ⟨l', x, by rw [h, List.concat_eq_append]⟩
def fa (s : Wt) : V := .ref s.a
/-- between two turns of is_kind -/
def KW (K : PySem.W.Frag) (H : Hp) (t : Th) (v : V) (wl : Addr) : Nat → St → Hp → Prop := fun m σ H' => ∃ (ws : List Wt) (c : Nat) (p3 p4 : Option V), m = wsz ws ∧ σ = [some v, some (.int (c : Int)), some (.ref wl), p3, p4] ∧ Same H H' ∧
  H' wl = some (.lst (ws.map fa)) ∧ (∀ s ∈ ws, WtAt K H H' s) ∧ jws c ws = t.isKind ∧ wsz ws ≤ t.size
theorem wsz_snoc (ws : List Wt) (s : Wt) : wsz (ws ++ [s]) = wsz ws + s.t.size := by simp [wsz]
theorem jws_snoc (c : Nat) (ws : List Wt) (s : Wt) : jws c (ws ++ [s]) = jud c ((ws.map fun s => (s.t, s.d)) ++ [(s.t, s.d)]) := by simp [jws]
theorem len_wsz : ∀ ws : List Wt, ws.length ≤ wsz ws
  | [] => Nat.le_refl _
  | s :: ws => by
    have h := len_wsz ws
    have p := s.t.size_pos
    simp only [wsz, List.map_cons, List.sum_cons, List.length_cons] at *
    omega
section
variable {P : Program} {w : World} {K : PySem.W.Frag} {mg : Str → Option Value} {base : Heap}
theorem scKind : FnScope ["thing", "letters", "waiting", "part", "deep"] ["thing"] (defScope sKind) := ⟨rfl, rfl, rfl, by decide +kernel, rfl, by decide +kernel, by decide +kernel⟩
theorem ok_kind {f fL f1 f2 fP : Addr} {fd fdL fd1 fd2 fdP : FuncData} (F : Fn K mg "is_kind" sKind ["thing"] f fd) (NL : Fn K mg "is_letter" sLetter ["thing"] fL fdL) (N2 : Fn K mg "is_integer_within" sWithin ["low", "high", "thing"] f2 fd2) (N1 : Fn K mg "is_integer" sInteger ["thing"] f1 fd1)
    (NP : Fn K mg "is_pair" sPair ["thing"] fP fdP) (T : TxB mg) (T2 : TxD mg) : FnOk P w K mg base CX0 4 f fd ["thing"] (spKind K) := by
  have GL : FnOk P w K mg base CX0 3 fL fdL ["thing"] (spLetter K) := ok_letter NL N2 N1 T T2
  have GP : FnOk P w K mg base CX0 1 fP fdP ["thing"] (spPair K) := ok_pair NP T T2
  obtain ⟨um, hm⟩ := T2.most
  obtain ⟨ud, hd⟩ := T2.deep
  refine F.F.ok scKind (fun vs H Q E h => ?_) (fun cdv A outer s H vs Q E hr h => ?_)
  · obtain ⟨v, t, rfl, _⟩ := h
    rfl
  · obtain ⟨v, t, rfl, hv, hz, k⟩ := h
    have nd := scKind.nd
    have hr1 := hr.mono (show 1 ≤ 3 by decide)
    refine ⟨_, pss_cons (ps_set (i := 1) nd rfl (Or.inl rfl) pe_int)
      (pss_cons (ps_set (i := 2) nd rfl (Or.inl rfl) (pe_lst (pa_cons (pe_tup (pa_cons (pv 0) (pa_cons pe_int pa_nil))) pa_nil)))
      (pss_cons (ps_while PassesOwn.never (PW.pt (pw_and (pt_truth (pv 2) (by intro _; rfl)) (pw_and1 (pt_cmpR op_le (pv 1) (pe_glob (v := .int 60) (by rfl) hm ⟨_, rfl⟩) (nomark _)))))
        (pss_cons (ps_asg (pe_bm0 PySem.F.plainAttrs_list PySem.F.slot_list_pop PySem.F.type_list_pop mt_pop (pv 2)) (pg_tup rfl (pgs_cons (pg_name (i := 3) nd rfl (Or.inl rfl)) (pgs_cons (pg_name (i := 4) nd rfl (Or.inl rfl)) pgs_nil))))
        (pss_one (ps_if (pt_val (pe_call GL hr (by rfl) NL.m NL.F.kp NL.b .nil pass0 (pa_cons (pv 3) pa_nil)))
          (pss_one (ps_aug (i := 1) nd rfl (.inl rfl) pe_int ip_add))
          (pss_one (ps_if (PW.pt (pw_and (pt_val (pe_call GP hr1 (by rfl) NP.m NP.F.kp NP.b .nil pass0 (pa_cons (pv 3) pa_nil))) (pw_and1 (pt_cmpR op_lt (pv 4) (pe_glob (v := .int 30) (by rfl) hd ⟨_, rfl⟩) (nomark _)))))
            (pss_one (ps_expr (pe_bm PySem.F.plainAttrs_list PySem.F.slot_list_extend PySem.F.type_list_extend mt_extend (pv 2) (pa_cons (pe_lst (pa_cons (pe_tup (pa_cons (pe_ix ix_tup (pv 3) pe_int (fun _ _ => rfl)) (pa_cons (pe_op op_add (pv 4) pe_int) pa_nil)))
              (pa_cons (pe_tup (pa_cons (pe_ix ix_tup (pv 3) pe_int (fun _ _ => rfl)) (pa_cons (pe_op op_add (pv 4) pe_int) pa_nil))) pa_nil))) pa_nil))))
            (pss_one (ps_ret pe_bl))))))))
      (pss_one (ps_ret (pe_cmpR op_le (pv 1) (pe_glob (v := .int 60) (by rfl) hm ⟨_, rfl⟩) (nomark _)))))), ?_⟩
    refine ⟨_, rfl, (by show 2 ≤ sizeLine; decide), fun a0 h0 => ?_⟩
    refine ⟨(by show 1 ≤ sizeLine; decide), fun wl hw => ?_⟩
    have hw0 : H wl = none := same_none (same_new (same_refl H) h0) hw
    refine ⟨KW K H t v wl, ⟨_, [⟨t, 0, a0, v⟩], 0, none, none, rfl, rfl, same_new (same_new (same_refl H) h0) hw, upd_same, fun s hs => ?_, jud_one, (by simp [wsz])⟩, ?_⟩
    · rw [List.mem_singleton] at hs
      subst hs
      exact ⟨by rw [upd_ne (ne_of_none upd_same hw)]; exact upd_same, hv⟩
    · rintro m σ H' ⟨ws, c, p3, p4, rfl, rfl, hs, hwl, hws, hj, hz'⟩
      have fin : ∀ b : Bool, jws c ws = b → t.isKind = b := fun b e => hj.symm.trans e
      refine ⟨_, rfl, _, .inl ⟨_, SqL.of hwl, rfl⟩, ?_⟩
      rcases nil_or_snoc ws with rfl | ⟨ws', s1, rfl⟩
      · refine ifF rfl ?_
        refine ifF rfl ?_
        refine ⟨_, rfl, _, _, rfl, rfl, ?_⟩
        have e := k H' hs
        rw [fin _ jud_nil] at e
        have q : decide (c ≤ 60) = decide ((c : Int) ≤ 60) := by simp only [decide_eq_decide]; omega
        rw [q] at e
        exact e
      · rw [List.map_append] at hwl
        have e1 : (!(List.map fa (ws' ++ [s1])).isEmpty) = true := by simp
        refine ifT e1 ?_
        refine ⟨_, rfl, _, _, rfl, rfl, _, rfl, ?_⟩
        refine ite2 (fun c60 => ?_) (fun c60 => ?_)
        · have hmem : s1 ∈ ws' ++ [s1] := List.mem_append_right _ List.mem_cons_self
          obtain ⟨t1, t2⟩ := hws s1 hmem
          have hne : s1.a ≠ wl := ne_of t1 hwl (fun z => by cases z)
          refine ⟨fun σ'' H'' => ∃ m', m' < wsz (ws' ++ [s1]) ∧ KW K H t v wl m' σ'' H'', fun σ'' H'' z => z, ?_⟩
          refine ⟨_, rfl, .inl ⟨rfl, _, SqL.of hwl⟩, wl, _, .ref s1.a, rfl, rfl, hwl, (by simp [fa]), ?_⟩
          refine ⟨s1.a, _, rfl, SqT.of (by rw [upd_ne hne]; exact t1), rfl, _, _, rfl, _, _, rfl, rfl, ?_⟩
          have dl : (List.map fa ws' ++ List.map fa [s1]).dropLast = List.map fa ws' := by simp
          rw [dl]
          generalize hG : upd H' wl (.lst (List.map fa ws')) = H1
          have g1 : H1 wl = some (.lst (List.map fa ws')) := by rw [← hG]; exact upd_same
          have g2 : ∀ b, b ≠ wl → H1 b = H' b := fun b hb => by rw [← hG]; exact upd_ne hb
          have g3 : Same H H1 := fun b o e => by rw [g2 b (ne_of_none e hw0)]; exact hs b o e
          have g4 : ∀ s ∈ ws', WtAt K H H1 s := fun s h => by
            obtain ⟨q1, q2⟩ := hws s (List.mem_append_left _ h)
            exact ⟨by rw [g2 _ (ne_of q1 hwl (fun z => by cases z))]; exact q1, q2⟩
          have hsz := wsz_snoc ws' s1
          have hp := s1.t.size_pos
          rw [jws_snoc] at hj
          clear hG
          refine ⟨_, rfl, s1.v, s1.t, rfl, t2.same g3, _, rfl, ?_⟩
          refine ite2 (fun cL => ?_) (fun cL => ?_)
          · rw [jud_letter cL] at hj
            exact ⟨_, rfl, _, _, rfl, rfl, wsz ws', by omega, ws', c + 1, _, _, rfl, rfl, g3, g1, g4, hj, by omega⟩
          · refine ⟨_, rfl, s1.v, s1.t, rfl, t2.same g3, _, rfl, ?_⟩
            have bad : (∀ l r, s1.t = .pr l r → ¬ s1.d < 30) → Q (.bl false) H1 := fun h => by
              rw [jud_bad (Bool.eq_false_iff.mpr cL) h] at hj
              have e := k H1 g3
              rw [← hj] at e
              exact e
            refine ite2 (fun cP => ?_) (fun cP => ?_)
            · refine ⟨_, rfl, _, _, rfl, rfl, _, rfl, ?_⟩
              refine ite2 (fun cD => ?_) (fun cD => ?_)
              · obtain ⟨l, r, et⟩ : ∃ l r, s1.t = .pr l r := by
                  cases e : s1.t <;> rw [e] at cP <;> first | exact ⟨_, _, rfl⟩ | cases cP
                have d30 : s1.d < 30 := by have := of_decide_eq_true cD; omega
                rw [et] at t2 hj hsz
                rw [jud_pair d30] at hj
                obtain ⟨pa, x, y, ev, hpa, tl, tr⟩ := t2
                have hp1 := g3 _ _ hpa
                refine ⟨_, rfl, .inl ⟨rfl, _, SqL.of g1⟩, ?_⟩
                refine ⟨_, rfl, pa, _, _, x, ev, rfl, SqT.of hp1, rfl, _, rfl, _, _, rfl, rfl, (by show 2 ≤ sizeLine; decide), fun q1 hq1 => ?_⟩
                have a1 := same_new (o := .tup [x, .int ((s1.d : Int) + 1)]) (same_refl H1) hq1
                refine ⟨_, rfl, pa, _, _, y, ev, rfl, SqT.of (a1 _ _ hp1), rfl, _, rfl, _, _, rfl, rfl, (by show 2 ≤ sizeLine; decide), fun q2 hq2 => ?_⟩
                have a2 := same_new (o := .tup [y, .int ((s1.d : Int) + 1)]) a1 hq2
                have b2 := same_new (o := .tup [y, .int ((s1.d : Int) + 1)]) (same_refl _) hq2
                refine ⟨(by show 2 ≤ sizeLine; decide), fun l2 hl2 => ?_⟩
                have a3 := same_new (o := .lst [.ref q1, .ref q2]) a2 hl2
                have b3 := same_new (o := .lst [.ref q1, .ref q2]) (same_refl _) hl2
                have lw := len_wsz ws'
                have e1 : (Th.pr l r).size = l.size + r.size + 1 := rfl
                refine ⟨wl, l2, _, _, rfl, rfl, a3 _ _ g1, upd_same, (by rw [List.length_map]; show ws'.length + 2 ≤ sizeLine; exact Nat.le_of_lt (Nat.lt_of_le_of_lt (m := 20000) (by omega) (by decide))), ?_⟩
                have q1w : q1 ≠ wl := fun z => by rw [z, g1] at hq1; cases hq1
                have q2w : q2 ≠ wl := fun z => by rw [z, a1 _ _ g1] at hq2; cases hq2
                refine ⟨wsz ws' + (l.size + r.size), by omega, ws' ++ [⟨l, s1.d + 1, q1, x⟩, ⟨r, s1.d + 1, q2, y⟩], c, _, _, by simp [wsz], rfl, fun b o e => ?_, ?_, fun s hs' => ?_, ?_, by simp only [wsz, List.map_append, List.map_cons, List.map_nil, List.sum_append, List.sum_cons, List.sum_nil] at *; omega⟩
                · rw [upd_ne (ne_of_none e hw0)]; exact a3 _ _ (g3 _ _ e)
                · rw [upd_same]; simp [fa]
                · rcases List.mem_append.mp hs' with hs' | hs'
                  · obtain ⟨z1, z2⟩ := g4 s hs'
                    exact ⟨by rw [upd_ne (ne_of z1 g1 (fun z => by cases z))]; exact a3 _ _ z1, z2⟩
                  · simp only [List.mem_cons, List.not_mem_nil, or_false] at hs'
                    rcases hs' with rfl | rfl
                    · exact ⟨by show upd _ wl _ q1 = _; rw [upd_ne q1w]; exact b3 _ _ (b2 _ _ upd_same), tl⟩
                    · exact ⟨by show upd _ wl _ q2 = _; rw [upd_ne q2w]; exact b3 _ _ upd_same, tr⟩
                · show jud c _ = _
                  rw [List.map_append]
                  exact hj
              · exact bad fun _ _ _ z => cD (decide_eq_true (by omega))
            · exact bad fun l r e => absurd (by rw [e]; rfl) cP
        · refine ⟨_, rfl, _, _, rfl, rfl, ?_⟩
          have n60 : ¬ c ≤ 60 := fun z => c60 (decide_eq_true (by omega))
          have e := k H' hs
          rw [fin false (by rw [jws_snoc]; exact jud_many n60)] at e
          have q : decide ((c : Int) ≤ 60) = false := decide_eq_false (by omega)
          show Q (.bl (decide ((c : Int) ≤ 60))) H'
          rw [q]
          exact e
end
end K06

set_option Elab.async false
set_option linter.all false
set_option maxRecDepth 100000
set_option maxHeartbeats 2000000
/-! Errors with fields that are held as values: made, asked by isinstance, read. -/
namespace L2
open PySem PySem.Spec PyProof.Rows
/-- an error object that is held, of the class cls, its dict at d -/
def errO (a : Addr) (cls : Value) (d : Option Addr) : HO := .ext fun h => ∃ (oe : Obj) (fv : Array Value), h.get? a = some oe ∧ Zc cls d oe ∧ oe.data = .fields fv ∧ fv[1]? = some .none
theorem errO_ok {P : Program} {w : World} {G : Hp} {h : Heap} {a : Addr} {cls : Value} {d : Option Addr} {oe : Obj} {fv : Array Value} (at_ : h.get? a = some oe) (z : Zc cls d oe) (f : oe.data = .fields fv) (f1 : fv[1]? = some .none) : ObjOk P w G h a (errO a cls d) :=
  ⟨⟨oe, fv, at_, z, f, f1⟩, ⟨oe, at_⟩, fun _ _ ⟨o, v, q, r⟩ up => ⟨o, v, up o q, r⟩⟩
theorem errO_at {P : Program} {w : World} {G : Hp} {h : Heap} {a : Addr} {cls : Value} {d : Option Addr} (ok : HOk P w G h) (e : G a = some (errO a cls d)) : ∃ (oe : Obj) (fv : Array Value), h.get? a = some oe ∧ Zc cls d oe ∧ oe.data = .fields fv ∧ fv[1]? = some .none := (ok a _ e).1
/-- what the written part says of an own error class -/
structure ErrC (K : PySem.W.Frag) (D : Addr) : Prop where
  ox : OexC K D
  xf : XfC K D
  cA : PySem.W.findIn K (.ref D) "__class__" = some (some (.builtin "object.__class__"))
  cG : PySem.W.specialIn K (.builtin "object.__class__") "__get__" = some (some (.builtin "getset_descriptor.__get__")) ∧ PySem.W.takesIn K (.builtin "object.__class__") = some true
  cM : PySem.W.mroIn K D (.type "object") = some true
/-- an error of the class at D that is held -/
def ErrAt (G : Hp) (a D : Addr) : Prop := G a = some (errO a (.ref D) none) ∨ ∃ (dx : Addr) (fs : List (Str × V)), G a = some (errO a (.ref D) (some dx)) ∧ G dx = some (.xd fs)
section
variable {X : Cx} {p pos : Pos} {x : Str} {C fI : Addr} {fd : FuncData} {n : Nat} {ps : List Str} {sp : Sp}
/-- C(), C's own __init__ without arguments, as a value -/
def tHeld0 (C : Addr) (sp : Sp) : TE := fun _ H Q => ∀ a, H a = none → sp [.ref a] (upd H a (errO a (.ref C) none)) (fun v G => v = .non ∧ Q (.ref a) G) (fun _ _ _ => False)
theorem pe_held0 {CX : CXT} (T : OexC X.K C) (iC : PySem.W.findIn X.K (.ref C) "__init__" = some (some (.ref fI))) (tI : PySem.W.typeIn X.K (.ref fI) = some (.type "function")) (ini : FnOk X.prog X.w X.K X.mg X.base CX n fI fd ps sp) (room : Room (n + 1) X.A)
    (bd : Binds X.K fd ps []) (out : Passes CX X (fun _ _ _ => False)) (gx : Gl X x) (mx : X.mg x = some (.ref C)) (nd : (x == ("__debug__" : Str)) = false := by decide) : PE X (.Call (.Name x p) [] [] pos) (tHeld0 C sp) := by
  refine ⟨fun pins s σ H Q I k => wpAny_Call_Name_kw (ld_glob I gx mx (PySem.W.callWith_K0 I.kIn T.kC ?_) nd)⟩
  rcases s with ⟨h0, gs, dr, tk, os⟩
  rcases T.cls with ⟨_, _, _, _, tail, _, _, _, _, _, _, _, _, _, _, look, chain⟩
  show wpAny _ _ (call (.ref C) []) _ _ _
  refine wpAny_call (PySem.HandSPX.call_own F.excBase_ValueError (fun B => PySem.HandSPX.refsVE_contains B tail chain) (I.kIn C _ look) (PySem.W.looks_findIn I.kIn iC) (fun v => PySem.W.bind_fn I.kIn v tI) (Nat.zero_le _) ?_)
  have le1 : h0.objs.size ≤ h0.objs.size + 1 := Nat.le_succ h0.objs.size
  have here : ((h0.push (PySem.W.kdv_tup [])).push (PySem.HandSPX.excO C h0.objs.size)).get? (h0.objs.size + 1) = some (PySem.HandSPX.excO C h0.objs.size) := by heap_get
  have J := I.laid (t' := tk) (h' := (h0.push (PySem.W.kdv_tup [])).push (PySem.HandSPX.excO C h0.objs.size)) (fun b o q => Heap.get?_push_of_some _ (Heap.get?_push_of_some _ q)) le1 (errO_ok (cls := .ref C) (d := none) here ⟨rfl, rfl⟩ rfl rfl)
  have want := k _ (I.hok.fresh le1)
  have one : ([.ref (h0.objs.size + 1)] : List Value).length = ps.length := (ini.len _ _ _ _ want)
  refine codeAny_mono (ini.run _ X.stack _ _ _ [.ref (h0.objs.size + 1)] [.ref (h0.objs.size + 1)] _ _ (room.make C [] []) (J.env0.make C [] []) ?_ (.cons rfl .nil) want) fun r s' back => ?_
  · have q := bd _ [.ref (h0.objs.size + 1)] J.kIn (by simpa using one)
    simpa using q
  · match r, back with
    | .error er, back => exact out pins σ _ _ er s' J back
    | .ok (.ret u), back =>
      obtain ⟨v, G, J', rv, ev, q⟩ := J.after back
      subst ev
      exact ⟨rv, .ref (h0.objs.size + 1), G, J', rfl, q⟩
    | .ok .next, back => exact back.elim
    | .ok .brk, back => exact back.elim
    | .ok .cont, back => exact back.elim
/-- raise C(): what the making asks -/
def tRz (X : Cx) (C : Addr) (sp : Sp) : St → Hp → XK → Prop := fun _ H Q => ∀ a, H a = none → sp [.ref a] (upd H a (errO a (.ref C) none)) (fun v G => v = .non ∧ ∃ b, V.ref a = .ref b ∧ H b = none ∧ G = upd H b (errO b (.ref C) none) ∧ Fr0 X.H_0 b ∧ Q (.ref C) none H) (fun _ _ _ => False)
theorem pmk_held0 {CX : CXT} (T : OexC X.K C) (iC : PySem.W.findIn X.K (.ref C) "__init__" = some (some (.ref fI))) (tI : PySem.W.typeIn X.K (.ref fI) = some (.type "function")) (ini : FnOk X.prog X.w X.K X.mg X.base CX n fI fd ps sp) (room : Room (n + 1) X.A)
    (bd : Binds X.K fd ps []) (out : Passes CX X (fun _ _ _ => False)) (gx : Gl X x) (mx : X.mg x = some (.ref C)) (ex0 : X.ex = []) (nd : (x == ("__debug__" : Str)) = false := by decide) : PMk X (.Call (.Name x p) [] [] pos) (tRz X C sp) := by
  intro pins s σ H Q I k
  refine wpAny_mono ((pe_held0 (p := p) (pos := pos) T iC tI ini room bd out gx mx nd).run pins s σ H (fun v G => ∃ b, v = .ref b ∧ H b = none ∧ G = upd H b (errO b (.ref C) none) ∧ Fr0 X.H_0 b ∧ Q (.ref C) none H) I k) (fun u s1 r => ?_) fun _ _ z => z
  obtain ⟨_, _, J, ru, b, rfl, hb, rfl, h0, q⟩ := r
  cases ru
  obtain ⟨oe, fv, here, z, f, f1⟩ := errO_at J.hok upd_same
  obtain ⟨Gh, up, gone, J2⟩ := J.untrack upd_same h0 ex0
  rw [delH_new hb] at J2
  exact ⟨b, oe, fv, { s1 with heap := Gh }, H, .ref C, none, rfl, J2, up, gone, here, z, f, f1, hb, rfl, J.bare, raises_own T.exC T.tyC, q⟩
end
/-- isinstance(e, c), e the error that the suite holds, without a dict -/
def rIsE0 (K : PySem.W.Frag) (cls : Value) (d : Option Addr) (a : Addr) : List V → Hp → VK → Prop := fun vs G Q => ∃ (D : Addr) (c : V) (cv : Value) (b : Bool), vs = [.ref a, c] ∧ cls = .ref D ∧ d = none ∧ ClsV c cv ∧ ErrC K D ∧ PySem.W.kitOne K (.ref D) cv = some b ∧ Q (.bl b) G
theorem ErrC.kit {K : PySem.W.Frag} {D : Addr} (T : ErrC K D) {a : Addr} {ox : Obj} {od : Option Obj} : PySem.W.KitX K (.ref a) (.ref D) (fun h => PySem.W.InstAt h a ox D od) := by
  have some_ : (PySem.W.clsIn K D).isSome = true := by
    rcases T.ox.cls with ⟨_, _, _, _, _, _, _, _, _, _, _, _, _, _, _, look, _⟩
    unfold PySem.W.clsIn
    rw [look] <;> rfl
  exact PySem.W.kitx_exc some_ T.xf.ga T.xf.gg T.xf.exC T.cA T.cG.1 T.cG.2 T.cM
theorem call_isE0 {X : Cx} {a : Addr} {cls : Value} {d : Option Addr} {oe : Obj} {pn : List (Addr × Obj)} (z : Zc cls d oe) (df : ∃ fv, oe.data = .fields fv) : CallR (X.suite a ((a, oe) :: pn)) (.builtin "isinstance") (rIsE0 X.K cls d a) := by
  rintro pins s σ G _ us Q I r ⟨D, c, cv, b, rfl, rfl, rfl, k, T, ans, q⟩
  rcases vals2 r with ⟨v, v', rfl, rfl, rc⟩
  obtain rfl := k.eq rc
  have pin := (I.pin (a, oe) (List.mem_append_left _ List.mem_cons_self)).1
  obtain ⟨fv, f⟩ := df
  have inst : PySem.W.InstAt s.heap a oe D none := ⟨pin, z.1, by unfold PySem.W.notCls; rw [f] <;> rfl, by rw [z.2]; trivial⟩
  exact PySem.W.kia_one (T.kit (ox := oe) (od := none)) I.kIn inst ans (fun z => nomatch z) fun tk => ⟨.bl b, G, I.tok tk, rfl, q⟩
end L2

set_option Elab.async false
set_option linter.all false
set_option maxRecDepth 100000
set_option maxHeartbeats 2000000
namespace K06
open PySem L2
abbrev sNk : Stmt := inClass (top 8) 0
abbrev sLefts : Stmt := top 16
abbrev sEnd : Stmt := top 17
abbrev sBuilt : Stmt := top 18
def spNk : Sp := fun vs H Q _ => ∃ a : Addr, vs = [.ref a] ∧ Q .non H
/-- the class NoKind and its __init__ -/
structure NkT (K : PySem.W.Frag) (mg : Str → Option Value) (CN fN : Addr) (fdN : FuncData) : Prop where
  err : ErrC K CN
  m : mg "NoKind" = some (.ref CN)
  F : Fun K "__init__" "NoKind.__init__" sNk fN fdN
  b : Binds K fdN ["self"] []
  i : PySem.W.findIn K (.ref CN) "__init__" = some (some (.ref fN))
  t : PySem.W.typeIn K (.ref fN) = some (.type "function")
/-- down the right sides of a kind: its lefts and its end -/
def Spine (H : Hp) : Th → V → List V → Int → Prop
  | .pr _ r, v, xs, e => ∃ a x y ys, v = .ref a ∧ H a = some (.tup [x, y]) ∧ xs = x :: ys ∧ Spine H r y ys e
  | .int i, v, xs, e => v = .int i ∧ xs = [] ∧ e = i
  | _, _, _, _ => False
/-- pairs within one another: these lefts, this end -/
def Nest (H : Hp) : List V → Int → V → Prop
  | [], e, v => v = .int e
  | x :: xs, e, v => ∃ a y, v = .ref a ∧ H a = some (.tup [x, y]) ∧ Nest H xs e y
theorem Nest.same {H H' : Hp} (s : Same H H') : ∀ {xs : List V} {e : Int} {v : V}, Nest H xs e v → Nest H' xs e v
  | [], _, _, h => h
  | _ :: _, _, _, ⟨a, y, e, h, n⟩ => ⟨a, y, e, s _ _ h, n.same s⟩
theorem Spine.nest {H : Hp} : ∀ {t : Th} {v : V} {xs : List V} {e : Int}, Spine H t v xs e → Nest H xs e v
  | .pr _ _, _, _, _, ⟨a, x, y, ys, ev, h, ex, s⟩ => by
    subst ex
    exact ⟨a, y, ev, h, s.nest⟩
  | .int i, _, _, _, ⟨ev, ex, ee⟩ => by
    subst ex
    subst ee
    exact ev
def psz (ws : List (Th × V)) : Nat := (ws.map (·.1.size)).sum
def pany (ws : List (Th × V)) : Bool := ws.all (·.1.any)
/-- between two turns of is_kind_of_any_size -/
def AW (K : PySem.W.Frag) (H : Hp) (t : Th) (v : V) (wl : Addr) : Nat → St → Hp → Prop := fun m σ H' => ∃ (ws : List (Th × V)) (p2 : Option V), m = psz ws ∧ σ = [some v, some (.ref wl), p2] ∧ Same H H' ∧
  H' wl = some (.lst (ws.map (·.2))) ∧ (∀ s ∈ ws, ThAt K H s.1 s.2) ∧ pany ws = t.any ∧ psz ws ≤ t.size
theorem len_psz : ∀ ws : List (Th × V), ws.length ≤ psz ws
  | [] => Nat.le_refl _
  | s :: ws => by
    have h := len_psz ws
    have p := s.1.size_pos
    simp only [psz, List.map_cons, List.sum_cons, List.length_cons] at *
    omega
def spAny (K : PySem.W.Frag) : Sp := fun vs H Q _ => ∃ (v : V) (t : Th), vs = [v] ∧ ThAt K H t v ∧ t.size ≤ 10000 ∧ ∀ H', Same H H' → Q (.bl t.any) H'
section
variable {P : Program} {w : World} {K : PySem.W.Frag} {mg : Str → Option Value} {base : Heap} {CN fN : Addr} {fdN : FuncData}
theorem scNk : FnScope ["self"] ["self"] (defScope sNk) := ⟨rfl, rfl, rfl, by decide +kernel, rfl, by decide +kernel, by decide +kernel⟩
theorem ok_nk {f : Addr} {fd : FuncData} (F : Fun K "__init__" "NoKind.__init__" sNk f fd) : FnOk P w K mg base CX0 1 f fd ["self"] spNk := by
  refine F.ok scNk (fun vs H Q E h => ?_) (fun cdv A outer s H vs Q E hr h => ?_)
  · obtain ⟨a, rfl, _⟩ := h
    rfl
  · obtain ⟨a, rfl, k⟩ := h
    refine ⟨_, pss_one ps_pass, ?_⟩
    exact k
theorem scAny : FnScope ["thing", "waiting", "part"] ["thing"] (defScope sAny) := ⟨rfl, rfl, rfl, by decide +kernel, rfl, by decide +kernel, by decide +kernel⟩
theorem ok_any {f fL f1 f2 fP : Addr} {fd fdL fd1 fd2 fdP : FuncData} (F : Fn K mg "is_kind_of_any_size" sAny ["thing"] f fd) (NL : Fn K mg "is_letter" sLetter ["thing"] fL fdL) (N2 : Fn K mg "is_integer_within" sWithin ["low", "high", "thing"] f2 fd2) (N1 : Fn K mg "is_integer" sInteger ["thing"] f1 fd1)
    (NP : Fn K mg "is_pair" sPair ["thing"] fP fdP) (T : TxB mg) (T2 : TxD mg) : FnOk P w K mg base CX0 4 f fd ["thing"] (spAny K) := by
  have GL : FnOk P w K mg base CX0 3 fL fdL ["thing"] (spLetter K) := ok_letter NL N2 N1 T T2
  have GP : FnOk P w K mg base CX0 1 fP fdP ["thing"] (spPair K) := ok_pair NP T T2
  refine F.F.ok scAny (fun vs H Q E h => ?_) (fun cdv A outer s H vs Q E hr h => ?_)
  · obtain ⟨v, t, rfl, _⟩ := h
    rfl
  · obtain ⟨v, t, rfl, hv, hz, k⟩ := h
    have nd := scAny.nd
    have hr1 := hr.mono (show 1 ≤ 3 by decide)
    refine ⟨_, pss_cons (ps_set (i := 1) nd rfl (Or.inl rfl) (pe_lst (pa_cons (pv 0) pa_nil)))
      (pss_cons (ps_while PassesOwn.never (pt_truth (pv 1) (by intro _; rfl))
        (pss_cons (ps_set (i := 2) nd rfl (Or.inl rfl) (pe_bm0 PySem.F.plainAttrs_list PySem.F.slot_list_pop PySem.F.type_list_pop mt_pop (pv 1)))
        (pss_one (ps_if (pt_val (pe_call GP hr1 (by rfl) NP.m NP.F.kp NP.b .nil pass0 (pa_cons (pv 2) pa_nil)))
          (pss_one (ps_expr (pe_bm PySem.F.plainAttrs_list PySem.F.slot_list_extend PySem.F.type_list_extend mt_extend (pv 1) (pa_cons (pe_lst (pa_cons (pe_ix ix_tup (pv 2) pe_int (fun _ _ => rfl)) (pa_cons (pe_ix ix_tup (pv 2) pe_int (fun _ _ => rfl)) pa_nil))) pa_nil))))
          (pss_one (ps_if (pt_not (pt_val (pe_call GL hr (by rfl) NL.m NL.F.kp NL.b .nil pass0 (pa_cons (pv 2) pa_nil)))) (pss_one (ps_ret pe_bl)) pss_nil))))))
      (pss_one (ps_ret pe_bl))), ?_⟩
    refine ⟨_, rfl, (by show 1 ≤ sizeLine; decide), fun wl hw => ?_⟩
    refine ⟨AW K H t v wl, ⟨_, [(t, v)], none, rfl, rfl, same_new (same_refl H) hw, upd_same, fun s hs => ?_, (by simp [pany]), (by simp [psz])⟩, ?_⟩
    · rw [List.mem_singleton] at hs
      subst hs
      exact hv
    · rintro m σ H' ⟨ws, p2, rfl, rfl, hs, hwl, hws, hj, hz'⟩
      refine ⟨_, rfl, _, .inl ⟨_, SqL.of hwl, rfl⟩, ?_⟩
      rcases nil_or_snoc ws with rfl | ⟨ws', s1, rfl⟩
      · refine ifF rfl ?_
        have e := k H' hs
        rw [← hj] at e
        exact e
      · rw [List.map_append] at hwl
        refine ifT (by simp) ?_
        have t2 := hws s1 (List.mem_append_right _ List.mem_cons_self)
        refine ⟨fun σ'' H'' => ∃ m', m' < psz (ws' ++ [s1]) ∧ AW K H t v wl m' σ'' H'', fun σ'' H'' z => z, ?_⟩
        refine ⟨_, rfl, .inl ⟨rfl, _, SqL.of hwl⟩, wl, _, s1.2, rfl, rfl, hwl, (by simp), ?_⟩
        have dl : (List.map (fun x : Th × V => x.2) ws' ++ List.map (fun x : Th × V => x.2) [s1]).dropLast = List.map (fun x : Th × V => x.2) ws' := by simp
        rw [dl]
        generalize hG : upd H' wl (.lst (List.map (fun x : Th × V => x.2) ws')) = H1
        have g1 : H1 wl = some (.lst (List.map (fun x : Th × V => x.2) ws')) := by rw [← hG]; exact upd_same
        have g3 : Same H H1 := fun b o e => by rw [← hG, upd_ne (ne_of_none e hw)]; exact hs b o e
        have hsz : psz (ws' ++ [s1]) = psz ws' + s1.1.size := by simp [psz]
        have hp := s1.1.size_pos
        have hj2 : (pany ws' && s1.1.any) = t.any := by rw [← hj]; simp [pany]
        clear hG
        refine ⟨_, rfl, s1.2, s1.1, rfl, t2.same g3, _, rfl, ?_⟩
        refine ite2 (fun cP => ?_) (fun cP => ?_)
        · obtain ⟨l, r, et⟩ : ∃ l r, s1.1 = .pr l r := by
            cases e : s1.1 <;> rw [e] at cP <;> first | exact ⟨_, _, rfl⟩ | cases cP
          rw [et] at t2 hj2 hsz
          obtain ⟨pa, x, y, ev, hpa, tl, tr⟩ := t2
          have hp1 := g3 _ _ hpa
          refine ⟨_, rfl, .inl ⟨rfl, _, SqL.of g1⟩, ?_⟩
          refine ⟨_, rfl, pa, _, _, x, ev, rfl, SqT.of hp1, rfl, _, rfl, pa, _, _, y, ev, rfl, SqT.of hp1, rfl, (by show 2 ≤ sizeLine; decide), fun l2 hl2 => ?_⟩
          have a3 := same_new (o := .lst [x, y]) (same_refl H1) hl2
          have lw := len_psz ws'
          have e1 : (Th.pr l r).size = l.size + r.size + 1 := rfl
          refine ⟨wl, l2, _, _, rfl, rfl, a3 _ _ g1, upd_same, (by rw [List.length_map]; show ws'.length + 2 ≤ sizeLine; exact Nat.le_of_lt (Nat.lt_of_le_of_lt (m := 20000) (by omega) (by decide))), ?_⟩
          refine ⟨psz ws' + (l.size + r.size), by omega, ws' ++ [(l, x), (r, y)], _, by simp [psz], rfl, fun b o e => ?_, ?_, fun s hs' => ?_, ?_, by simp only [psz, List.map_append, List.map_cons, List.map_nil, List.sum_append, List.sum_cons, List.sum_nil] at *; omega⟩
          · rw [upd_ne (ne_of_none e hw)]; exact a3 _ _ (g3 _ _ e)
          · rw [upd_same]; simp
          · rcases List.mem_append.mp hs' with hs1 | hs1
            · exact hws s (List.mem_append_left _ hs1)
            · simp only [List.mem_cons, List.not_mem_nil, or_false] at hs1
              rcases hs1 with rfl | rfl
              · exact tl
              · exact tr
          · rw [← hj2]
            simp [pany, Th.any]
        · refine ⟨_, rfl, s1.2, s1.1, rfl, t2.same g3, _, rfl, ?_⟩
          have anyL : s1.1.any = s1.1.letter := by
            cases e : s1.1 <;> first | rfl | (exfalso; rw [e] at cP; exact cP rfl)
          rw [anyL] at hj2
          refine ite2 (fun cL => ?_) (fun cL => ?_)
          · have e2 : s1.1.letter = false := by simpa using cL
            rw [e2, Bool.and_false] at hj2
            have e := k H1 g3
            rw [← hj2] at e
            exact e
          · have e2 : s1.1.letter = true := by simpa using cL
            rw [e2, Bool.and_true] at hj2
            exact ⟨psz ws', by omega, ws', _, rfl, rfl, g3, g1, fun s h => hws s (List.mem_append_left _ h), hj2, by omega⟩
end
end K06

set_option Elab.async false
set_option linter.all false
set_option maxRecDepth 100000
set_option maxHeartbeats 2000000
namespace K06
open PySem L2
/-- lefts: the tuple of the lefts, or NoKind -/
def spLefts (K : PySem.W.Frag) (CN : Addr) : Sp := fun vs H Q E => ∃ (v : V) (t : Th), vs = [v] ∧ ThAt K H t v ∧ t.size ≤ 10000 ∧
  (t.any = true → ∀ xs e p H', Spine H t v xs e → Same H H' → H p = none → H' p = some (.tup xs) → Q (.ref p) H') ∧ (t.any = false → ∀ H', Same H H' → E (.ref CN) none H')
def spEnd (K : PySem.W.Frag) (CN : Addr) : Sp := fun vs H Q E => ∃ (v : V) (t : Th), vs = [v] ∧ ThAt K H t v ∧ t.size ≤ 10000 ∧
  (t.any = true → ∀ xs e H', Spine H t v xs e → Same H H' → Q (.int e) H') ∧ (t.any = false → ∀ H', Same H H' → E (.ref CN) none H')
/-- while one goes down the right sides -/
def DW (K : PySem.W.Frag) (H : Hp) (t : Th) (v : V) (t' : Th) (v' : V) (done : List V) : Prop := ThAt K H t' v' ∧ t'.any = true ∧ (∀ xs e, Spine H t' v' xs e → Spine H t v (done ++ xs) e) ∧ done.length + t'.size ≤ t.size
theorem DW.start {K : PySem.W.Frag} {H : Hp} {t : Th} {v : V} (hv : ThAt K H t v) (ha : t.any = true) : DW K H t v t v [] := ⟨hv, ha, fun _ _ s => s, by simp⟩
theorem DW.down {K : PySem.W.Frag} {H : Hp} {t : Th} {v v' : V} {l r : Th} {done : List V} (h : DW K H t v (.pr l r) v' done) : ∃ a x y, v' = .ref a ∧ H a = some (.tup [x, y]) ∧ DW K H t v r y (done ++ [x]) := by
  obtain ⟨⟨a, x, y, e, ha, hl, hr⟩, h2, h3, h4⟩ := h
  have ha2 : (l.any && r.any) = true := h2
  rw [Bool.and_eq_true] at ha2
  refine ⟨a, x, y, e, ha, hr, ha2.2, fun xs k s => ?_, ?_⟩
  · have := h3 (x :: xs) k ⟨a, x, y, xs, e, ha, rfl, s⟩
    rw [List.append_assoc]
    exact this
  · have e1 : (Th.pr l r).size = l.size + r.size + 1 := rfl
    have p := l.size_pos
    rw [List.length_append]; rw [List.length_singleton]
    omega
theorem DW.stop {K : PySem.W.Frag} {H : Hp} {t t' : Th} {v v' : V} {done : List V} (h : DW K H t v t' v' done) (np : t'.isPr = false) : ∃ e, v' = .int e ∧ Spine H t v done e := by
  obtain ⟨h1, h2, h3, h4⟩ := h
  cases t' with
  | int i =>
    have e : v' = .int i := h1
    exact ⟨i, e, by have := h3 [] i ⟨e, rfl, rfl⟩; rwa [List.append_nil] at this⟩
  | bl b => cases h2
  | non => cases h2
  | tup => cases h2
  | pr l r => cases np
section
variable {P : Program} {w : World} {K : PySem.W.Frag} {mg : Str → Option Value} {base : Heap} {CN fN : Addr} {fdN : FuncData}
theorem scLefts : FnScope ["kind", "found", "rest"] ["kind"] (defScope sLefts) := ⟨rfl, rfl, rfl, by decide +kernel, rfl, by decide +kernel, by decide +kernel⟩
theorem ok_lefts {f fA fL f1 f2 fP : Addr} {fd fdA fdL fd1 fd2 fdP : FuncData} (F : Fn K mg "lefts" sLefts ["kind"] f fd) (NA : Fn K mg "is_kind_of_any_size" sAny ["thing"] fA fdA) (NL : Fn K mg "is_letter" sLetter ["thing"] fL fdL) (N2 : Fn K mg "is_integer_within" sWithin ["low", "high", "thing"] f2 fd2) (N1 : Fn K mg "is_integer" sInteger ["thing"] f1 fd1)
    (NP : Fn K mg "is_pair" sPair ["thing"] fP fdP) (T : TxB mg) (T2 : TxD mg) (N : NkT K mg CN fN fdN) : FnOk P w K mg base (L2.CX P w) 5 f fd ["kind"] (spLefts K CN) := by
  have GA : FnOk P w K mg base CX0 4 fA fdA ["thing"] (spAny K) := ok_any NA NL N2 N1 NP T T2
  have GP : FnOk P w K mg base CX0 1 fP fdP ["thing"] (spPair K) := ok_pair NP T T2
  refine F.F.okX scLefts (fun vs H Q E h => ?_) (fun cdv A outer s H vs Q E hr h => ?_)
  · obtain ⟨v, t, rfl, _⟩ := h
    rfl
  · obtain ⟨v, t, rfl, hv, hz, kq, ke⟩ := h
    have nd := scLefts.nd
    have hr1 := hr.mono (show 1 ≤ 4 by decide)
    have hr2 := hr.mono (show 2 ≤ 4 by decide)
    refine ⟨_, pss_cons (ps_if (pt_not (pt_val (pe_call GA hr (by rfl) NA.m NA.F.kp NA.b .nil pass0 (pa_cons (pv 0) pa_nil)))) (pss_one (ps_raise rfl (takes_of rfl rfl rfl rfl) (pmk_held0 N.err.ox N.i N.t (ok_nk N.F) hr2 N.b pass0 (by rfl) N.m rfl))) pss_nil)
      (pss_cons (ps_set (i := 1) nd rfl (Or.inl rfl) (pe_lst pa_nil))
      (pss_cons (ps_set (i := 2) nd rfl (Or.inl rfl) (pv 0))
      (pss_cons (ps_while (passes_of rfl) (pt_val (pe_call GP hr1 (by rfl) NP.m NP.F.kp NP.b .nil pass0 (pa_cons (pv 2) pa_nil)))
        (pss_cons (ps_expr (pe_bm PySem.F.plainAttrs_list PySem.F.slot_list_append PySem.F.type_list_append mt_append (pv 1) (pa_cons (pe_ix ix_tup (pv 2) pe_int (fun _ _ => rfl)) pa_nil)))
        (pss_one (ps_set (i := 2) nd rfl (Or.inl rfl) (pe_ix ix_tup (pv 2) pe_int (fun _ _ => rfl))))))
      (pss_one (ps_ret (pe_callTy call_tuple_of (by rfl) T2.tuple (by decide +kernel) (pa_cons (pv 1) pa_nil))))))), ?_⟩
    refine ⟨_, rfl, v, t, rfl, hv, hz, fun H1 s1 => ⟨_, rfl, ?_⟩⟩
    refine ite2 (fun cA => ?_) (fun cA => ?_)
    · have e : t.any = false := by simpa using cA
      intro a ha
      exact ⟨a, rfl, rfl, a, rfl, ha, rfl, fr0_none (same_none s1 ha), ke e H1 s1⟩
    · have e : t.any = true := by simpa using cA
      refine ⟨(by show 0 ≤ sizeLine; decide), fun fl hfl => ?_⟩
      have hf0 : H fl = none := same_none s1 hfl
      refine ⟨_, rfl, fun m σ H' => ∃ t' v' done, m = t'.size ∧ σ = [some v, some (.ref fl), some v'] ∧ Same H H' ∧ H' fl = some (.lst done) ∧ DW K H t v t' v' done, ⟨_, t, v, [], rfl, rfl, same_new s1 hfl, upd_same, .start hv e⟩, ?_⟩
      rintro m σ H' ⟨t', v', done, rfl, rfl, hs, hl, dw⟩
      refine ⟨_, rfl, v', t', rfl, dw.1.same hs, _, rfl, ?_⟩
      refine ite2 (fun cP => ?_) (fun cP => ?_)
      · obtain ⟨l, r, rfl⟩ : ∃ l r, t' = .pr l r := by
          cases t' <;> first | exact ⟨_, _, rfl⟩ | cases cP
        have hsz := dw.2.2.2
        obtain ⟨a, x, y, rfl, ha, dw'⟩ := dw.down
        refine ⟨fun σ'' H'' => ∃ m', m' < (Th.pr l r).size ∧ ∃ t' v' done, m' = t'.size ∧ σ'' = [some v, some (.ref fl), some v'] ∧ Same H H'' ∧ H'' fl = some (.lst done) ∧ DW K H t v t' v' done, fun σ'' H'' z => z, ?_⟩
        have afl : a ≠ fl := ne_of (hs _ _ ha) hl (fun z => by cases z)
        refine ⟨_, rfl, .inl ⟨rfl, _, SqL.of hl⟩, _, rfl, a, _, _, x, rfl, rfl, SqT.of (hs _ _ ha), rfl, fl, _, _, rfl, rfl, hl, Nat.lt_of_le_of_lt (m := 20000) (by omega) (by decide), ?_⟩
        refine ⟨_, rfl, a, _, _, y, rfl, rfl, SqT.of (by rw [upd_ne afl]; exact hs _ _ ha), rfl, r.size, by show r.size < l.size + r.size + 1; omega, r, y, done ++ [x], rfl, rfl, fun b o e => by rw [upd_ne (ne_of_none e hf0)]; exact hs b o e, upd_same, dw'⟩
      · obtain ⟨k, rfl, sp⟩ := dw.stop (Bool.eq_false_iff.mpr cP)
        refine ⟨_, rfl, fl, _, rfl, .inl ⟨SqL.of hl, fun p hp => ?_⟩⟩
        exact kq e done k p _ sp (same_new hs hp) (same_none hs hp) upd_same
theorem scEnd : FnScope ["kind", "rest"] ["kind"] (defScope sEnd) := ⟨rfl, rfl, rfl, by decide +kernel, rfl, by decide +kernel, by decide +kernel⟩
theorem ok_end {f fA fL f1 f2 fP : Addr} {fd fdA fdL fd1 fd2 fdP : FuncData} (F : Fn K mg "end" sEnd ["kind"] f fd) (NA : Fn K mg "is_kind_of_any_size" sAny ["thing"] fA fdA) (NL : Fn K mg "is_letter" sLetter ["thing"] fL fdL) (N2 : Fn K mg "is_integer_within" sWithin ["low", "high", "thing"] f2 fd2) (N1 : Fn K mg "is_integer" sInteger ["thing"] f1 fd1)
    (NP : Fn K mg "is_pair" sPair ["thing"] fP fdP) (T : TxB mg) (T2 : TxD mg) (N : NkT K mg CN fN fdN) : FnOk P w K mg base (L2.CX P w) 5 f fd ["kind"] (spEnd K CN) := by
  have GA : FnOk P w K mg base CX0 4 fA fdA ["thing"] (spAny K) := ok_any NA NL N2 N1 NP T T2
  have GP : FnOk P w K mg base CX0 1 fP fdP ["thing"] (spPair K) := ok_pair NP T T2
  refine F.F.okX scEnd (fun vs H Q E h => ?_) (fun cdv A outer s H vs Q E hr h => ?_)
  · obtain ⟨v, t, rfl, _⟩ := h
    rfl
  · obtain ⟨v, t, rfl, hv, hz, kq, ke⟩ := h
    have nd := scEnd.nd
    have hr1 := hr.mono (show 1 ≤ 4 by decide)
    have hr2 := hr.mono (show 2 ≤ 4 by decide)
    refine ⟨_, pss_cons (ps_if (pt_not (pt_val (pe_call GA hr (by rfl) NA.m NA.F.kp NA.b .nil pass0 (pa_cons (pv 0) pa_nil)))) (pss_one (ps_raise rfl (takes_of rfl rfl rfl rfl) (pmk_held0 N.err.ox N.i N.t (ok_nk N.F) hr2 N.b pass0 (by rfl) N.m rfl))) pss_nil)
      (pss_cons (ps_set (i := 1) nd rfl (Or.inl rfl) (pv 0))
      (pss_cons (ps_while (passes_of rfl) (pt_val (pe_call GP hr1 (by rfl) NP.m NP.F.kp NP.b .nil pass0 (pa_cons (pv 1) pa_nil)))
        (pss_one (ps_set (i := 1) nd rfl (Or.inl rfl) (pe_ix ix_tup (pv 1) pe_int (fun _ _ => rfl)))))
      (pss_one (ps_ret (pv 1))))), ?_⟩
    refine ⟨_, rfl, v, t, rfl, hv, hz, fun H1 s1 => ⟨_, rfl, ?_⟩⟩
    refine ite2 (fun cA => ?_) (fun cA => ?_)
    · have e : t.any = false := by simpa using cA
      intro a ha
      exact ⟨a, rfl, rfl, a, rfl, ha, rfl, fr0_none (same_none s1 ha), ke e H1 s1⟩
    · have e : t.any = true := by simpa using cA
      refine ⟨_, rfl, fun m σ H' => ∃ t' v' done, m = t'.size ∧ σ = [some v, some v'] ∧ Same H H' ∧ DW K H t v t' v' done, ⟨_, t, v, [], rfl, rfl, s1, .start hv e⟩, ?_⟩
      rintro m σ H' ⟨t', v', done, rfl, rfl, hs, dw⟩
      refine ⟨_, rfl, v', t', rfl, dw.1.same hs, _, rfl, ?_⟩
      refine ite2 (fun cP => ?_) (fun cP => ?_)
      · obtain ⟨l, r, rfl⟩ : ∃ l r, t' = .pr l r := by
          cases t' <;> first | exact ⟨_, _, rfl⟩ | cases cP
        obtain ⟨a, x, y, rfl, ha, dw'⟩ := dw.down
        refine ⟨fun σ'' H'' => ∃ m', m' < (Th.pr l r).size ∧ ∃ t' v' done, m' = t'.size ∧ σ'' = [some v, some v'] ∧ Same H H'' ∧ DW K H t v t' v' done, fun σ'' H'' z => z, ?_⟩
        exact ⟨_, rfl, a, _, _, y, rfl, rfl, SqT.of (hs _ _ ha), rfl, r.size, by show r.size < l.size + r.size + 1; omega, r, y, done ++ [x], rfl, rfl, hs, dw'⟩
      · obtain ⟨k, rfl, sp⟩ := dw.stop (Bool.eq_false_iff.mpr cP)
        exact ⟨_, rfl, kq e done k H' sp hs⟩
end
end K06

set_option Elab.async false
set_option linter.all false
set_option maxRecDepth 100000
set_option maxHeartbeats 2000000
namespace K06
open PySem L2
theorem yes_kept' {A B : Hp → Prop} {σ : St} {H : Hp} (h : A H) : tYes σ H (fun b H3 => if b = true then A H3 else B H3) := yes_kept h
theorem walk_revT {K : PySem.W.Frag} {a : Addr} {xs : List V} : Walk (RT.ItvT K a xs.length) xs.length (fun H => SqT K H a xs) (fun i H x H' => H' = H ∧ xs[xs.length - 1 - i]? = some x) :=
  ⟨fun i H hi h => ⟨hi, xs, xs[xs.length - 1 - i], h, List.getElem?_eq_getElem (by omega)⟩, fun H _ => Nat.le_refl _, fun i H x H' _ h y => ⟨y.1, y.2 xs h⟩⟩
/-- what is passed as lefts: no tuple, or a tuple of things -/
def LsAt (K : PySem.W.Frag) (H : Hp) (u : V) : Option (List (V × Th)) → Prop
  | none => ∃ tv, TyX K H u tv ∧ PySem.W.kitOne K tv (.type "tuple") = some false
  | some l => ∃ a, u = .ref a ∧ H a = some (.tup (l.map (·.1))) ∧ l.length ≤ 1000 ∧ ∀ p ∈ l, ThAt K H p.2 p.1 ∧ p.2.size ≤ 10000
def goodB (tl : Option (List (V × Th))) (te : Th) : Bool := match tl with
  | none => false
  | some l => te.letter && l.all (·.2.any)
def spBuilt (K : PySem.W.Frag) (CN : Addr) : Sp := fun vs H Q E => ∃ (u wv : V) (tl : Option (List (V × Th))) (te : Th), vs = [u, wv] ∧ LsAt K H u tl ∧ ThAt K H te wv ∧
  (goodB tl te = true → ∀ l e v' H', tl = some l → te = .int e → Same H H' → Nest H' (l.map (·.1)) e v' → Q v' H') ∧ (goodB tl te = false → ∀ H', Same H H' → E (.ref CN) none H')
section
variable {P : Program} {w : World} {K : PySem.W.Frag} {mg : Str → Option Value} {base : Heap} {CN fN : Addr} {fdN : FuncData}
theorem scBuilt : FnScope ["lefts", "end", "left", "kind"] ["lefts", "end"] (defScope sBuilt) := ⟨rfl, rfl, rfl, by decide +kernel, rfl, by decide +kernel, by decide +kernel⟩
theorem ok_built {f fA fL f1 f2 fP : Addr} {fd fdA fdL fd1 fd2 fdP : FuncData} (F : Fn K mg "built" sBuilt ["lefts", "end"] f fd) (NA : Fn K mg "is_kind_of_any_size" sAny ["thing"] fA fdA) (NL : Fn K mg "is_letter" sLetter ["thing"] fL fdL) (N2 : Fn K mg "is_integer_within" sWithin ["low", "high", "thing"] f2 fd2) (N1 : Fn K mg "is_integer" sInteger ["thing"] f1 fd1)
    (NP : Fn K mg "is_pair" sPair ["thing"] fP fdP) (T : TxB mg) (T2 : TxD mg) (mR : mg "reversed" = none) (N : NkT K mg CN fN fdN) : FnOk P w K mg base (L2.CX P w) 5 f fd ["lefts", "end"] (spBuilt K CN) := by
  have GA : FnOk P w K mg base CX0 4 fA fdA ["thing"] (spAny K) := ok_any NA NL N2 N1 NP T T2
  have GL : FnOk P w K mg base CX0 3 fL fdL ["thing"] (spLetter K) := ok_letter NL N2 N1 T T2
  refine F.F.okX scBuilt (fun vs H Q E h => ?_) (fun cdv A outer s H vs Q E hr h => ?_)
  · obtain ⟨u, wv, tl, te, rfl, _⟩ := h
    rfl
  · obtain ⟨u, wv, tl, te, rfl, hl, he, kq, ke⟩ := h
    have nd := scBuilt.nd
    have hr3 := hr.mono (show 3 ≤ 4 by decide)
    have hr2 := hr.mono (show 2 ≤ 4 by decide)
    refine ⟨_, pss_cons (ps_if (PW.pt (pw_or (pt_not (pt_val (pe_callB call_isi (by rfl) T.isinstance (by decide +kernel) (pa_cons (pv 0) (pa_cons (pe_bltn (v := .ty "tuple") (by rfl) T2.tuple (by decide +kernel) rfl) pa_nil)))))
        (pw_or1 (pt_not (pt_val (pe_call GL hr3 (by rfl) NL.m NL.F.kp NL.b .nil pass0 (pa_cons (pv 1) pa_nil))))))) (pss_one (ps_raise rfl (takes_of rfl rfl rfl rfl) (pmk_held0 N.err.ox N.i N.t (ok_nk N.F) hr2 N.b pass0 (by rfl) N.m rfl))) pss_nil)
      (pss_cons (ps_if (pt_not (pt_val (pe_callB (cr_all rfl) (by rfl) T.all (by decide +kernel) (pa_cons (pe_lc (own := [("left", 2)]) (g := gName 2) (tt := tYes) rfl nd (pi_tup (pv 0))
          (blkOk_by (N := ["lefts", "end", "left", "kind"]) (sc := defScope sBuilt) (by decide +kernel)) (fun _ _ _ _ _ => pg_name (i := 2) nd rfl (Or.inl rfl)) (fun _ _ _ _ _ => pts_nil)
          (fun _ _ _ _ _ => pe_call GA hr (by rfl) NA.m NA.F.kp NA.b .nil pass0 (pa_cons (pv 2) pa_nil))) pa_nil)))) (pss_one (ps_raise rfl (takes_of rfl rfl rfl rfl) (pmk_held0 N.err.ox N.i N.t (ok_nk N.F) hr2 N.b pass0 (by rfl) N.m rfl))) pss_nil)
      (pss_cons (ps_set (i := 3) nd rfl (Or.inl rfl) (pv 1))
      (pss_cons (ps_for (passes_of rfl) rfl (RT.pi_revA (by rfl) mR (pv 0)) (pg_name (i := 2) nd rfl (Or.inl rfl)) (pss_one (ps_set (i := 3) nd rfl (Or.inl rfl) (pe_tup (pa_cons (pv 2) (pa_cons (pv 3) pa_nil))))))
      (pss_one (ps_ret (pv 3)))))), ?_⟩
    have bad : goodB tl te = false → ∀ H', Same H H' → ∀ a, H' a = none → spNk [V.ref a] (upd H' a (errO a (.ref CN) none)) (fun v G => v = .non ∧ ∃ b, V.ref a = .ref b ∧ H' b = none ∧ G = upd H' b (errO b (.ref CN) none) ∧ Fr0 H b ∧ E (.ref CN) none H') (fun _ _ _ => False) :=
      fun e H' s a ha => ⟨a, rfl, rfl, a, rfl, ha, rfl, fr0_none (same_none s ha), ke e H' s⟩
    have s0 := same_refl H
    cases tl with
    | none =>
      obtain ⟨tv, ty, k0⟩ := hl
      refine ⟨_, rfl, _, _, _, _, _, rfl, .ty _, ty, k0, _, rfl, ?_⟩
      refine ifT rfl ?_
      refine ifT rfl ?_
      exact bad rfl H s0
    | some l =>
      obtain ⟨la, rfl, hla, hll, hit⟩ := hl
      refine ⟨_, rfl, _, _, _, _, _, rfl, .ty _, .base (.tup hla), kit_ty (r := true) (by decide +kernel), _, rfl, ?_⟩
      refine ifF rfl ?_
      refine ⟨_, rfl, wv, te, rfl, he, _, rfl, ?_⟩
      refine ite2 (fun cL => ?_) (fun cL => ?_)
      · have e : te.letter = false := by simpa using cL
        exact bad (by show (te.letter && l.all (·.2.any)) = false; rw [e]; rfl) H s0
      · have eL : te.letter = true := by simpa using cL
        refine ⟨_, rfl, la, rfl, ⟨_, SqT.of hla⟩, fun D hD => ?_⟩
        refine lc_tup (K := K) (a := la) (xs := l.map (·.1)) (fun i H' => Same H H' ∧ H' D = some (.lst (((l.take i).map (·.2.any)).map V.bl))) ⟨same_new s0 hD, upd_same⟩ (fun i H' _ p => SqT.of (p.1 _ _ hla)) ?_ ?_
        · rintro i x H' hx ⟨h1, h2⟩
          have hx' : ∃ p, l[i]? = some p ∧ x = p.1 := by
            rw [List.getElem?_map] at hx
            cases e : l[i]? with
            | none => rw [e] at hx; cases hx
            | some p => rw [e] at hx; exact ⟨p, rfl, (Option.some.inj hx).symm⟩
          obtain ⟨p, hp, rfl⟩ := hx'
          have hpm := List.mem_of_getElem? hp
          refine ⟨rfl, ?_⟩
          refine yes_kept ?_
          have hil : i < l.length := (List.getElem?_eq_some_iff.mp hp).1
          refine ⟨_, rfl, p.1, p.2, rfl, (hit p hpm).1.same h1, (hit p hpm).2, fun H2 s2 => ⟨_, s2 _ _ h2, ?_, fun b o e => ?_, ?_⟩⟩
          · simp only [List.length_map, List.length_take]
            exact small1000 (by omega)
          · rw [upd_ne (ne_of_none e hD)]; exact s2 _ _ (h1 _ _ e)
          · rw [upd_same]
            have e3 : l.take (i + 1) = l.take i ++ [p] := by
              rw [List.take_add_one, hp]; rfl
            rw [e3]
            simp
        · rintro H' ⟨h1, h2⟩
          rw [List.length_map, List.take_length] at h2
          refine ⟨D, _, rfl, SqL.of h2, _, rfl, ?_⟩
          have eA : ((l.map (·.2.any)).all id) = l.all (·.2.any) := by rw [List.all_map]; rfl
          rw [eA]
          refine ite2 (fun cA => ?_) (fun cA => ?_)
          · have e : l.all (·.2.any) = false := by simpa using cA
            exact bad (by show (te.letter && l.all (·.2.any)) = false; rw [e, Bool.and_false]) H' h1
          · have eA : l.all (·.2.any) = true := by simpa using cA
            obtain ⟨e, rfl⟩ : ∃ e, te = .int e := by
              cases te <;> first | exact ⟨_, rfl⟩ | cases eL
            obtain rfl : wv = .int e := he
            refine ⟨_, rfl, _, rfl, la, _, rfl, .inr ⟨SqT.of (h1 _ _ hla), ?_⟩⟩
            refine for_it walk_revT (fun i σ H' => ∃ p2 v', σ = [some (.ref la), some (.int e), p2, some v'] ∧ Same H H' ∧ Nest H' ((l.map (·.1)).drop ((l.map (·.1)).length - i)) e v') ⟨_, _, rfl, h1, ?_⟩ (fun i σ H' _ ⟨_, _, _, s, _⟩ => SqT.of (s _ _ hla)) ?_ ?_
            · rw [Nat.sub_zero, List.drop_length]; rfl
            · rintro i x σ H2 H3 hi ⟨p2, v', rfl, s2, n2⟩ ⟨rfl, hx⟩
              refine ⟨_, rfl, _, rfl, (by show 2 ≤ sizeLine; decide), fun q hq => ?_⟩
              refine ⟨_, _, rfl, same_new s2 hq, ?_⟩
              have hj : (l.map (·.1)).length - 1 - i < (l.map (·.1)).length := by omega
              have ed : (l.map (·.1)).drop ((l.map (·.1)).length - (i + 1)) = x :: (l.map (·.1)).drop ((l.map (·.1)).length - i) := by
                have e1 : (l.map (·.1)).length - (i + 1) = (l.map (·.1)).length - 1 - i := by omega
                rw [e1, List.drop_eq_getElem_cons hj]
                rw [List.getElem?_eq_getElem hj] at hx
                have e2 : (l.map (·.1)).length - 1 - i + 1 = (l.map (·.1)).length - i := by omega
                rw [e2, Option.some.inj hx]
              rw [ed]
              exact ⟨q, v', rfl, upd_same, n2.same (same_new (same_refl _) hq)⟩
            · rintro σ H2 ⟨p2, v', rfl, s2, n2⟩
              rw [Nat.sub_self, List.drop_zero] at n2
              exact ⟨_, rfl, kq (by show ((Th.int e).letter && l.all (·.2.any)) = true; rw [eL, eA]; rfl) l e v' H2 rfl rfl s2 n2⟩
end
end K06

set_option Elab.async false
set_option linter.all false
set_option maxRecDepth 100000
set_option maxHeartbeats 4100000
namespace L2
open PySem PySem.Spec PyProof.Rows
/-- xs.extend(t), t a tuple -/
theorem extend_by_tuple {l b : Addr} {as bs : Array Value} {n m : Nat} {dd : Option Addr} {sl : Array (Option Value)} (short : ¬(!as.isEmpty && Builtin.List.listTooLong (as.size + bs.size)) = true) (z1 : as.size ≤ sizeLine) (z2 : as.size + bs.size ≤ sizeLine + 1) :
    Meets (Builtin.«list.extend» ⟨[.ref l, .ref b], []⟩) (fun _ R s => (s.heap.get? l = some { cls := .type "list", dict := none, data := .seq as n, slots := #[] } ∧ s.heap.get? b = some { cls := .type "tuple", dict := dd, data := .seq bs m, slots := sl }) ∧
      R (.ok (.ret Value.none)) { s with heap := s.heap.update l (Obj.mapSeq fun x => x ++ bs), toks := s.toks }) := by
  refine .of_wp fun _ _ _ R s h => ?_
  rcases s with ⟨hp, g, d, tk, os⟩
  rcases h with ⟨⟨at_l, at_b⟩, h⟩
  have z3 : (as ++ bs).size ≤ sizeLine + 1 := by
    rw [Array.size_append]
    exact z2
  have s1 := sub_tuple_tuple
  have s2 := sub_list_list
  have s3 := sub_tuple_list
  have s4 := sub_list_tuple
  wp_walk using (wpAny_updateSeq at_l rfl (hz := z1) (_hz' := z3)), wpAny_loadPart' at_l, wpAny_loadPart' at_b
  exact ⟨_, rfl, h⟩
def rExtT (K : PySem.W.Frag) : V → List V → Hp → VK → Prop := fun x vs G Q => ∃ l b xs ys, x = .ref l ∧ vs = [.ref b] ∧ G l = some (.lst xs) ∧ SqT K G b ys ∧ xs.length + ys.length ≤ sizeLine ∧ Q .non (upd G l (.lst (xs ++ ys)))
theorem mt_extendT {X : Cx} : MtM X "list.extend" (rExtT X.K) := by
  rintro pins s σ G _ _ v us Q I rl ra ⟨l, b, xs, ys, rfl, rfl, hl, hb, hz, q⟩
  obtain rfl : v = Value.ref l := rl
  match us, ra with
  | [w], .cons rb .nil =>
    obtain rfl : w = Value.ref b := rb
    obtain ⟨z, its, n, r, len1, e⟩ := I.lstM hl
    obtain ⟨its2, r2, ⟨o, here, c, m, dt⟩, _⟩ := I.tuple hb
    obtain ⟨oc, od, oda, osl⟩ := o
    dsimp only at c dt
    subst c
    subst dt
    have len2 := r2.length
    have total : its.toArray.size + its2.toArray.size ≤ sizeLine := by rw [List.size_toArray, List.size_toArray]; omega
    have short : ¬ (!its.toArray.isEmpty && Builtin.List.listTooLong (its.toArray.size + its2.toArray.size)) = true := by
      rw [notLongL total]
      simp
    refine call_meets F.slot_list_extend ⟨_, e, rfl⟩ F.entry_list_extend (F.args_list_extend_2 _ _) (extend_by_tuple short (by rw [List.size_toArray]; omega) (by omega)) ⟨⟨e, here⟩, ?_⟩
    refine ⟨.non, _, I.lset (its' := its ++ its2) hl e (by simp) (r.append r2) (by rw [List.length_append]; omega), rfl, q⟩
end L2

set_option Elab.async false
set_option linter.all false
set_option maxRecDepth 100000
set_option maxHeartbeats 2000000
namespace K06
open PySem L2
/-! ### the law's own look, layer by layer -/
namespace Th
def kids : Th → List Th
  | .pr l r => [l, r]
  | _ => []
def lay : Th → Bool
  | .pr _ _ => true
  | t => t.letter
def one : Th → Nat
  | .pr _ _ => 0
  | _ => 1
/-- within so many layers -/
def okN : Nat → Th → Bool
  | 0, _ => false
  | m + 1, .pr l r => okN m l && okN m r
  | _ + 1, t => t.letter
theorem okN_ok : ∀ (m : Nat) (t : Th), okN (m + 1) t = ok m t
  | 0, .pr l r => by show (okN 0 l && okN 0 r) = false; rfl
  | 0, .int i => rfl
  | 0, .bl b => rfl
  | 0, .non => rfl
  | 0, .tup => rfl
  | m + 1, .pr l r => by show (okN (m + 1) l && okN (m + 1) r) = (ok m l && ok m r); rw [okN_ok m l, okN_ok m r]
  | m + 1, .int i => rfl
  | m + 1, .bl b => rfl
  | m + 1, .non => rfl
  | m + 1, .tup => rfl
end Th
def nextL (ly : List Th) : List Th := (ly.map Th.kids).flatten
def ones (ly : List Th) : Nat := (ly.map Th.one).sum
def lsum (ly : List Th) : Nat := (ly.map Th.letters).sum
def bfs : Nat → List Th → Nat → Bool
  | 0, ly, c => ly.isEmpty && decide (c ≤ 60)
  | n + 1, ly, c => if ly.all Th.lay = true then bfs n (nextL ly) (c + ones ly) else false
theorem nextL_cons (t : Th) (ly : List Th) : nextL (t :: ly) = t.kids ++ nextL ly := by simp [nextL]
theorem lsum_append (a b : List Th) : lsum (a ++ b) = lsum a + lsum b := by simp [lsum]
theorem lsum_next : ∀ ly : List Th, ly.all Th.lay = true → lsum ly = ones ly + lsum (nextL ly)
  | [], _ => rfl
  | t :: ly, h => by
    rw [List.all_cons] at h; rw [Bool.and_eq_true] at h
    have ih := lsum_next ly h.2
    rw [nextL_cons, lsum_append]
    have e : t.letters = t.one + lsum t.kids := by
      cases t with
      | pr l r => simp [Th.letters, Th.one, Th.kids, lsum]
      | int i => rfl
      | bl b => cases h.1
      | non => cases h.1
      | tup => cases h.1
    have e1 : lsum (t :: ly) = t.letters + lsum ly := by simp [lsum]
    have e2 : ones (t :: ly) = t.one + ones ly := by simp [ones]
    omega
theorem okN_next (n : Nat) : ∀ ly : List Th, ly.all Th.lay = true → ly.all (Th.okN (n + 1)) = (nextL ly).all (Th.okN n)
  | [], _ => rfl
  | t :: ly, h => by
    rw [List.all_cons] at h; rw [Bool.and_eq_true] at h
    rw [nextL_cons, List.all_cons, List.all_append, okN_next n ly h.2]
    congr 1
    cases t with
    | pr l r => simp [Th.okN, Th.kids]
    | int i => have e : Th.okN (n + 1) (.int i) = true := h.1
               rw [e]; rfl
    | bl b => cases h.1
    | non => cases h.1
    | tup => cases h.1
theorem okN_lay (n : Nat) : ∀ ly : List Th, ly.all Th.lay = false → ly.all (Th.okN (n + 1)) = false
  | [], h => by cases h
  | t :: ly, h => by
    rw [List.all_cons] at h ⊢
    cases e : t.lay with
    | true =>
      rw [e, Bool.true_and] at h
      rw [okN_lay n ly h, Bool.and_false]
    | false =>
      have : Th.okN (n + 1) t = false := by
        cases t with
        | pr l r => cases e
        | int i => exact e
        | bl b => rfl
        | non => rfl
        | tup => rfl
      rw [this, Bool.false_and]
theorem bfs_eq : ∀ (n : Nat) (ly : List Th) (c : Nat), bfs n ly c = (ly.all (Th.okN n) && decide (c + lsum ly ≤ 60))
  | 0, [], c => by simp [bfs, lsum]
  | 0, t :: ly, c => by simp [bfs, Th.okN]
  | n + 1, ly, c => by
    unfold bfs
    by_cases h : ly.all Th.lay = true
    · rw [if_pos h, bfs_eq n, okN_next n ly h, lsum_next ly h]
      have e : c + ones ly + lsum (nextL ly) = c + (ones ly + lsum (nextL ly)) := by omega
      rw [e]
    · rw [if_neg h, okN_lay n ly (by simpa using h), Bool.false_and]
theorem bfs_isKind (t : Th) : bfs 31 [t] 0 = t.isKind := by
  rw [bfs_eq]
  have e : ([t] : List Th).all (Th.okN 31) = t.ok 30 := by simp [Th.okN_ok]
  rw [e]
  simp [lsum, Th.isKind]
theorem size_next : ∀ ly : List Th, ((nextL ly).map Th.size).sum ≤ (ly.map Th.size).sum
  | [] => Nat.le_refl _
  | t :: ly => by
    have ih := size_next ly
    rw [nextL_cons, List.map_append, List.sum_append, List.map_cons, List.sum_cons]
    have e : (t.kids.map Th.size).sum ≤ t.size := by
      cases t <;> simp [Th.kids, Th.size]
    omega
theorem len_size : ∀ ly : List Th, ly.length ≤ (ly.map Th.size).sum
  | [] => Nat.le_refl _
  | t :: ly => by
    have ih := len_size ly
    have p := t.size_pos
    simp only [List.map_cons, List.length_cons, List.sum_cons]
    omega
theorem len_ones : ∀ ly : List Th, ones ly ≤ ly.length
  | [] => Nat.le_refl _
  | t :: ly => by
    have ih := len_ones ly
    have e2 : ones (t :: ly) = t.one + ones ly := by simp [ones]
    have : t.one ≤ 1 := by cases t <;> simp [Th.one]
    simp only [List.length_cons]
    omega
end K06

set_option Elab.async false
set_option linter.all false
set_option maxRecDepth 100000
set_option maxHeartbeats 2000000
namespace K06
open PySem L2
abbrev sIsKind : Stmt := top 37
theorem sum_take (l : List Th) (j : Nat) : ((l.take j).map Th.size).sum ≤ (l.map Th.size).sum := by
  induction l generalizing (j : Nat) with
  | nil => simp
  | cons t l ih =>
    cases j with
    | zero => simp
    | succ j =>
      have := ih j
      simp only [List.take_succ_cons, List.map_cons, List.sum_cons]
      omega
theorem nextL_snoc (a : List Th) (t : Th) : nextL (a ++ [t]) = nextL a ++ t.kids := by simp [nextL]
theorem ones_snoc (a : List Th) (t : Th) : ones (a ++ [t]) = ones a + t.one := by simp [ones]
/-- ahead of a layer -/
def OW (K : PySem.W.Frag) (H : Hp) (t : Th) (v : V) (i : Nat) (σ : St) (H' : Hp) : Prop := ∃ (ly : List (Th × V)) (c : Nat) (la : Addr) (p3 p4 p5 : Option V), σ = [some v, some (.ref la), some (.int (c : Int)), p3, p4, p5] ∧ Same H H' ∧
  H' la = some (.lst (ly.map (·.2))) ∧ (∀ p ∈ ly, ThAt K H p.1 p.2) ∧ bfs (31 - i) (ly.map (·.1)) c = t.isKind ∧ ((ly.map (·.1)).map Th.size).sum ≤ t.size
/-- within a layer -/
def IW (K : PySem.W.Frag) (H : Hp) (t : Th) (v : V) (ly : List (Th × V)) (c : Nat) (la lb : Addr) (p3 : Option V) (j : Nat) (σ : St) (H' : Hp) : Prop := ∃ (lz : List (Th × V)) (p5 : Option V),
  σ = [some v, some (.ref la), some (.int ((c + ones ((ly.take j).map (·.1)) : Nat) : Int)), p3, some (.ref lb), p5] ∧ Same H H' ∧ H' la = some (.lst (ly.map (·.2))) ∧ H' lb = some (.lst (lz.map (·.2))) ∧ (∀ p ∈ lz, ThAt K H p.1 p.2) ∧
  lz.map (·.1) = nextL ((ly.take j).map (·.1)) ∧ ((ly.take j).map (·.1)).all Th.lay = true
section
variable {P : Program} {w : World} {K : PySem.W.Frag} {mg : Str → Option Value} {base : Heap}
theorem scIsKind : FnScope ["_law_thing", "_law_layer", "_law_letters", "_law_deep_here", "_law_later", "_law_here"] ["_law_thing"] (defScope sIsKind) := ⟨rfl, rfl, rfl, by decide +kernel, rfl, by decide +kernel, by decide +kernel⟩
theorem ok_isKind {f : Addr} {fd : FuncData} (F : Fn K mg "_law_is_kind" sIsKind ["_law_thing"] f fd) (T : TxB mg) (T2 : TxD mg) : FnOk P w K mg base CX0 1 f fd ["_law_thing"] (spKind K) := by
  refine F.F.ok scIsKind (fun vs H Q E h => ?_) (fun cdv A outer s H vs Q E hr h => ?_)
  · obtain ⟨v, t, rfl, _⟩ := h
    rfl
  · obtain ⟨v, t, rfl, hv, hz, k⟩ := h
    have nd := scIsKind.nd
    refine ⟨_, pss_cons (ps_set (i := 1) nd rfl (Or.inl rfl) (pe_lst (pa_cons (pv 0) pa_nil)))
      (pss_cons (ps_set (i := 2) nd rfl (Or.inl rfl) pe_int)
      (pss_cons (ps_for PassesOwn.never rfl (pi_range1 (by rfl) T.range (pa_cons pe_int pa_nil)) (pg_name (i := 3) nd rfl (Or.inl rfl))
        (pss_cons (ps_set (i := 4) nd rfl (Or.inl rfl) (pe_lst pa_nil))
        (pss_cons (ps_for PassesOwn.never rfl (pi_list (pv 1)) (pg_name (i := 5) nd rfl (Or.inl rfl))
          (pss_one (ps_if (PW.pt (pw_and (pt_val (pe_callB call_isi (by rfl) T.isinstance (by decide +kernel) (pa_cons (pv 5) (pa_cons (pe_bltn (v := .ty "tuple") (by rfl) T2.tuple (by decide +kernel) rfl) pa_nil))))
              (pw_and1 (pt_cmpR op_eq (pe_callB call_len (by rfl) T.len PySem.boot_len (pa_cons (pv 5) pa_nil)) pe_int (nomark _)))))
            (pss_one (ps_expr (pe_bm PySem.F.plainAttrs_list PySem.F.slot_list_extend PySem.F.type_list_extend mt_extendT (pv 4) (pa_cons (pv 5) pa_nil))))
            (pss_one (ps_if (PW.pt (pw_or (pt_not (pt_val (pe_callB call_isi (by rfl) T.isinstance (by decide +kernel) (pa_cons (pv 5) (pa_cons (pe_bltn (v := .ty "int") (by rfl) T.int (by decide +kernel) rfl) pa_nil)))))
                (pw_or (pt_val (pe_callB call_isi (by rfl) T.isinstance (by decide +kernel) (pa_cons (pv 5) (pa_cons (pe_bltn (v := .ty "bool") (by rfl) T2.bool (by decide +kernel) rfl) pa_nil))))
                (pw_or1 (pt_not (pt_chain op_le op_le pe_int (pv 5) pe_int))))))
              (pss_one (ps_ret pe_bl)) (pss_one (ps_set (i := 2) nd rfl (Or.inl rfl) (pe_op op_add (pv 2) pe_int))))))))
        (pss_one (ps_set (i := 1) nd rfl (Or.inl rfl) (pv 4))))))
      (pss_one (ps_ret (pe_and (pe_cmpR op_eq (pe_callB call_len (by rfl) T.len PySem.boot_len (pa_cons (pv 1) pa_nil)) pe_int (nomark _)) (pe_one (pe_cmpR op_le (pv 2) pe_int (nomark _)))))))), ?_⟩
    refine ⟨_, rfl, (by show 1 ≤ sizeLine; decide), fun l0 h0 => ?_⟩
    refine ⟨31, rfl, by decide, by decide, for_range (lo := 0) (n := 31) (OW K H t v) ⟨[(t, v)], 0, l0, none, none, none, rfl, same_new (same_refl H) h0, upd_same, fun p hp => ?_, bfs_isKind t, (by simp)⟩ ?_ ?_⟩
    · rw [List.mem_singleton] at hp
      subst hp
      exact hv
    · rintro i σ H1 hi ⟨ly, c, la, p3, p4, p5, rfl, s1, hla, hly, hb, hsz⟩
      refine ⟨(by show 0 ≤ sizeLine; decide), fun lb hlb => ?_⟩
      have hb0 : H lb = none := same_none s1 hlb
      have hab : la ≠ lb := ne_of_none hla hlb
      refine ⟨_, rfl, la, rfl, ⟨_, SqL.of (by rw [upd_ne hab]; exact hla)⟩, for_list (K := K) (a := la) (xs := ly.map (·.2)) (IW K H t v ly c la lb (some (.int (0 + (i : Int)))))
        ⟨[], _, rfl, same_new s1 hlb, (by rw [upd_ne hab]; exact hla), upd_same, fun p hp => (by cases hp), rfl, rfl⟩ (fun j σ H' _ ⟨_, _, _, _, q, _⟩ => SqL.of q) ?_ ?_⟩
      · rintro j y σ H2 hj ⟨lz, p5', rfl, s2, q1, q2, q3, q4, q5⟩
        obtain ⟨p, hp, rfl⟩ : ∃ p, ly[j]? = some p ∧ y = p.2 := by
          rw [List.getElem?_map] at hj
          cases e : ly[j]? with
          | none => rw [e] at hj; cases hj
          | some p => rw [e] at hj; exact ⟨p, rfl, (Option.some.inj hj).symm⟩
        have hpm := List.mem_of_getElem? hp
        have hth := (hly p hpm).same s2
        obtain ⟨tv, ty, k1, k2, k3⟩ := hth.ty
        have tk : (ly.take (j + 1)).map (·.1) = (ly.take j).map (·.1) ++ [p.1] := by
          rw [List.take_add_one, hp, List.map_append]; rfl
        have e31 : 31 - i = (30 - i) + 1 := by omega
        have bad : p.1.lay = false → Q (.bl false) H2 := fun e => by
          rw [e31] at hb
          have na : ¬ (ly.map (·.1)).all Th.lay = true := fun z => by
            have := List.all_eq_true.mp z p.1 (List.mem_map.mpr ⟨p, hpm, rfl⟩)
            rw [e] at this; cases this
          unfold bfs at hb
          rw [if_neg na] at hb
          have r := k H2 s2
          rw [← hb] at r
          exact r
        have zb : lz.length ≤ 20000 := by
          have a1 := len_size (lz.map (·.1))
          rw [q4] at a1
          have a2 := size_next ((ly.take j).map (·.1))
          have a3 := sum_take (ly.map (·.1)) j
          rw [← List.map_take] at a3
          have a4 : lz.length = (nextL ((ly.take j).map (·.1))).length := by rw [← q4, List.length_map]
          omega
        cases e : p.1 with
        | pr l r =>
          rw [e] at k3 hth
          obtain ⟨a, x, z, ev, ha, hl, hr'⟩ := id hth
          refine ⟨_, rfl, _, _, _, _, _, rfl, .ty _, ty, k3, _, rfl, ?_⟩
          refine ifT rfl ?_
          refine ⟨_, rfl, _, 2, rfl, (by rw [ev]; exact .inr ⟨_, SqT.of ha, rfl⟩), rfl, _, rfl, ?_⟩
          refine ifT rfl ?_
          refine ⟨_, rfl, .inl ⟨rfl, _, SqL.of q2⟩, _, rfl, lb, a, _, _, rfl, (by rw [ev]), q2, SqT.of ha, Nat.le_of_lt (Nat.lt_of_le_of_lt (m := 20002) (by rw [List.length_map]; show lz.length + 2 ≤ 20002; omega) (by decide)), ?_⟩
          have hpO := hly p hpm
          rw [e] at hpO
          obtain ⟨a', x', z', ev', ha', hl', hr''⟩ := hpO
          have eaa : a' = a := by rw [ev] at ev'; exact (V.ref.inj ev').symm
          subst eaa
          have exx : [x', z'] = [x, z] := by
            have := (s2 _ _ ha').symm.trans ha
            cases this; rfl
          refine ⟨lz ++ [(l, x), (r, z)], some p.2, ?_, fun b o eb => by rw [upd_ne (ne_of_none eb hb0)]; exact s2 b o eb, by rw [upd_ne hab]; exact q1, by rw [upd_same]; simp, fun w hw => ?_, ?_, ?_⟩
          · rw [tk, ones_snoc, e]; rfl
          · cases exx
            rcases List.mem_append.mp hw with hw1 | hw1
            · exact q3 w hw1
            · simp only [List.mem_cons, List.not_mem_nil, or_false] at hw1
              rcases hw1 with rfl | rfl
              · exact hl'
              · exact hr''
          · rw [tk, nextL_snoc, e, List.map_append, q4]; rfl
          · rw [tk, List.all_append, q5, e]; rfl
        | tup =>
          rw [e] at k3 k1 hth
          obtain ⟨a, xs, ev, ha, hl⟩ := id hth
          refine ⟨_, rfl, _, _, _, _, _, rfl, .ty _, ty, k3, _, rfl, ?_⟩
          refine ifT rfl ?_
          refine ⟨_, rfl, _, xs.length, rfl, (by rw [ev]; exact .inr ⟨_, SqT.of ha, rfl⟩), rfl, _, rfl, ?_⟩
          refine ifF (decide_eq_false fun z => hl (by have := V.int.inj z; omega)) ?_
          refine ⟨_, rfl, _, _, _, _, _, rfl, .ty _, ty, k1, _, rfl, ?_⟩
          refine ifT rfl ?_
          refine ifT rfl ?_
          exact bad (by rw [e]; rfl)
        | non =>
          rw [e] at k3 k1
          refine ⟨_, rfl, _, _, _, _, _, rfl, .ty _, ty, k3, _, rfl, ?_⟩
          refine ifF rfl ?_
          refine ifF rfl ?_
          refine ⟨_, rfl, _, _, _, _, _, rfl, .ty _, ty, k1, _, rfl, ?_⟩
          refine ifT rfl ?_
          refine ifT rfl ?_
          exact bad (by rw [e]; rfl)
        | bl b =>
          rw [e] at k3 k1 k2
          refine ⟨_, rfl, _, _, _, _, _, rfl, .ty _, ty, k3, _, rfl, ?_⟩
          refine ifF rfl ?_
          refine ifF rfl ?_
          refine ⟨_, rfl, _, _, _, _, _, rfl, .ty _, ty, k1, _, rfl, ?_⟩
          refine ifF rfl ?_
          refine ⟨_, rfl, _, _, _, _, _, rfl, .ty _, ty, k2 rfl, _, rfl, ?_⟩
          refine ifT rfl ?_
          refine ifT rfl ?_
          exact bad (by rw [e]; rfl)
        | int n =>
          rw [e] at k3 k1 k2 hth
          have ev : p.2 = .int n := hth
          have fin : ∀ b : Bool, Th.letter (.int n) = b → p.1.lay = b := fun b h => by rw [e]; exact h
          refine ⟨_, rfl, _, _, _, _, _, rfl, .ty _, ty, k3, _, rfl, ?_⟩
          refine ifF rfl ?_
          refine ifF rfl ?_
          refine ⟨_, rfl, _, _, _, _, _, rfl, .ty _, ty, k1, _, rfl, ?_⟩
          refine ifF rfl ?_
          refine ⟨_, rfl, _, _, _, _, _, rfl, .ty _, ty, k2 rfl, _, rfl, ?_⟩
          refine ifF rfl ?_
          refine ⟨_, rfl, _, _, rfl, ev, _, rfl, ?_⟩
          refine ite2 (fun c0 => ?_) (fun c0 => ?_)
          · refine ⟨_, _, ev, rfl, _, rfl, ?_⟩
            refine ite2 (fun c1 => ?_) (fun c1 => ?_)
            · refine bad (fin _ ?_)
              show (decide (0 ≤ n) && decide (n ≤ 25)) = false
              have c1' : decide (n ≤ 25) = false := by simpa using c1
              rw [c1', Bool.and_false]
            · have c1' : decide (n ≤ 25) = true := by simpa using c1
              have hlt : Th.letter (.int n) = true := by show (decide (0 ≤ n) && decide (n ≤ 25)) = true; rw [c1', c0]; rfl
              refine ⟨_, rfl, _, _, rfl, rfl, lz, some p.2, ?_, s2, q1, q2, q3, ?_, ?_⟩
              · rw [tk, ones_snoc, e]; rfl
              · rw [tk, nextL_snoc, e, q4]; exact (List.append_nil _).symm
              · rw [tk, List.all_append, q5, e]
                show (true && (Th.letter (.int n) && true)) = true
                rw [hlt]; rfl
          · refine ⟨_, rfl, ?_⟩
            refine ifT rfl ?_
            refine bad (fin _ ?_)
            show (decide (0 ≤ n) && decide (n ≤ 25)) = false
            rw [Bool.eq_false_iff.mpr c0, Bool.false_and]
      · rintro σ H2 ⟨lz, p5', rfl, s2, q1, q2, q3, q4, q5⟩
        rw [List.length_map, List.take_length] at *
        have e31 : 31 - i = (31 - (i + 1)) + 1 := by omega
        rw [e31] at hb
        unfold bfs at hb
        rw [if_pos q5] at hb
        refine ⟨_, rfl, lz, _, lb, _, _, _, rfl, s2, q2, q3, by rw [q4]; exact hb, ?_⟩
        rw [q4]
        exact Nat.le_trans (size_next _) hsz
    · rintro σ H1 ⟨ly, c, la, p3, p4, p5, rfl, s1, hla, hly, hb, hsz⟩
      have hb' : ((ly.map (·.1)).isEmpty && decide (c ≤ 60)) = t.isKind := hb
      refine ⟨_, rfl, _, _, rfl, .inl ⟨_, SqL.of hla, rfl⟩, rfl, _, rfl, ?_⟩
      have e := k H1 s1
      rw [← hb'] at e
      refine ite2 (fun c0 => ?_) (fun c0 => ?_)
      · refine ⟨_, rfl, _, _, rfl, rfl, ?_⟩
        have l0 : ly = [] := by
          have := of_decide_eq_true c0
          have z := V.int.inj this
          rw [List.length_map] at z
          exact (List.length_eq_zero_iff).1 (by omega)
        rw [l0] at e
        have q : decide (c ≤ 60) = decide ((c : Int) ≤ 60) := by simp only [decide_eq_decide]; omega
        have e2 : Q (.bl (decide (c ≤ 60))) H1 := e
        rw [q] at e2
        exact e2
      · have ne : (ly.map (·.1)).isEmpty = false := by
          cases ly with
          | nil => exact absurd (decide_eq_true rfl) c0
          | cons a l => rfl
        rw [ne, Bool.false_and] at e
        exact e
end
end K06

set_option Elab.async false
set_option linter.all false
set_option maxRecDepth 100000
set_option maxHeartbeats 2000000
namespace K06
open PySem L2
abbrev sIs : Stmt := top 32
abbrev sDeep : Stmt := top 33
abbrev sFlag : Stmt := top 34
abbrev sEnds : Stmt := top 36
def fl : V → Bool
  | .non => true
  | .bl _ => true
  | .int _ => true
  | .str _ => true
  | _ => false
/-- two things that are the same through and through -/
def TrQ (H : Hp) : Nat → V → V → Prop
  | 0, _, _ => False
  | n + 1, u, v => (fl v = true ∧ u = v) ∨ ∃ (a' a : Addr) (xs' xs : List V), u = .ref a' ∧ v = .ref a ∧ ((H a' = some (.lst xs') ∧ H a = some (.lst xs)) ∨ (H a' = some (.tup xs') ∧ H a = some (.tup xs))) ∧ xs'.length = xs.length ∧ xs.length ≤ 1000 ∧
      ∀ (i : Nat) (x' x : V), xs'[i]? = some x' → xs[i]? = some x → TrQ H n x' x
theorem TrQ.same {H H' : Hp} (s : Same H H') : ∀ {n : Nat} {u v : V}, TrQ H n u v → TrQ H' n u v
  | 0, _, _, h => h
  | n + 1, u, v, h => by
    rcases h with h | ⟨a', a, xs', xs, rfl, rfl, h, h1, h2, h3⟩
    · exact .inl h
    · refine .inr ⟨a', a, xs', xs, rfl, rfl, ?_, h1, h2, fun i x' x e e' => (h3 i x' x e e').same s⟩
      rcases h with ⟨p, q⟩ | ⟨p, q⟩
      · exact .inl ⟨s _ _ p, s _ _ q⟩
      · exact .inr ⟨s _ _ p, s _ _ q⟩
theorem TrQ.up {H : Hp} : ∀ {n : Nat} {u v : V}, TrQ H n u v → TrQ H (n + 1) u v
  | 0, _, _, h => h.elim
  | n + 1, u, v, h => by
    rcases h with h | ⟨a', a, xs', xs, rfl, rfl, h, h1, h2, h3⟩
    · exact .inl h
    · exact .inr ⟨a', a, xs', xs, rfl, rfl, h, h1, h2, fun i x' x e e' => (h3 i x' x e e').up⟩
theorem TrQ.le {H : Hp} {n m : Nat} {u v : V} (h : TrQ H n u v) (l : n ≤ m) : TrQ H m u v := by
  induction l with
  | refl => exact h
  | step _ ih => exact ih.up
theorem trq_pair {H : Hp} {n : Nat} {a a' : Addr} {x y x' y' : V} (h' : H a' = some (.tup [x', y'])) (h : H a = some (.tup [x, y])) (hx : TrQ H n x' x) (hy : TrQ H n y' y) : TrQ H (n + 1) (.ref a') (.ref a) := by
  refine .inr ⟨a', a, _, _, rfl, rfl, .inr ⟨h', h⟩, rfl, (by show 2 ≤ 1000; decide), fun i u v e e' => ?_⟩
  match i, e, e' with
  | 0, e, e' => cases e; cases e'; exact hx
  | 1, e, e' => cases e; cases e'; exact hy
/-- a kind is itself -/
theorem kind_self {K : PySem.W.Frag} {H : Hp} : ∀ {t : Th} {v : V}, ThAt K H t v → t.any = true → TrQ H t.size v v
  | .int i, v, h, _ => by
    have e : v = .int i := h
    subst e
    exact .inl ⟨rfl, rfl⟩
  | .pr l r, v, ⟨a, x, y, e, ha, hl, hr⟩, h => by
    have h2 : (l.any && r.any) = true := h
    rw [Bool.and_eq_true] at h2
    subst e
    exact trq_pair ha ha ((kind_self hl h2.1).le (Nat.le_add_right _ _)) ((kind_self hr h2.2).le (Nat.le_add_left _ _))
theorem nest_same {H : Hp} {e : Int} {m : Nat} : ∀ {xs : List V} {u v : V}, Nest H xs e u → Nest H xs e v → (∀ x ∈ xs, TrQ H m x x) → TrQ H (m + xs.length + 1) u v
  | [], u, v, hu, hv, _ => by
    have e1 : u = .int e := hu
    have e2 : v = .int e := hv
    subst e1
    subst e2
    exact .inl ⟨rfl, rfl⟩
  | x :: xs, u, v, ⟨a, y, e1, h1, n1⟩, ⟨b, z, e2, h2, n2⟩, hx => by
    subst e1
    subst e2
    have ih := nest_same n1 n2 fun x hm => hx x (List.mem_cons_of_mem _ hm)
    exact trq_pair h1 h2 ((hx x List.mem_cons_self).le (by simp only [List.length_cons]; omega)) (ih.le (by simp only [List.length_cons]; omega))
def spQ (K : PySem.W.Frag) (n : Nat) : Sp := fun vs H Q _ => ∃ u v : V, vs = [u, v] ∧ TrQ H n u v ∧ ∀ H', Same H H' → Q (.bl true) H'
theorem fl_ty {v : V} (h : fl v = true) : ∃ t : String, (∀ K H, TyX K H v (.type t)) ∧ kitB t "tuple" = some false ∧ kitB t "list" = some false ∧ kitB t "dict" = some false ∧ ∃ b, kitB t "bool" = some b := by
  cases v with
  | non => exact ⟨"NoneType", fun _ _ => .base .non, by decide +kernel, by decide +kernel, by decide +kernel, false, by decide +kernel⟩
  | bl b => exact ⟨"bool", fun _ _ => .base (.bl b), by decide +kernel, by decide +kernel, by decide +kernel, true, by decide +kernel⟩
  | int i => exact ⟨"int", fun _ _ => .base (.int i), by decide +kernel, by decide +kernel, by decide +kernel, false, by decide +kernel⟩
  | str x => exact ⟨"str", fun _ _ => .base (.str x), by decide +kernel, by decide +kernel, by decide +kernel, false, by decide +kernel⟩
  | byt b => cases h
  | flt b => cases h
  | ref a => cases h
  | ty n => cases h
theorem fl_scal {v : V} (h : fl v = true) : scal v v = true := by
  cases v <;> first | rfl | cases h
theorem seq_isF {K : PySem.W.Frag} {t : String} (h1 : kitB t "tuple" = some false) (h2 : kitB t "list" = some false) : PySem.W.kitAny K (.type t) [.type "tuple", .type "list"] = some false :=
  kitAny_cons (kit_ty h1) (fun _ => kitAny_cons (kit_ty h2) (fun _ => kitAny_nil) (fun z => nomatch z)) (fun z => nomatch z)
theorem seq_isT {K : PySem.W.Frag} {t : String} {a b : Bool} (h1 : kitB t "tuple" = some a) (h2 : kitB t "list" = some b) (e : (a || b) = true) : PySem.W.kitAny K (.type t) [.type "tuple", .type "list"] = some true :=
  kitAny_cons (kit_ty h1) (fun ha => kitAny_cons (kit_ty h2) (fun hb => by rw [ha, hb] at e; cases e) (fun _ => rfl)) (fun _ => rfl)
theorem rix_of {K : PySem.W.Frag} {H : Hp} {a : Addr} {xs : List V} {i : Nat} {v : V} {Q : VK} (h : H a = some (.lst xs) ∨ H a = some (.tup xs)) (hi : xs[i]? = some v) (q : Q v H) : rIx K (.ref a) (.int (0 + (i : Int))) H Q := by
  have e : atI xs (0 + (i : Int)) = some v := by rw [Int.zero_add]; exact atI_nat hi
  rcases h with h | h
  · exact .inl ⟨a, xs, _, v, rfl, rfl, SqL.of h, e, q⟩
  · exact .inr (.inl ⟨a, xs, _, v, rfl, rfl, SqT.of h, e, q⟩)
theorem valV_one {z : Str} {v : V} : valV [((Sum.inr z : Key), v)] (Sum.inr z) = some v := by
  simp [valV]
section
variable {P : Program} {w : World} {K : PySem.W.Frag} {mg : Str → Option Value} {base : Heap}
theorem scI : FnScope ["_law_told_here", "_law_due", "_law_k", "_law_key"] ["_law_told_here", "_law_due"] (defScope sIs) := ⟨rfl, rfl, rfl, by decide +kernel, rfl, by decide +kernel, by decide +kernel⟩
theorem ok_is {f : Addr} {fd : FuncData} (F : Fn K mg "_law_is" sIs ["_law_told_here", "_law_due"] f fd) (T : TxB mg) (T2 : TxD mg) : ∀ n : Nat, FnOk P w K mg base CX0 (n + 1) f fd ["_law_told_here", "_law_due"] (spQ K n)
  | 0 => by
    refine F.F.ok scI (fun vs H Q E h => ?_) (fun cdv A outer s H vs Q E hr h => ?_)
    · obtain ⟨u, v, _, h, _⟩ := h
      exact h.elim
    · obtain ⟨u, v, _, h, _⟩ := h
      exact h.elim
  | n + 1 => by
    have G : FnOk P w K mg base CX0 (n + 1) f fd ["_law_told_here", "_law_due"] (spQ K n) := ok_is F T T2 n
    refine F.F.ok scI (fun vs H Q E h => ?_) (fun cdv A outer s H vs Q E hr h => ?_)
    · obtain ⟨u, v, rfl, _⟩ := h
      rfl
    · obtain ⟨u, v, rfl, hv, k⟩ := h
      have hu := hu_of hr
      have nd := scI.nd
      refine ⟨_, pss_cons (ps_if (pt_val (pe_callB call_isiT (by rfl) T.isinstance (by decide +kernel) (pa_cons (pv 1) (pa_cons (pe_tup (pa_cons (pe_bltn (v := .ty "tuple") (by rfl) T2.tuple (by decide +kernel) rfl) (pa_cons (pe_bltn (v := .ty "list") (by rfl) T2.list (by decide +kernel) rfl) pa_nil))) pa_nil))))
          (pss_cons (ps_if (PW.pt (pw_or (pt_cmpR op_ne (pe_callB call_isi (by rfl) T.isinstance (by decide +kernel) (pa_cons (pv 0) (pa_cons (pe_bltn (v := .ty "tuple") (by rfl) T2.tuple (by decide +kernel) rfl) pa_nil))) (pe_callB call_isi (by rfl) T.isinstance (by decide +kernel) (pa_cons (pv 1) (pa_cons (pe_bltn (v := .ty "tuple") (by rfl) T2.tuple (by decide +kernel) rfl) pa_nil))) (nomark _))
              (pw_or1 (pt_cmpR op_ne (pe_callB call_isi (by rfl) T.isinstance (by decide +kernel) (pa_cons (pv 0) (pa_cons (pe_bltn (v := .ty "list") (by rfl) T2.list (by decide +kernel) rfl) pa_nil))) (pe_callB call_isi (by rfl) T.isinstance (by decide +kernel) (pa_cons (pv 1) (pa_cons (pe_bltn (v := .ty "list") (by rfl) T2.list (by decide +kernel) rfl) pa_nil))) (nomark _)))))
            (pss_one (ps_ret pe_bl)) pss_nil)
          (pss_one (ps_ret (pe_and (pe_cmpR op_eq (pe_callB call_len (by rfl) T.len PySem.boot_len (pa_cons (pv 0) pa_nil)) (pe_callB call_len (by rfl) T.len PySem.boot_len (pa_cons (pv 1) pa_nil)) (nomark _))
            (pe_one (pe_callB (cr_all rfl) (by rfl) T.all (by decide +kernel) (pa_cons (pe_lc (own := [("_law_k", 2)]) (g := gName 2) (tt := tYes) rfl nd (pi_range1 (by rfl) T.range (pa_cons (pe_callB call_len (by rfl) T.len PySem.boot_len (pa_cons (pv 1) pa_nil)) pa_nil))
              (blkOk_by (N := ["_law_told_here", "_law_due", "_law_k", "_law_key"]) (sc := defScope sIs) (by decide +kernel)) (fun _ _ _ _ _ => pg_name (i := 2) nd rfl (Or.inl rfl)) (fun _ _ _ _ _ => pts_nil)
              (fun _ _ _ _ _ => pe_call G hr (by rfl) F.m F.F.kp F.b .nil pass0 (pa_cons (pe_ix (ix_seq : IxR _ (rIx K)) (pv 0) (pv 2) (fun _ _ => rfl)) (pa_cons (pe_ix (ix_seq : IxR _ (rIx K)) (pv 1) (pv 2) (fun _ _ => rfl)) pa_nil)))) pa_nil)))))))
          pss_nil)
        (pss_cons (ps_if (pt_val (pe_callB call_isi (by rfl) T.isinstance (by decide +kernel) (pa_cons (pv 1) (pa_cons (pe_bltn (v := .ty "dict") (by rfl) T2.dict (by decide +kernel) rfl) pa_nil))))
          (pss_one (ps_ret (pe_and (pe_callB call_isi (by rfl) T.isinstance (by decide +kernel) (pa_cons (pv 0) (pa_cons (pe_bltn (v := .ty "dict") (by rfl) T2.dict (by decide +kernel) rfl) pa_nil)))
            (pe_and (pe_cmpR (op_eqV hr.units) (pv 0) (pv 1) (nomark _))
            (pe_one (pe_callB (cr_all rfl) (by rfl) T.all (by decide +kernel) (pa_cons (pe_lock (pe_lc (own := [("_law_key", 3)]) (g := gName 3) (tt := tYes) rfl nd (pi_keys (pv 1))
              (blkOk_by (N := ["_law_told_here", "_law_due", "_law_k", "_law_key"]) (sc := defScope sIs) (by decide +kernel)) (fun _ _ _ _ _ => pg_name (i := 3) nd rfl (Or.inl rfl)) (fun _ _ _ _ _ => pts_nil)
              (fun _ _ _ _ _ => pe_call G hr (by rfl) F.m F.F.kp F.b .nil pass0 (pa_cons (pe_dget hu (pv 0) (pv 3) (fun _ _ => rfl)) (pa_cons (pe_dget hu (pv 1) (pv 3) (fun _ _ => rfl)) pa_nil))))) pa_nil)))))))
          pss_nil)
        (pss_one (ps_ret (pe_and (pe_cmpR op_eq (pe_callB call_isi (by rfl) T.isinstance (by decide +kernel) (pa_cons (pv 0) (pa_cons (pe_bltn (v := .ty "bool") (by rfl) T2.bool (by decide +kernel) rfl) pa_nil))) (pe_callB call_isi (by rfl) T.isinstance (by decide +kernel) (pa_cons (pv 1) (pa_cons (pe_bltn (v := .ty "bool") (by rfl) T2.bool (by decide +kernel) rfl) pa_nil))) (nomark _))
          (pe_one (pe_cmpR op_eq (pv 0) (pv 1) (nomark _))))))), ?_⟩
      have sm : ∀ {H' : Hp} {p : Addr} {o : HO}, H' p = none → Same H H' → Same H (upd H' p o) := fun hp s b u e => by rw [upd_ne (ne_of_none (s b u e) hp)]; exact s b u e
      have s0 : Same H H := fun _ _ e => e
      rcases hv with ⟨hv, rfl⟩ | ⟨a', a, xs', xs, rfl, rfl, hq, hll, hl, hx⟩
      · -- flat
        obtain ⟨t, ty, k1, k2, k3, kb, k4⟩ := fl_ty hv
        refine ⟨_, rfl, (by show 2 ≤ sizeLine; decide), fun tp htp => ?_⟩
        refine ⟨_, _, _, _, _, _, rfl, upd_same, .cons (.ty _) (.cons (.ty _) .nil), ty _ _, seq_isF k1 k2, _, rfl, ?_⟩
        refine iteF ?_
        refine ⟨_, rfl, _, _, _, _, _, rfl, .ty _, ty _ _, kit_ty k3, _, rfl, ?_⟩
        refine iteF ?_
        refine ⟨_, rfl, _, _, _, _, _, rfl, .ty _, ty _ _, kit_ty k4, _, rfl, _, _, _, _, _, rfl, .ty _, ty _ _, kit_ty k4, rfl, _, rfl, ?_⟩
        refine ite2 (fun _ => ?_) (fun h => absurd (decide_eq_true rfl) h)
        refine ⟨_, rfl, _, rfl, fl_scal hv, ?_⟩
        rw [decide_eq_true (rfl : u = u)]
        exact k _ (sm htp s0)
      · -- a list, a tuple
        obtain ⟨t, c1, c2, ty, ty', k1, k2, e⟩ : ∃ (t : String) (c1 c2 : Bool), (∀ H', Same H H' → TyX K H' (.ref a) (.type t)) ∧ (∀ H', Same H H' → TyX K H' (.ref a') (.type t)) ∧ kitB t "tuple" = some c1 ∧ kitB t "list" = some c2 ∧ (c1 || c2) = true := by
          rcases hq with hq | hq
          · exact ⟨"list", false, true, fun H' s => .base (.lst (s a _ hq.2)), fun H' s => .base (.lst (s a' _ hq.1)), by decide +kernel, by decide +kernel, rfl⟩
          · exact ⟨"tuple", true, false, fun H' s => .base (.tup (s a _ hq.2)), fun H' s => .base (.tup (s a' _ hq.1)), by decide +kernel, by decide +kernel, rfl⟩
        have hq' : ∀ H', Same H H' → (H' a = some (.lst xs) ∨ H' a = some (.tup xs)) := fun H' s => by
          rcases hq with hq | hq
          · exact .inl (s a _ hq.2)
          · exact .inr (s a _ hq.2)
        have hq2 : ∀ H', Same H H' → (H' a' = some (.lst xs') ∨ H' a' = some (.tup xs')) := fun H' s => by
          rcases hq with hq | hq
          · exact .inl (s a' _ hq.1)
          · exact .inr (s a' _ hq.1)
        have hlen' : ∀ H', Same H H' → LenV K (.ref a') H' xs.length := fun H' s => by
          rcases hq2 H' s with h | h
          · exact .inl ⟨xs', SqL.of h, hll.symm⟩
          · exact .inr ⟨xs', SqT.of h, hll.symm⟩
        have hlen : ∀ H', Same H H' → LenV K (.ref a) H' xs.length := fun H' s => by
          rcases hq' H' s with h | h
          · exact .inl ⟨xs, SqL.of h, rfl⟩
          · exact .inr ⟨xs, SqT.of h, rfl⟩
        refine ⟨_, rfl, (by show 2 ≤ sizeLine; decide), fun tp htp => ?_⟩
        have s1 : Same H (upd H tp (.tup [.ty "tuple", .ty "list"])) := sm htp s0
        refine ⟨_, _, _, _, _, _, rfl, upd_same, .cons (.ty _) (.cons (.ty _) .nil), ty _ s1, seq_isT k1 k2 e, _, rfl, ?_⟩
        refine iteT ?_
        refine ⟨_, rfl, _, _, _, _, _, rfl, .ty _, ty' _ s1, kit_ty k1, _, rfl, _, _, _, _, _, rfl, .ty _, ty _ s1, kit_ty k1, rfl, _, rfl, ?_⟩
        refine ite2 (fun h => absurd h (by simp)) (fun _ => ?_)
        refine ⟨_, rfl, _, _, _, _, _, rfl, .ty _, ty' _ s1, kit_ty k2, _, rfl, _, _, _, _, _, rfl, .ty _, ty _ s1, kit_ty k2, rfl, _, rfl, ?_⟩
        refine ite2 (fun h => absurd h (by simp)) (fun _ => ?_)
        refine ⟨_, rfl, _, _, rfl, hlen' _ s1, _, rfl, _, _, rfl, hlen _ s1, rfl, _, rfl, ?_⟩
        refine ite2 (fun _ => ?_) (fun h => absurd (decide_eq_true rfl) h)
        have hz : xs.length ≤ 1000 := hl
        refine ⟨_, rfl, _, _, rfl, hlen _ s1, _, rfl, by omega, by omega, fun D hD => ?_⟩
        refine lc_range (lo := 0) (n := (xs.length : Int).toNat) (fun i H' => Same H H' ∧ H' D = some (.lst (List.replicate i (V.bl true)))) ⟨sm hD s1, upd_same⟩ ?_ ?_
        · rintro i H' hi ⟨h1, h2⟩
          have hi' : i < xs.length := by omega
          have hxi : xs[i]? = some xs[i] := List.getElem?_eq_getElem hi'
          have hyi : xs'[i]? = some (xs'[i]'(by omega)) := List.getElem?_eq_getElem (by omega)
          refine ⟨rfl, ?_⟩
          refine yes_kept ?_
          refine ⟨_, rfl, _, rfl, rix_of (hq2 _ h1) hyi ⟨_, rfl, _, rfl, rix_of (hq' _ h1) hxi ⟨xs'[i]'(by omega), xs[i], rfl, (hx i _ _ hyi hxi).same h1, fun H2 s2 => ?_⟩⟩⟩
          refine ⟨_, s2 D _ h2, ?_, fun b o eb => ?_, ?_⟩
          · rw [List.length_replicate]; exact small1000 (by omega)
          · have nb : b ≠ D := ne_of_none (s1 b o eb) hD
            rw [upd_ne nb]; exact s2 b o (h1 b o eb)
          · rw [upd_same, List.replicate_succ']
        · rintro H' ⟨h1, h2⟩
          refine ⟨D, List.replicate (xs.length : Int).toNat true, rfl, ?_, ?_⟩
          · rw [List.map_replicate]; exact SqL.of h2
          · rw [show (List.replicate (xs.length : Int).toNat true).all id = true by rw [List.all_eq_true]; intro x hx; exact (List.mem_replicate.mp hx).2]
            exact k H' h1
end
/-- a nest: its outermost object is new -/
def spDeep : Sp := fun vs H Q _ => ∃ k : Int, vs = [.int k] ∧ ∀ (a : Addr) (x : V) (H' : Hp), Same H H' → H a = none → (k = 0 → H' a = some (.lst [x])) → (k ≠ 0 → H' a = some (.tup [x])) → Q (.ref a) H'
def spFlag : Sp := fun vs H Q _ => ∃ b : Bool, vs = [.bl b, .bl b] ∧ Q (.bl true) H
def spEnds (K : PySem.W.Frag) : Sp := fun vs H Q _ => ∃ (v : V) (t : Th), vs = [v] ∧ ThAt K H t v ∧ t.size ≤ 10000 ∧ t.any = true ∧
  ∀ xs e p q H', Spine H t v xs e → Same H H' → H p = none → H q = none → H' p = some (.tup [.ref q, .int e]) → H' q = some (.lst xs) → Q (.ref p) H'
section
variable {P : Program} {w : World} {K : PySem.W.Frag} {mg : Str → Option Value} {base : Heap}
theorem scDp : FnScope ["_law_kind_here", "_law_found", "_law_turn"] ["_law_kind_here"] (defScope sDeep) := ⟨rfl, rfl, rfl, by decide +kernel, rfl, by decide +kernel, by decide +kernel⟩
theorem ok_deep {f : Addr} {fd : FuncData} (F : Fn K mg "_law_deep" sDeep ["_law_kind_here"] f fd) (T : TxB mg) : FnOk P w K mg base CX0 1 f fd ["_law_kind_here"] spDeep := by
  refine F.F.ok scDp (fun vs H Q E h => ?_) (fun cdv A outer s H vs Q E hr h => ?_)
  · obtain ⟨k, rfl, _⟩ := h
    rfl
  · obtain ⟨k, rfl, kq⟩ := h
    have nd := scDp.nd
    refine ⟨_, pss_cons (ps_set (i := 1) nd rfl (Or.inl rfl) pe_non)
      (pss_cons (ps_for PassesOwn.never rfl (pi_range1 (by rfl) T.range (pa_cons pe_int pa_nil)) (pg_name (i := 2) nd rfl (Or.inl rfl))
        (pss_one (ps_set (i := 1) nd rfl (Or.inl rfl) (pe_ifExp (pt_cmpR op_eq (pv 0) pe_int (nomark _)) (pe_lst (pa_cons (pv 1) pa_nil)) (pe_tup (pa_cons (pv 1) pa_nil))))))
      (pss_one (ps_ret (pv 1)))), ?_⟩
    refine ⟨36, rfl, by decide, by decide, for_range (lo := 0) (n := 36) (fun i σ H' => ∃ (v : V) (t : Option V), σ = [some (.int k), some v, t] ∧ Same H H' ∧ (0 < i → ∃ a x, v = .ref a ∧ H a = none ∧ (k = 0 → H' a = some (.lst [x])) ∧ (k ≠ 0 → H' a = some (.tup [x])))) ⟨.non, none, rfl, fun _ _ e => e, fun z => by omega⟩ ?_ ?_⟩
    · rintro i σ H' hi ⟨v, t, rfl, h1, _⟩
      refine ⟨_, rfl, rfl, _, rfl, ?_⟩
      refine ite2 (fun c => ?_) (fun c => ?_)
      · have k0 : k = 0 := V.int.inj (of_decide_eq_true c)
        refine ⟨_, rfl, (by show 1 ≤ sizeLine; decide), fun p hp => ?_⟩
        exact ⟨_, _, rfl, same_new h1 hp, fun _ => ⟨p, v, rfl, same_none h1 hp, fun _ => upd_same, fun z => absurd k0 z⟩⟩
      · have k0 : k ≠ 0 := fun z => c (decide_eq_true (by rw [z]))
        refine ⟨_, rfl, (by show 1 ≤ sizeLine; decide), fun p hp => ?_⟩
        exact ⟨_, _, rfl, same_new h1 hp, fun _ => ⟨p, v, rfl, same_none h1 hp, fun z => absurd z k0, fun _ => upd_same⟩⟩
    · rintro σ H' ⟨v, t, rfl, h1, h2⟩
      obtain ⟨a, x, rfl, h3, h4, h5⟩ := h2 (by decide)
      exact ⟨_, rfl, kq a x H' h1 h3 h4 h5⟩
theorem scFlag : FnScope ["_law_told_here", "_law_due"] ["_law_told_here", "_law_due"] (defScope sFlag) := ⟨rfl, rfl, rfl, by decide +kernel, rfl, by decide +kernel, by decide +kernel⟩
theorem ok_flag {f : Addr} {fd : FuncData} (F : Fn K mg "_law_flag" sFlag ["_law_told_here", "_law_due"] f fd) (T : TxB mg) (T2 : TxD mg) : FnOk P w K mg base CX0 1 f fd ["_law_told_here", "_law_due"] spFlag := by
  refine F.F.ok scFlag (fun vs H Q E h => ?_) (fun cdv A outer s H vs Q E hr h => ?_)
  · obtain ⟨b, rfl, _⟩ := h
    rfl
  · obtain ⟨b, rfl, kq⟩ := h
    refine ⟨_, pss_one (ps_ret (pe_and (pe_callB call_isi (by rfl) T.isinstance (by decide +kernel) (pa_cons (pv 0) (pa_cons (pe_bltn (v := .ty "bool") (by rfl) T2.bool (by decide +kernel) rfl) pa_nil))) (pe_one (pe_cmpR op_eq (pv 0) (pv 1) (nomark _))))), ?_⟩
    refine ⟨_, rfl, _, _, _, _, _, rfl, .ty _, .base (.bl b), kit_ty (r := true) (by decide +kernel), _, rfl, ?_⟩
    refine iteT ?_
    refine ⟨_, rfl, _, rfl, rfl, ?_⟩
    rw [decide_eq_true (rfl : V.bl b = V.bl b)]
    exact kq
theorem scEnds : FnScope ["_law_kind_here", "_law_found"] ["_law_kind_here"] (defScope sEnds) := ⟨rfl, rfl, rfl, by decide +kernel, rfl, by decide +kernel, by decide +kernel⟩
theorem ok_ends {f : Addr} {fd : FuncData} (F : Fn K mg "_law_ends" sEnds ["_law_kind_here"] f fd) (T : TxB mg) (T2 : TxD mg) : FnOk P w K mg base CX0 1 f fd ["_law_kind_here"] (spEnds K) := by
  refine F.F.ok scEnds (fun vs H Q E h => ?_) (fun cdv A outer s H vs Q E hr h => ?_)
  · obtain ⟨v, t, rfl, _⟩ := h
    rfl
  · obtain ⟨v, t, rfl, hv, hz, he, kq⟩ := h
    have nd := scEnds.nd
    refine ⟨_, pss_cons (ps_set (i := 1) nd rfl (Or.inl rfl) (pe_lst pa_nil))
      (pss_cons (ps_while PassesOwn.never (pt_val (pe_callB call_isi (by rfl) T.isinstance (by decide +kernel) (pa_cons (pv 0) (pa_cons (pe_bltn (v := .ty "tuple") (by rfl) T2.tuple (by decide +kernel) rfl) pa_nil))))
        (pss_cons (ps_expr (pe_bm PySem.F.plainAttrs_list PySem.F.slot_list_append PySem.F.type_list_append mt_append (pv 1) (pa_cons (pe_ix ix_tup (pv 0) pe_int (fun _ _ => rfl)) pa_nil)))
        (pss_one (ps_set (i := 0) nd rfl (Or.inl rfl) (pe_ix ix_tup (pv 0) pe_int (fun _ _ => rfl))))))
      (pss_one (ps_ret (pe_tup (pa_cons (pv 1) (pa_cons (pv 0) pa_nil)))))), ?_⟩
    refine ⟨(by show 0 ≤ sizeLine; decide), fun fl0 hfl => ?_⟩
    refine ⟨fun m σ H' => ∃ t' v' done, m = t'.size ∧ σ = [some v', some (.ref fl0)] ∧ Same H H' ∧ H' fl0 = some (.lst done) ∧ DW K H t v t' v' done, ⟨_, t, v, [], rfl, rfl, same_new (same_refl H) hfl, upd_same, .start hv he⟩, ?_⟩
    rintro m σ H' ⟨t', v', done, rfl, rfl, hs, hl, dw⟩
    obtain ⟨tv, ty, k1, k2, k3⟩ := (dw.1.same hs).ty
    refine ⟨_, rfl, _, _, _, _, _, rfl, .ty _, ty, k3, _, rfl, ?_⟩
    refine ite2 (fun cP => ?_) (fun cP => ?_)
    · obtain ⟨l, r, rfl⟩ : ∃ l r, t' = .pr l r := by
        have := dw.2.1
        cases t' with
        | pr l r => exact ⟨_, _, rfl⟩
        | int i => cases cP
        | bl b => cases cP
        | non => cases cP
        | tup => cases this
      have hsz := dw.2.2.2
      obtain ⟨a, x, y, rfl, ha, dw'⟩ := dw.down
      refine ⟨fun σ'' H'' => ∃ m', m' < (Th.pr l r).size ∧ ∃ t' v' done, m' = t'.size ∧ σ'' = [some v', some (.ref fl0)] ∧ Same H H'' ∧ H'' fl0 = some (.lst done) ∧ DW K H t v t' v' done, fun σ'' H'' z => z, ?_⟩
      have afl : a ≠ fl0 := ne_of (hs _ _ ha) hl (fun z => by cases z)
      refine ⟨_, rfl, .inl ⟨rfl, _, SqL.of hl⟩, _, rfl, a, _, _, x, rfl, rfl, SqT.of (hs _ _ ha), rfl, fl0, _, _, rfl, rfl, hl, Nat.lt_of_le_of_lt (m := 20000) (by omega) (by decide), ?_⟩
      refine ⟨_, rfl, a, _, _, y, rfl, rfl, SqT.of (by rw [upd_ne afl]; exact hs _ _ ha), rfl, r.size, by show r.size < l.size + r.size + 1; omega, r, y, done ++ [x], rfl, rfl, fun b o e => by rw [upd_ne (ne_of_none e hfl)]; exact hs b o e, upd_same, dw'⟩
    · obtain ⟨k, rfl, sp⟩ := dw.stop (by cases t' <;> first | rfl | exact absurd rfl cP)
      refine ⟨_, rfl, _, rfl, (by show 2 ≤ sizeLine; decide), fun p hp => ?_⟩
      exact kq done k p fl0 _ sp (same_new hs hp) (same_none hs hp) hfl upd_same (by rw [upd_ne (ne_of_none hl hp)]; exact hl)
end
end K06

set_option Elab.async false
set_option linter.all false
set_option maxRecDepth 100000
set_option maxHeartbeats 2000000
namespace K06
open PySem L2
abbrev sLInit : Stmt := inClass (top 26) 0
abbrev sMk : Stmt := top 27
/-- the attributes of the lot "once", its makers at t -/
def LF (t : Addr) : List (Str × V) := putF "_sums" .non (putF "makers" (.ref t) (putF "word" (.str "once") []))
theorem LF_eq (t : Addr) : LF t = [(("word" : Str), V.str "once"), (("makers" : Str), .ref t), (("_sums" : Str), .non)] := by
  unfold LF
  have h1 : ¬ (("word" : Str) = "makers") := by decide +kernel
  have h2 : ¬ (("word" : Str) = "_sums") := by decide +kernel
  have h3 : ¬ (("makers" : Str) = "_sums") := by decide +kernel
  simp only [putF, if_neg h1, if_neg h2, if_neg h3]
theorem LF_word (t : Addr) : (LF t).lookup ("word" : Str) = some (.str "once") := by
  rw [LF_eq]
  have h2 : (("word" : Str) == "word") = true := by decide +kernel
  simp only [List.lookup, h2]
theorem LF_makers (t : Addr) : (LF t).lookup ("makers" : Str) = some (.ref t) := by
  rw [LF_eq]
  have h1 : (("makers" : Str) == "word") = false := by decide +kernel
  have h2 : (("makers" : Str) == "makers") = true := by decide +kernel
  simp only [List.lookup, h1, h2]
/-- the lot of the law -/
def LotAt (CL : Addr) (H : Hp) (x : Addr) : Prop := ∃ dx t, H x = some (.ins CL dx (LF t)) ∧ H t = some (.tup [])
theorem LotAt.same {CL : Addr} {H H' : Hp} {x : Addr} (h : LotAt CL H x) (s : Same H H') : LotAt CL H' x := by
  obtain ⟨dx, t, h1, h2⟩ := h
  exact ⟨dx, t, s _ _ h1, s _ _ h2⟩
/-- what the written part says of Lot -/
structure LotT (K : PySem.W.Frag) (mg : Str → Option Value) (CL aW : Addr) : Prop where
  cl : Cls K CL
  nW : NoAttr K CL "word"
  nM : NoAttr K CL "makers"
  nS : NoAttr K CL "_sums"
  mgL : mg "Lot" = some (.ref CL)
  mgW : mg "WORDS" = some (.ref aW)
  words : ∀ H : Hp, SqT K H aW [.str "once", .str "loan", .str "free", .str "more"]
  str : mg "str" = none
  ha : PySem.W.findIn K (.ref CL) "__class__" = some (some (.builtin "object.__class__"))
  cg : PySem.W.specialIn K (.builtin "object.__class__") "__get__" = some (some (.builtin "getset_descriptor.__get__"))
  cTk : PySem.W.takesIn K (.builtin "object.__class__") = some true
  hm : PySem.W.mroIn K CL (.type "object") = some true
  nI : PySem.W.mroIn K CL (.type "int") = some false
  nT : PySem.W.mroIn K CL (.type "tuple") = some false
section
variable {P : Program} {w : World} {K : PySem.W.Frag} {mg : Str → Option Value} {base : Heap} {CL aW : Addr}
theorem scMk : FnScope ["word", "thing", "maker"] ["word", "thing"] (defScope sMk) := ⟨rfl, rfl, rfl, by decide +kernel, rfl, by decide +kernel, by decide +kernel⟩
def spMk : Sp := fun vs H Q _ => ∃ t : Addr, vs = [.str "once", .ref t] ∧ H t = some (.tup []) ∧ Q (.bl true) H
theorem ok_mk {f : Addr} {fd : FuncData} (F : Fun K "_is_makers" "_is_makers" sMk f fd) (T : TxB mg) (T2 : TxD mg) : FnOk P w K mg base CX0 1 f fd ["word", "thing"] spMk := by
  refine F.ok scMk (fun vs H Q E h => ?_) (fun cdv A outer s H vs Q E hr h => ?_)
  · obtain ⟨t, rfl, _⟩ := h
    rfl
  · obtain ⟨t, rfl, ht, k⟩ := h
    refine ⟨_, pss_cons (ps_if (pt_not (pt_val (pe_callB call_isi (by rfl) T.isinstance (by decide +kernel) (pa_cons (pv 1) (pa_cons (pe_bltn (v := .ty "tuple") (by rfl) T2.tuple (by decide +kernel) rfl) pa_nil))))) (pss_one (ps_ret pe_bl)) pss_nil)
      (pss_cons (ps_if (pt_cmpR op_ne (pv 0) pe_str (nomark _)) (pss_one (ps_ret (pe_cmpR op_eq (pe_callB call_len (by rfl) T.len PySem.boot_len (pa_cons (pv 1) pa_nil)) pe_int (nomark _)))) pss_nil)
      pss_never), ?_⟩
    refine ⟨_, rfl, _, _, _, _, _, rfl, .ty _, .base (.tup ht), kit_ty (r := true) (by decide +kernel), _, rfl, ?_⟩
    refine ifF (by decide) ?_
    refine ⟨_, rfl, rfl, _, rfl, ?_⟩
    refine ifT (by decide +kernel) ?_
    exact ⟨_, rfl, _, _, rfl, .inr ⟨_, SqT.of ht, rfl⟩, rfl, k⟩
theorem scLI : FnScope ["self", "word", "makers"] ["self", "word", "makers"] (defScope sLInit) := ⟨rfl, rfl, rfl, by decide +kernel, rfl, by decide +kernel, by decide +kernel⟩
def spLInit (CL : Addr) : Sp := fun vs H Q _ => ∃ (x dx m : Addr), vs = [.ref x, .str "once", .ref m] ∧ H x = some (.ins CL dx []) ∧ H m = some (.tup []) ∧ ∀ H', (∀ b o, b ≠ x → H b = some o → H' b = some o) → LotAt CL H' x → Q .non H'
theorem ok_linit {f fM : Addr} {fd fdM : FuncData} (F : Fun K "__init__" "Lot.__init__" sLInit f fd) (T : TxB mg) (T2 : TxD mg) (L : LotT K mg CL aW)
    (NM : Fn K mg "_is_makers" sMk ["word", "thing"] fM fdM) : FnOk P w K mg base CX0 2 f fd ["self", "word", "makers"] (spLInit CL) := by
  have GM : FnOk P w K mg base CX0 1 fM fdM ["word", "thing"] spMk := ok_mk NM.F T T2
  refine F.ok scLI (fun vs H Q E h => ?_) (fun cdv A outer s H vs Q E hr h => ?_)
  · obtain ⟨x, dx, m, rfl, _⟩ := h
    rfl
  · obtain ⟨x, dx, m, rfl, hx, hm, k⟩ := h
    refine ⟨_, pss_cons (ps_if (PW.pt (pw_or (pt_not (pt_val (pe_callB call_isi (by rfl) T.isinstance (by decide +kernel) (pa_cons (pv 1) (pa_cons (pe_bltn (v := .ty "str") (by rfl) L.str (by decide +kernel) rfl) pa_nil)))))
        (pw_or1 (pt_cmpR op_notIn_seq (pv 1) (pe_glob (v := .ref aW) (by rfl) L.mgW rfl) (by rfl))))) (pss_one ps_never) pss_nil)
      (pss_cons (ps_if (pt_not (pt_val (pe_call GM hr (by rfl) NM.m NM.F.kp NM.b .nil pass0 (pa_cons (pv 1) (pa_cons (pv 2) pa_nil))))) (pss_one ps_never) pss_nil)
      (pss_cons (ps_fld (pv 0) (pv 1) rfl)
      (pss_cons (ps_fld (pv 0) (pe_tup pa_nil) rfl)
      (pss_cons (ps_fld (pv 0) pe_non rfl)
      (pss_one (ps_if (pt_cmpR op_eq (pv 1) pe_str (nomark _)) (pss_one ps_never) pss_nil)))))), ?_⟩
    refine ⟨_, rfl, _, _, _, _, _, rfl, .ty _, .base (.str _), kit_ty (r := true) (by decide +kernel), _, rfl, ?_⟩
    refine ifF (by decide) ?_
    refine ⟨_, rfl, aW, _, rfl, .inr (L.words H), rfl, rfl, _, rfl, ?_⟩
    refine ifF (by decide +kernel) ?_
    refine ⟨_, rfl, _, rfl, m, rfl, hm, _, rfl, ?_⟩
    refine ifF (by decide) ?_
    refine ⟨_, rfl, _, rfl, x, CL, dx, _, rfl, hx, L.cl, L.nW, (by show 0 < 1000; decide), ?_⟩
    refine ⟨(by show 0 ≤ sizeLine; decide), fun t ht => ?_⟩
    have htx : t ≠ x := fun z => by rw [z, upd_same] at ht; cases ht
    have hxt : (upd (upd H x (.ins CL dx (putF "word" (.str "once") []))) t (.tup [])) x = some (.ins CL dx (putF "word" (.str "once") [])) := by rw [upd_ne htx.symm, upd_same]
    refine ⟨_, rfl, x, CL, dx, _, rfl, hxt, L.cl, L.nM, (by show 1 < 1000; decide), ?_⟩
    refine ⟨_, rfl, x, CL, dx, _, rfl, upd_same, L.cl, L.nS, ?_, ?_⟩
    · have h1 : ¬ (("word" : Str) = "makers") := by decide +kernel
      simp only [putF, if_neg h1]
      show 2 < 1000
      decide
    · refine ⟨_, rfl, rfl, _, rfl, ?_⟩
      refine ifF (by decide +kernel) ?_
      refine k _ (fun b o hb e => ?_) ⟨dx, t, upd_same, ?_⟩
      · have hbt : b ≠ t := fun z => by
          rw [z] at e
          rw [upd_ne htx, e] at ht
          cases ht
        rw [upd_ne hb, upd_ne hb, upd_ne hbt, upd_ne hb]
        exact e
      · rw [upd_ne htx, upd_ne htx, upd_same]
end
theorem lot_non {K : PySem.W.Frag} {mg : Str → Option Value} {CL aW : Addr} (L : LotT K mg CL aW) {H : Hp} {x : Addr} (h : LotAt CL H x) : NonAt K H (.ref x) := by
  obtain ⟨dx, t, hx, _⟩ := h
  refine ⟨.ref CL, .base (.ins hx L.cl L.ha L.cg L.cTk L.hm), ?_, ?_⟩
  · unfold PySem.W.kitOne
    rw [show (Value.ref CL == Value.type "int") = false from rfl, if_neg Bool.false_ne_true]
    show (if PySem.W.kitMeta "int" = true then PySem.W.subIn K (.ref CL) (.type "int") else none) = _
    rw [if_pos (by decide +kernel)]
    exact L.nI
  · unfold PySem.W.kitOne
    rw [show (Value.ref CL == Value.type "tuple") = false from rfl, if_neg Bool.false_ne_true]
    show (if PySem.W.kitMeta "tuple" = true then PySem.W.subIn K (.ref CL) (.type "tuple") else none) = _
    rw [if_pos (by decide +kernel)]
    exact L.nT
/-! ### the heap without the hand -/
def del0 (H : Hp) (p : Addr) : Hp := L2.del H p
theorem del_same_of {H H' : Hp} {p : Addr} (s : Same H H') : Same (del H p) (del H' p) := fun b o e => by
  by_cases hb : b = p
  · rw [hb, del_same] at e; cases e
  · rw [del_ne hb] at e ⊢; exact s b o e
theorem del_off {H H' : Hp} {p : Addr} (k : ∀ b, b ≠ p → H' b = H b) : Same (del H p) (del H' p) := fun b o e => by
  by_cases hb : b = p
  · rw [hb, del_same] at e; cases e
  · rw [del_ne hb] at e ⊢; rw [k b hb]; exact e
theorem del_le {H : Hp} {p : Addr} : Same (del H p) H := fun b o e => by
  by_cases hb : b = p
  · rw [hb, del_same] at e; cases e
  · rw [del_ne hb] at e; exact e
theorem HandAt.same {H H' : Hp} {p c : Addr} {cells : List Int} (h : HandAt H p c cells) (s : Same H H') : HandAt H' p c cells := by
  obtain ⟨⟨i, z, s0, n, hi, e⟩, l⟩ := h
  exact ⟨⟨i, z, s0, n, hi, s _ _ e⟩, s _ _ l⟩
theorem HandAt.some {H : Hp} {p c : Addr} {cells : List Int} (h : HandAt H p c cells) : ∃ l, H p = .some (.lst l) := by
  obtain ⟨⟨i, z, s0, n, hi, e⟩, _⟩ := h
  exact ⟨_, e⟩
theorem HandAt.fresh {H : Hp} {p c q : Addr} {cells : List Int} (h : HandAt H p c cells) (hq : H q = none) : q ≠ p := by
  obtain ⟨l, e⟩ := h.some
  exact fun z => by rw [z, e] at hq; cases hq
namespace Th
def depth : Th → Nat
  | .pr l r => max l.depth r.depth + 1
  | _ => 0
theorem ok_any : ∀ {t : Th} {m : Nat}, t.depth ≤ m → t.ok m = t.any
  | .pr l r, 0, h => by simp [depth] at h
  | .pr l r, m + 1, h => by
    simp only [depth] at h
    show (ok m l && ok m r) = (l.any && r.any)
    rw [ok_any (t := l) (m := m) (by omega), ok_any (t := r) (m := m) (by omega)]
  | .int i, 0, _ => rfl
  | .int i, m + 1, _ => rfl
  | .bl b, 0, _ => rfl
  | .bl b, m + 1, _ => rfl
  | .non, 0, _ => rfl
  | .non, m + 1, _ => rfl
  | .tup, 0, _ => rfl
  | .tup, m + 1, _ => rfl
theorem letters_size : ∀ t : Th, t.letters ≤ t.size
  | .pr l r => by
    have h1 := letters_size l
    have h2 := letters_size r
    simp only [letters, size]
    omega
  | .int _ => Nat.le_refl _
  | .bl _ => Nat.zero_le _
  | .non => Nat.zero_le _
  | .tup => Nat.zero_le _
theorem small {t : Th} (h1 : t.depth ≤ 30) (h2 : t.size ≤ 60) : t.isKind = t.any := by
  unfold isKind
  have h3 := letters_size t
  rw [ok_any h1, decide_eq_true (by omega), Bool.and_true]
end Th
/-- what a def hands back that draws: a thing beside the hand -/
def Back (K : PySem.W.Frag) (H : Hp) (p c : Addr) (cells : List Int) (G : Th → Prop) (Q : VK) : Prop := ∀ (t : Th) (v : V) (H' : Hp), HandAt H' p c cells → Same (del H p) (del H' p) → ThAt K (del H' p) t v → G t → Q v H'
abbrev sKd : Stmt := top 35
def spKd (K : PySem.W.Frag) (d : Nat) : Sp := fun vs H Q _ => ∃ (p c : Addr) (cells : List Int), vs = [.ref p, .int (d : Int)] ∧ HandAt H p c cells ∧ Back K H p c cells (fun t => t.any = true ∧ t.depth ≤ d ∧ t.size < 2 ^ (d + 1)) Q
section
variable {P : Program} {w : World} {K : PySem.W.Frag} {mg : Str → Option Value} {base : Heap}
theorem scKd : FnScope ["_law_hand_here", "_law_deep_here"] ["_law_hand_here", "_law_deep_here"] (defScope sKd) := ⟨rfl, rfl, rfl, by decide +kernel, rfl, by decide +kernel, by decide +kernel⟩
theorem letter_small {r : Int} (h0 : 0 ≤ r) (h : r < 3) : (Th.int r).any = true ∧ (Th.int r).depth = 0 ∧ (Th.int r).size = 1 := by
  refine ⟨?_, rfl, rfl⟩
  show (decide (0 ≤ r) && decide (r ≤ 25)) = true
  rw [decide_eq_true h0, decide_eq_true (by omega)]
  rfl
theorem ok_kd {f fD : Addr} {fd fdD : FuncData} (F : Fn K mg "_law_kind" sKd ["_law_hand_here", "_law_deep_here"] f fd) (ND : Fn K mg "_law_draw" sDraw ["_law_hand_here", "_law_many"] fD fdD) (T : TxB mg) : ∀ d : Nat, FnOk P w K mg base CX0 (d + 2) f fd ["_law_hand_here", "_law_deep_here"] (spKd K d) := by
  intro d
  induction d with
  | zero =>
    have GD : FnOk P w K mg base CX0 1 fD fdD ["_law_hand_here", "_law_many"] spDraw := ok_draw ND.F T
    refine F.F.ok scKd (fun vs H Q E h => ?_) (fun cdv A outer s H vs Q E hr h => ?_)
    · obtain ⟨p, c, cells, rfl, _⟩ := h
      rfl
    · obtain ⟨p, c, cells, rfl, hA, k⟩ := h
      refine ⟨_, pss_cons (ps_if (PW.pt (pw_or (pt_cmpR op_eq (pv 1) pe_int (nomark _)) (pw_or1 (pt_cmpR op_eq (pe_call GD hr (by rfl) ND.m ND.F.kp ND.b .nil pass0 (pa_cons (pv 0) (pa_cons pe_int pa_nil))) pe_int (nomark _)))))
          (pss_one (ps_ret (pe_call GD hr (by rfl) ND.m ND.F.kp ND.b .nil pass0 (pa_cons (pv 0) (pa_cons (pe_op op_add pe_int (pe_callTy call_int1 (by rfl) T.int (by decide +kernel) (pa_cons (pe_cmpR op_eq (pe_call GD hr (by rfl) ND.m ND.F.kp ND.b .nil pass0 (pa_cons (pv 0) (pa_cons pe_int pa_nil))) pe_int (nomark _)) pa_nil))) pa_nil))))) pss_nil)
        pss_never, ?_⟩
      refine ⟨_, rfl, rfl, _, rfl, ?_⟩
      refine ifT (by decide) ?_
      refine ifT (by decide) ?_
      refine ⟨_, rfl, _, rfl, p, c, cells, 8, rfl, hA, by decide, by decide, fun r1 H1 z0 z8 hA1 o1 => ?_⟩
      refine ⟨rfl, .inr ⟨_, rfl, _, _, rfl, rfl, ?_⟩⟩
      refine ⟨p, c, cells, _, rfl, hA1, by split <;> decide, by split <;> decide, fun r2 H2 z0' z3 hA2 o2 => ?_⟩
      have r3 : r2 < 3 := by split at z3 <;> omega
      obtain ⟨q1, q2, q3⟩ := letter_small z0' r3
      exact k (.int r2) _ H2 hA2 (del_off fun b hb => (o2 b hb).trans (o1 b hb)) rfl ⟨q1, by rw [q2]; exact Nat.zero_le _, by rw [q3]; decide⟩
  | succ d G =>
    have GD : FnOk P w K mg base CX0 1 fD fdD ["_law_hand_here", "_law_many"] spDraw := ok_draw ND.F T
    refine F.F.ok scKd (fun vs H Q E h => ?_) (fun cdv A outer s H vs Q E hr h => ?_)
    · obtain ⟨p, c, cells, rfl, _⟩ := h
      rfl
    · obtain ⟨p, c, cells, rfl, hA, k⟩ := h
      have hr1 := hr.mono (show 1 ≤ d + 1 + 1 by omega)
      refine ⟨_, pss_cons (ps_if (PW.pt (pw_or (pt_cmpR op_eq (pv 1) pe_int (nomark _)) (pw_or1 (pt_cmpR op_eq (pe_call GD hr1 (by rfl) ND.m ND.F.kp ND.b .nil pass0 (pa_cons (pv 0) (pa_cons pe_int pa_nil))) pe_int (nomark _)))))
          (pss_one (ps_ret (pe_call GD hr1 (by rfl) ND.m ND.F.kp ND.b .nil pass0 (pa_cons (pv 0) (pa_cons (pe_op op_add pe_int (pe_callTy call_int1 (by rfl) T.int (by decide +kernel) (pa_cons (pe_cmpR op_eq (pe_call GD hr1 (by rfl) ND.m ND.F.kp ND.b .nil pass0 (pa_cons (pv 0) (pa_cons pe_int pa_nil))) pe_int (nomark _)) pa_nil))) pa_nil))))) pss_nil)
        (pss_one (ps_ret (pe_tup (pa_cons (pe_call G hr (by rfl) F.m F.F.kp F.b .nil pass0 (pa_cons (pv 0) (pa_cons (pe_op op_sub (pv 1) pe_int) pa_nil))) (pa_cons (pe_call G hr (by rfl) F.m F.F.kp F.b .nil pass0 (pa_cons (pv 0) (pa_cons (pe_op op_sub (pv 1) pe_int) pa_nil))) pa_nil))))), ?_⟩
      have e1 : decide (V.int ((d + 1 : Nat) : Int) = V.int 0) = false := decide_eq_false fun z => by have := V.int.inj z; omega
      have ed : ((d + 1 : Nat) : Int) - 1 = (d : Int) := by omega
      refine ⟨_, rfl, rfl, _, rfl, ?_⟩
      refine ifF e1 ?_
      refine ⟨_, rfl, p, c, cells, 3, rfl, hA, by decide, by decide, fun r0 H0 z0 z3 hA0 o0 => ?_⟩
      refine ⟨rfl, _, rfl, ?_⟩
      refine ite2 (fun _ => ?_) (fun _ => ?_)
      · refine ⟨_, rfl, _, rfl, p, c, cells, 8, rfl, hA0, by decide, by decide, fun r1 H1 z0 z8 hA1 o1 => ?_⟩
        refine ⟨rfl, .inr ⟨_, rfl, _, _, rfl, rfl, ?_⟩⟩
        refine ⟨p, c, cells, _, rfl, hA1, by split <;> decide, by split <;> decide, fun r2 H2 z0' z3 hA2 o2 => ?_⟩
        have r3 : r2 < 3 := by split at z3 <;> omega
        obtain ⟨q1, q2, q3⟩ := letter_small z0' r3
        exact k (.int r2) _ H2 hA2 (del_off fun b hb => ((o2 b hb).trans (o1 b hb)).trans (o0 b hb)) rfl ⟨q1, by rw [q2]; exact Nat.zero_le _, by rw [q3]; exact Nat.one_lt_two_pow (by omega)⟩
      · refine ⟨_, rfl, _, rfl, _, _, rfl, rfl, p, c, cells, (by show [V.ref p, V.int (((d + 1 : Nat) : Int) - 1)] = _; rw [ed]), hA0, fun t1 v1 H1 hA1 s1 th1 g1 => ?_⟩
        refine ⟨_, rfl, _, rfl, _, _, rfl, rfl, p, c, cells, (by show [V.ref p, V.int (((d + 1 : Nat) : Int) - 1)] = _; rw [ed]), hA1, fun t2 v2 H2 hA2 s2 th2 g2 => ?_⟩
        refine ⟨(by show 2 ≤ sizeLine; decide), fun q hq => ?_⟩
        have a1 := same_new (o := .tup [v1, v2]) (same_refl H2) hq
        have hqp := hA2.fresh hq
        refine k (.pr t1 t2) _ _ (hA2.same a1) (same_trans (del_off o0) (same_trans s1 (same_trans s2 (del_same_of a1)))) ⟨q, v1, v2, rfl, by rw [del_ne hqp]; exact upd_same, (th1.same s2).same (del_same_of a1), th2.same (del_same_of a1)⟩ ⟨?_, ?_, ?_⟩
        · show (t1.any && t2.any) = true
          rw [g1.1, g2.1]; rfl
        · show max t1.depth t2.depth + 1 ≤ d + 1
          have := g1.2.1
          have := g2.2.1
          omega
        · show t1.size + t2.size + 1 < 2 ^ (d + 1 + 1)
          have h1 := g1.2.2
          have h2 := g2.2.2
          have e : (2 : Nat) ^ (d + 1 + 1) = 2 ^ (d + 1) + 2 ^ (d + 1) := by rw [Nat.pow_succ]; omega
          omega
end
end K06

set_option Elab.async false
set_option linter.all false
set_option maxRecDepth 100000
set_option maxHeartbeats 2000000
namespace K06
open PySem L2
abbrev sGreat : Stmt := top 38
def spGreat (K : PySem.W.Frag) : Sp := fun vs H Q _ => ∃ (p c : Addr) (cells : List Int), vs = [.ref p] ∧ HandAt H p c cells ∧ Back K H p c cells (fun t => t.size ≤ 200) Q
/-- two of a row become a pair -/
theorem psz_merge {ws : List (Th × V)} {k : Nat} (h : k + 1 < ws.length) : ws = ws.take k ++ [ws[k], ws[k + 1]] ++ ws.drop (k + 2) := by
  rw [List.append_assoc]
  show ws = ws.take k ++ (ws[k] :: ws[k + 1] :: ws.drop (k + 2))
  have e1 : ws.drop k = ws[k] :: ws.drop (k + 1) := List.drop_eq_getElem_cons (by omega)
  have e2 : ws.drop (k + 1) = ws[k + 1] :: ws.drop (k + 2) := List.drop_eq_getElem_cons h
  rw [← e2, ← e1, List.take_append_drop]
theorem cut_lo {ws : List (Th × V)} {k : Nat} (h : k ≤ ws.length) : cutV (ws.map (·.2)) none (some (k : Int)) = (ws.take k).map (·.2) := by
  unfold cutV
  rw [HT.sIx_none, HT.sIx_nat, List.drop_zero, Nat.sub_zero, List.length_map, Nat.min_eq_left h, List.map_take]
theorem cut_hi {ws : List (Th × V)} {k : Nat} (h : k ≤ ws.length) : cutV (ws.map (·.2)) (some (k : Int)) none = (ws.drop k).map (·.2) := by
  unfold cutV
  rw [HT.sIx_none, HT.sIx_nat, List.length_map, Nat.min_eq_left h, List.take_of_length_le (by simp), List.map_drop]
theorem psz_mem : ∀ {ws : List (Th × V)} {s : Th × V}, s ∈ ws → s.1.size ≤ psz ws
  | [], _, h => by cases h
  | a :: ws, s, h => by
    have e : psz (a :: ws) = a.1.size + psz ws := rfl
    obtain rfl | h := List.mem_cons.mp h
    · omega
    · have := psz_mem h
      omega
theorem psz_app (a b : List (Th × V)) : psz (a ++ b) = psz a + psz b := by simp [psz]
theorem same_upd {G H' : Hp} {p D : Addr} {o : HO} (s : Same G (del H' p)) (hd : G D = none) : Same G (del (upd H' D o) p) := fun b u e => by
  have nb : b ≠ D := ne_of_none e hd
  have h := s b u e
  by_cases hb : b = p
  · rw [hb, del_same] at h; cases h
  · rw [del_ne hb] at h ⊢
    rw [upd_ne nb]
    exact h
theorem HandAt.upd {H : Hp} {p c D : Addr} {cells : List Int} {o : HO} (h : HandAt H p c cells) (h1 : D ≠ p) (h2 : D ≠ c) : HandAt (upd H D o) p c cells := by
  obtain ⟨⟨i, z, s0, n, hi, e⟩, l⟩ := h
  exact ⟨⟨i, z, s0, n, hi, by rw [upd_ne h1.symm]; exact e⟩, by rw [upd_ne h2.symm]; exact l⟩
/-- between two turns of the joining of letters -/
def GW (K : PySem.W.Frag) (H : Hp) (p c : Addr) (cells : List Int) : Nat → St → Hp → Prop := fun m σ H' => ∃ (ws : List (Th × V)) (q : Addr) (t2 t3 : Option V), m = ws.length ∧ σ = [some (.ref p), some (.ref q), t2, t3] ∧ HandAt H' p c cells ∧ Same (del H p) (del H' p) ∧ H' q = some (.lst (ws.map (·.2))) ∧ (∀ s ∈ ws, ThAt K (del H' p) s.1 s.2) ∧ psz ws + ws.length ≤ 130 ∧ 0 < ws.length ∧ q ≠ p
section
variable {P : Program} {w : World} {K : PySem.W.Frag} {mg : Str → Option Value} {base : Heap}
theorem scGr : FnScope ["_law_hand_here", "_law_found", "_law_turn", "_law_at"] ["_law_hand_here"] (defScope sGreat) := ⟨rfl, rfl, rfl, by decide +kernel, rfl, by decide +kernel, by decide +kernel⟩
theorem ok_great {f fD : Addr} {fd fdD : FuncData} (F : Fn K mg "_law_great" sGreat ["_law_hand_here"] f fd) (ND : Fn K mg "_law_draw" sDraw ["_law_hand_here", "_law_many"] fD fdD) (T : TxB mg) : FnOk P w K mg base CX0 2 f fd ["_law_hand_here"] (spGreat K) := by
  have GD : FnOk P w K mg base CX0 1 fD fdD ["_law_hand_here", "_law_many"] spDraw := ok_draw ND.F T
  refine F.F.ok scGr (fun vs H Q E h => ?_) (fun cdv A outer s H vs Q E hr h => ?_)
  · obtain ⟨p, c, cells, rfl, _⟩ := h
    rfl
  · obtain ⟨p, c, cells, rfl, hA, k⟩ := h
    have nd := scGr.nd
    have hu := hu_of hr
    refine ⟨_, pss_cons (ps_if (pt_cmpR op_eq (pe_call GD hr (by rfl) ND.m ND.F.kp ND.b .nil pass0 (pa_cons (pv 0) (pa_cons pe_int pa_nil))) pe_int (nomark _))
        (pss_cons (ps_set (i := 1) nd rfl (Or.inl rfl) pe_int)
        (pss_cons (ps_for PassesOwn.never rfl (pi_range1 (by rfl) T.range (pa_cons (pe_op op_add pe_int (pe_call GD hr (by rfl) ND.m ND.F.kp ND.b .nil pass0 (pa_cons (pv 0) (pa_cons pe_int pa_nil)))) pa_nil)) (pg_name (i := 2) nd rfl (Or.inl rfl))
          (pss_one (ps_set (i := 1) nd rfl (Or.inl rfl) (pe_ifExp (pt_cmpR op_eq (pe_call GD hr (by rfl) ND.m ND.F.kp ND.b .nil pass0 (pa_cons (pv 0) (pa_cons pe_int pa_nil))) pe_int (nomark _)) (pe_tup (pa_cons (pv 1) (pa_cons pe_int pa_nil))) (pe_tup (pa_cons pe_int (pa_cons (pv 1) pa_nil)))))))
        (pss_one (ps_ret (pv 1))))) pss_nil)
      (pss_cons (ps_setLc (i := 1) (own := [("_law_turn", 2)]) (g := gName 2) (tt := tYes) rfl nd rfl rfl (sw_true rfl rfl rfl (by decide +kernel))
        (pi_range1 (by rfl) T.range (pa_cons (pe_op op_add pe_int (pe_call GD hr (by rfl) ND.m ND.F.kp ND.b .nil pass0 (pa_cons (pv 0) (pa_cons pe_int pa_nil)))) pa_nil))
        (blkOk_by (N := ["_law_hand_here", "_law_found", "_law_turn", "_law_at"]) (sc := defScope sGreat) (by decide +kernel)) (fun _ _ _ _ _ => pg_name (i := 2) nd rfl (Or.inl rfl)) (fun _ _ _ _ _ => pts_nil)
        (fun _ _ _ _ _ => pe_call GD hr (by rfl) ND.m ND.F.kp ND.b .nil pass0 (pa_cons (pv 0) (pa_cons pe_int pa_nil))))
      (pss_cons (ps_while PassesOwn.never (pt_cmpR op_gt (pe_callB call_len (by rfl) T.len PySem.boot_len (pa_cons (pv 1) pa_nil)) pe_int (nomark _))
        (Evl.pss_cut (ps_set (i := 3) nd rfl (Or.inl rfl) (pe_ifExp (pt_cmpR op_gt (pe_callB call_len (by rfl) T.len PySem.boot_len (pa_cons (pv 1) pa_nil)) pe_int (nomark _)) (pe_op op_mul pe_int (pe_call GD hr (by rfl) ND.m ND.F.kp ND.b .nil pass0 (pa_cons (pv 0) (pa_cons pe_int pa_nil)))) pe_int))
        (pss_one (ps_set (i := 1) nd rfl (Or.inl rfl) (pe_op op_cat (pe_op op_cat (pe_slice sl_list (pv 1) po_none (po_some (pv 3))) (pe_slice sl_list (pv 1) (po_some (pe_op op_add (pv 3) pe_int)) po_none))
          (pe_lst (pa_cons (pe_tup (pa_cons (pe_ix ix_list (pv 1) (pv 3) (fun _ _ => rfl)) (pa_cons (pe_ix ix_list (pv 1) (pe_op op_add (pv 3) pe_int) (fun _ _ => rfl)) pa_nil))) pa_nil)))))))
      (pss_one (ps_ret (pe_ix ix_list (pv 1) pe_int (fun _ _ => rfl)))))), ?_⟩
    refine ⟨_, rfl, p, c, cells, 2, rfl, hA, by decide, by decide, fun r0 H0 _ _ hA0 o0 => ?_⟩
    refine ⟨rfl, _, rfl, ?_⟩
    have sd0 : Same (del H p) (del H0 p) := del_off o0
    refine ite2 (fun _ => ?_) (fun _ => ?_)
    · refine ⟨_, rfl, p, c, cells, 5, rfl, hA0, by decide, by decide, fun r1 H1 r1a r1b hA1 o1 => ?_⟩
      have sd1 : Same (del H p) (del H1 p) := same_trans sd0 (del_off o1)
      refine ⟨_, _, rfl, rfl, ?_⟩
      refine ⟨_, rfl, by omega, by omega, for_range (lo := 0) (n := (28 + r1).toNat) (fun i σ H' => ∃ (t : Th) (v : V) (t2 t3 : Option V), σ = [some (.ref p), some v, t2, t3] ∧ HandAt H' p c cells ∧ Same (del H p) (del H' p) ∧ ThAt K (del H' p) t v ∧ t.size ≤ 2 * i + 1) ⟨.int 0, .int 0, none, none, rfl, hA1, sd1, rfl, by decide⟩ ?_ ?_⟩
      · rintro i σ H' hi ⟨t, v, t2, t3, rfl, hA2, sd2, hv, hz⟩
        refine ⟨_, rfl, p, c, cells, 2, rfl, hA2, by decide, by decide, fun r2 H2 _ _ hA3 o3 => ?_⟩
        refine ⟨rfl, _, rfl, ?_⟩
        have hv3 := hv.same (del_off o3)
        have sd3 := same_trans sd2 (del_off o3)
        refine ite2 (fun _ => ?_) (fun _ => ?_)
        · refine ⟨_, rfl, (by show 2 ≤ sizeLine; decide), fun q hq => ?_⟩
          have a1 := same_new (o := .tup [v, .int 1]) (same_refl H2) hq
          refine ⟨.pr t (.int 1), _, _, _, rfl, hA3.same a1, same_trans sd3 (del_same_of a1), ⟨q, _, _, rfl, by rw [del_ne (hA3.fresh hq)]; exact upd_same, hv3.same (del_same_of a1), rfl⟩, ?_⟩
          show t.size + 1 + 1 ≤ _
          omega
        · refine ⟨_, rfl, (by show 2 ≤ sizeLine; decide), fun q hq => ?_⟩
          have a1 := same_new (o := .tup [.int 1, v]) (same_refl H2) hq
          refine ⟨.pr (.int 1) t, _, _, _, rfl, hA3.same a1, same_trans sd3 (del_same_of a1), ⟨q, _, _, rfl, by rw [del_ne (hA3.fresh hq)]; exact upd_same, rfl, hv3.same (del_same_of a1)⟩, ?_⟩
          show 1 + t.size + 1 ≤ _
          omega
      · rintro σ H' ⟨t, v, t2, t3, rfl, hA2, sd2, hv, hz⟩
        exact ⟨_, rfl, k t v H' hA2 sd2 hv (by omega)⟩
    · refine ⟨_, rfl, p, c, cells, 7, rfl, hA0, by decide, by decide, fun r1 H1 r1a r1b hA1 o1 => ?_⟩
      have sd1 : Same (del H p) (del H1 p) := same_trans sd0 (del_off o1)
      refine ⟨_, _, rfl, rfl, ?_⟩
      refine ⟨_, rfl, by omega, by omega, fun D hD => ?_⟩
      have hDp := hA1.fresh hD
      have a0 := same_new (o := .lst []) (same_refl H1) hD
      have hDc : D ≠ c := fun z => by rw [z, hA1.cl] at hD; cases hD
      have hDG : del H p D = none := same_none sd1 (by rw [del_ne hDp]; exact hD)
      refine lc_range (lo := 0) (n := (57 + r1).toNat) (fun i H' => HandAt H' p c cells ∧ Same (del H p) (del H' p) ∧ ∃ zs : List Int, zs.length = i ∧ H' D = some (.lst (zs.map V.int))) ⟨hA1.same a0, same_trans sd1 (del_same_of a0), [], rfl, upd_same⟩ ?_ ?_
      · rintro i H' hi ⟨hA2, sd2, zs, hz, hD2⟩
        refine ⟨rfl, ?_⟩
        refine yes_kept ?_
        refine ⟨_, rfl, p, c, cells, 26, rfl, hA2, by decide, by decide, fun r2 H2 _ _ hA3 o3 => ?_⟩
        have hD3 : H2 D = some (.lst (zs.map V.int)) := (o3 D hDp).trans hD2
        refine ⟨_, hD3, by rw [List.length_map]; exact small1000 (by omega), hA3.upd hDp hDc, same_upd (same_trans sd2 (del_off o3)) hDG, zs ++ [r2], by rw [List.length_append, hz]; rfl, by rw [upd_same, List.map_append]; rfl⟩
      · rintro H' ⟨hA2, sd2, zs, hz, hD2⟩
        refine ⟨GW K H p c cells, ⟨_, zs.map (fun z => (.int z, .int z)), D, _, _, rfl, rfl, hA2, sd2, ?A, ?B, ?C, ?D, hDp⟩, ?E⟩
        case A => rw [List.map_map]; exact hD2
        case B =>
          intro s hs
          obtain ⟨z, _, rfl⟩ := List.mem_map.mp hs
          rfl
        case C =>
          have e : ∀ zs : List Int, psz (zs.map (fun z => (.int z, .int z))) = zs.length := fun zs => by
            induction zs with
            | nil => rfl
            | cons z zs ih => 
              simp only [psz, List.map_cons, List.sum_cons, List.length_cons] at ih ⊢
              rw [ih]
              show 1 + zs.length = _
              omega
          rw [e, List.length_map]
          omega
        case D => rw [List.length_map]; omega
        case E =>
          clear hD2 hA2 sd2
          rintro m σ H' ⟨ws, q, t2, t3, rfl, rfl, hA2, sd2, hq, hws, hz2, hp2, hqp⟩
          refine ⟨_, rfl, _, _, rfl, .inl ⟨_, SqL.of hq, rfl⟩, _, _, rfl, rfl, _, rfl, ?_⟩
          rw [List.length_map]
          refine ite2 (fun c1 => ?_) (fun c1 => ?_)
          · have c2 : 1 < ws.length := by have := of_decide_eq_true c1; omega
            refine ⟨fun σ'' H'' => ∃ m', m' < ws.length ∧ GW K H p c cells m' σ'' H'', fun σ'' H'' z => z, ?_⟩
            refine ⟨fun σ3 H3 => ∃ j : Nat, σ3 = [some (.ref p), some (.ref q), t2, some (.int (j : Int))] ∧ HandAt H3 p c cells ∧ (∀ b, b ≠ p → H3 b = H' b) ∧ j + 1 < ws.length, ?_, ?_⟩
            · refine ⟨_, rfl, _, _, rfl, .inl ⟨_, SqL.of hq, rfl⟩, _, _, rfl, rfl, _, rfl, ?_⟩
              rw [List.length_map]
              refine ite2 (fun d1 => ?_) (fun d1 => ?_)
              · have d2 : 3 < ws.length := by have := of_decide_eq_true d1; omega
                refine ⟨_, rfl, p, c, cells, 2, rfl, hA2, by decide, by decide, fun r2 H2 _ _ hA3 o3 => ?_⟩
                obtain rfl | rfl : r2 = 0 ∨ r2 = 1 := by omega
                · exact ⟨_, _, rfl, rfl, .inl ⟨by decide, by decide⟩, 0, rfl, hA3, o3, by omega⟩
                · exact ⟨_, _, rfl, rfl, .inl ⟨by decide, by decide⟩, 2, rfl, hA3, o3, by omega⟩
              · exact ⟨0, rfl, hA2, fun _ _ => rfl, by omega⟩
            · rintro _ H3 ⟨j, rfl, hA3, o3, hj⟩
              have hq3 := (o3 q hqp).trans hq
              have hl3 := cut_lo (ws := ws) (k := j) (by omega)
              have hh3 := cut_hi (ws := ws) (k := j + 2) (by omega)
              have ex : (ws.map (·.2))[j]? = some ws[j].2 := by rw [List.getElem?_map, List.getElem?_eq_getElem (show j < ws.length by omega)]; rfl
              have ey : (ws.map (·.2))[j + 1]? = some ws[j + 1].2 := by rw [List.getElem?_map, List.getElem?_eq_getElem hj]; rfl
              have big : ∀ n, n ≤ 200 → n ≤ sizeLine := fun n h => Nat.le_of_lt (Nat.lt_of_le_of_lt (m := 200) h (by decide))
              have hlw := len_psz ws
              refine ⟨_, rfl, _, rfl, (j : Int), rfl, q, _, rfl, SqL.of hq3, fun p1 hp1 => ?_⟩
              rw [hl3]
              have s1 := same_new (o := .lst ((ws.take j).map (·.2))) (same_refl H3) hp1
              refine ⟨_, rfl, _, rfl, _, _, rfl, rfl, ((j + 2 : Nat) : Int), rfl, q, _, rfl, SqL.of (s1 _ _ hq3), fun p2 hp2' => ?_⟩
              rw [hh3]
              have s2 := same_new (o := .lst ((ws.drop (j + 2)).map (·.2))) s1 hp2'
              refine ⟨p1, p2, _, _, rfl, rfl, same_new (same_refl _) hp2' _ _ upd_same, upd_same, big _ (by simp only [List.length_map, List.length_take, List.length_drop]; omega), fun p3 hp3 => ?_⟩
              rw [← List.map_append]
              have s3 := same_new (o := .lst ((ws.take j ++ ws.drop (j + 2)).map (·.2))) s2 hp3
              refine ⟨_, rfl, _, rfl, q, _, _, _, rfl, rfl, SqL.of (s3 _ _ hq3), atI_nat ex, ?_⟩
              refine ⟨_, rfl, _, rfl, _, _, rfl, rfl, q, _, ((j + 1 : Nat) : Int), _, rfl, rfl, SqL.of (s3 _ _ hq3), atI_nat ey, (by show 2 ≤ sizeLine; decide), fun t ht => ?_⟩
              have s4 := same_new (o := .tup [ws[j].2, ws[j + 1].2]) s3 ht
              refine ⟨(by show 1 ≤ sizeLine; decide), fun l1 hl1 => ?_⟩
              have s5 := same_new (o := .lst [.ref t]) s4 hl1
              refine ⟨p3, l1, _, _, rfl, rfl, same_new (same_new (same_refl _) ht) hl1 _ _ upd_same, upd_same, big _ (by simp only [List.length_map, List.length_append, List.length_take, List.length_drop, List.length_singleton]; omega), fun q2 hq2 => ?_⟩
              have s6 := same_new (o := .lst ((ws.take j ++ ws.drop (j + 2)).map (·.2) ++ [.ref t])) s5 hq2
              have nt : t ≠ p := (hA3.same s3).fresh ht
              have nq : q2 ≠ p := (hA3.same s5).fresh hq2
              have sd3 : Same (del H' p) (del H3 p) := del_off o3
              have sd6 := same_trans sd3 (del_same_of (p := p) s6)
              have em := psz_merge hj
              have zm : psz ws = psz (ws.take j) + (ws[j].1.size + ws[j + 1].1.size) + psz (ws.drop (j + 2)) := by
                have := congrArg psz em
                rw [psz_app, psz_app] at this
                simpa [psz] using this
              refine ⟨_, ?L, ws.take j ++ ws.drop (j + 2) ++ [(.pr ws[j].1 ws[j + 1].1, .ref t)], q2, _, _, rfl, rfl, hA3.same s6, same_trans sd2 sd6, ?M, ?N, ?O, ?P, nq⟩
              case L => simp only [List.length_append, List.length_take, List.length_drop, List.length_singleton]; omega
              case M => rw [upd_same]; simp
              case N =>
                intro s hs
                rcases List.mem_append.mp hs with hs | hs
                · have : s ∈ ws := by
                    rcases List.mem_append.mp hs with h | h
                    · exact List.mem_of_mem_take h
                    · exact List.mem_of_mem_drop h
                  exact (hws s this).same sd6
                · rw [List.mem_singleton] at hs
                  subst hs
                  refine ⟨t, _, _, rfl, ?_, (hws _ (List.getElem_mem _)).same sd6, (hws _ (List.getElem_mem _)).same sd6⟩
                  rw [del_ne nt]
                  exact same_new (same_new (same_refl _) hl1) hq2 _ _ upd_same
              case O =>
                rw [psz_app, psz_app]
                have e : psz [((Th.pr ws[j].1 ws[j + 1].1), V.ref t)] = ws[j].1.size + ws[j + 1].1.size + 1 := by simp [psz, Th.size]
                rw [e]
                simp only [List.length_append, List.length_take, List.length_drop, List.length_singleton]
                omega
              case P => simp only [List.length_append, List.length_take, List.length_drop, List.length_singleton]; omega
          · refine ⟨_, rfl, q, _, _, _, rfl, rfl, SqL.of hq, atI_nat (j := 0) (by rw [List.getElem?_map, List.getElem?_eq_getElem hp2]; rfl), ?_⟩
            refine k ws[0].1 _ H' hA2 sd2 (hws _ (List.getElem_mem _)) ?_
            have hm : ws[0] ∈ ws := List.getElem_mem _
            have : ws[0].1.size ≤ psz ws := psz_mem hm
            show ws[0].1.size ≤ 200
            omega
end
end K06

set_option Elab.async false
set_option linter.all false
set_option maxRecDepth 100000
set_option maxHeartbeats 2000000
namespace K06
open PySem L2
abbrev sBent : Stmt := top 39
def spBent (K : PySem.W.Frag) (d : Nat) : Sp := fun vs H Q _ => ∃ (p c : Addr) (cells : List Int) (v : V) (t : Th), vs = [.ref p, v] ∧ HandAt H p c cells ∧ ThAt K (del H p) t v ∧ t.any = true ∧ t.depth ≤ d ∧ Back K H p c cells (fun t' => t'.depth ≤ t.depth ∧ t'.size ≤ t.size) Q
/-- what the written part says of the making of a Lot -/
structure LotF (K : PySem.W.Frag) (mg : Str → Option Value) (CL fL fM : Addr) (fdL fdM : FuncData) : Prop where
  M : Mk K CL fL
  F : Fun K "__init__" "Lot.__init__" sLInit fL fdL
  b : Binds K fdL ["self", "word", "makers"] []
  NM : Fn K mg "_is_makers" sMk ["word", "thing"] fM fdM
/-- a thing of one part -/
def OneAt (K : PySem.W.Frag) (H : Hp) (v : V) : Prop := ∃ t : Th, t.depth = 0 ∧ t.size = 1 ∧ ThAt K H t v
theorem OneAt.same {K : PySem.W.Frag} {H H' : Hp} {v : V} (h : OneAt K H v) (s : Same H H') : OneAt K H' v := by
  obtain ⟨t, a, b, c⟩ := h
  exact ⟨t, a, b, c.same s⟩
section
variable {K : PySem.W.Frag} {H : Hp}
theorem one_int (i : Int) : OneAt K H (.int i) := ⟨.int i, rfl, rfl, rfl⟩
theorem one_bl (b : Bool) : OneAt K H (.bl b) := ⟨.bl b, rfl, rfl, rfl⟩
theorem one_none : OneAt K H .non := ⟨.non, rfl, rfl, _, .base .non, kit_ty (r := false) (by decide +kernel), kit_ty (r := false) (by decide +kernel)⟩
theorem one_str (z : Str) : OneAt K H (.str z) := ⟨.non, rfl, rfl, _, .base (.str z), kit_ty (r := false) (by decide +kernel), kit_ty (r := false) (by decide +kernel)⟩
theorem one_lst {a : Addr} {xs : List V} (h : H a = some (.lst xs)) : OneAt K H (.ref a) := ⟨.non, rfl, rfl, _, .base (.lst h), kit_ty (r := false) (by decide +kernel), kit_ty (r := false) (by decide +kernel)⟩
theorem one_dK {a : Addr} {xs : List (Key × V)} (h : H a = some (.dK xs)) : OneAt K H (.ref a) := ⟨.non, rfl, rfl, _, .base (.dK h), kit_ty (r := false) (by decide +kernel), kit_ty (r := false) (by decide +kernel)⟩
theorem one_tup {a : Addr} {xs : List V} (h : H a = some (.tup xs)) (l : xs.length ≠ 2) : OneAt K H (.ref a) := ⟨.tup, rfl, rfl, a, xs, rfl, h, l⟩
end
theorem lotAt_del {CL : Addr} {H : Hp} {p x : Addr} {l : List V} (hp : H p = some (.lst l)) (h : LotAt CL H x) : LotAt CL (del H p) x := by
  obtain ⟨dx, t, h1, h2⟩ := h
  exact ⟨dx, t, by rw [del_ne (fun z => by rw [z, hp] at h1; cases h1)]; exact h1, by rw [del_ne (fun z => by rw [z, hp] at h2; cases h2)]; exact h2⟩
section
variable {P : Program} {w : World} {K : PySem.W.Frag} {mg : Str → Option Value} {base : Heap} {CL aW fL fM : Addr} {fdL fdM : FuncData}
theorem scBe : FnScope ["_law_hand_here", "_law_kind_here", "_law_things"] ["_law_hand_here", "_law_kind_here"] (defScope sBent) := ⟨rfl, rfl, rfl, by decide +kernel, rfl, by decide +kernel, by decide +kernel⟩
theorem ok_bent1 {f fD fS : Addr} {fd fdD fdS : FuncData} (F : Fn K mg "_law_bent" sBent ["_law_hand_here", "_law_kind_here"] f fd) (ND : Fn K mg "_law_draw" sDraw ["_law_hand_here", "_law_many"] fD fdD)
    (NS : Fn K mg "_law_some" sSome ["_law_hand_here", "_law_things"] fS fdS) (T : TxB mg) (T2 : TxD mg) (L : LotT K mg CL aW) (LF : LotF K mg CL fL fM fdL fdM) (d : Nat) {spR : Sp}
    (G : FnOk P w K mg base CX0 (d + 3) f fd ["_law_hand_here", "_law_kind_here"] spR) (hG : ∀ d', d = d' + 1 → spR = spBent K d') : FnOk P w K mg base CX0 (d + 4) f fd ["_law_hand_here", "_law_kind_here"] (spBent K d) := by
  have GD : FnOk P w K mg base CX0 1 fD fdD ["_law_hand_here", "_law_many"] spDraw := ok_draw ND.F T
  have GS : FnOk P w K mg base CX0 2 fS fdS ["_law_hand_here", "_law_things"] (spSome K) := ok_some NS.F T ND.F ND.b ND.m
  have GL : FnOk P w K mg base CX0 2 fL fdL ["self", "word", "makers"] (spLInit CL) := ok_linit LF.F T T2 L LF.NM
  refine F.F.ok scBe (fun vs H Q E h => ?_) (fun cdv A outer s H vs Q E hr h => ?_)
  · obtain ⟨p, c, cells, v, t, rfl, _⟩ := h
    rfl
  · obtain ⟨p, c, cells, v, t, rfl, hA, hv, ha, hd, k⟩ := h
    have nd := scBe.nd
    have hu := hu_of hr
    have hr1 := hr.mono (show 1 ≤ d + 3 by omega)
    have hr2 := hr.mono (show 2 ≤ d + 3 by omega)
    have hr3 := hr.mono (show 3 ≤ d + 3 by omega)
    refine ⟨_, Evl.pss_cut (ps_if (PW.pt (pw_and (pt_val (pe_callB call_isi (by rfl) T.isinstance (by decide +kernel) (pa_cons (pv 1) (pa_cons (pe_bltn (v := .ty "tuple") (by rfl) T2.tuple (by decide +kernel) rfl) pa_nil))))
          (pw_and1 (pt_cmpR op_gt (pe_call GD hr1 (by rfl) ND.m ND.F.kp ND.b .nil pass0 (pa_cons (pv 0) (pa_cons pe_int pa_nil))) pe_int (nomark _)))))
        (pss_cons (ps_if (pt_cmpR op_eq (pe_call GD hr1 (by rfl) ND.m ND.F.kp ND.b .nil pass0 (pa_cons (pv 0) (pa_cons pe_int pa_nil))) pe_int (nomark _))
          (pss_one (ps_ret (pe_tup (pa_cons (pe_call G hr (by rfl) F.m F.F.kp F.b .nil pass0 (pa_cons (pv 0) (pa_cons (pe_ix ix_tup (pv 1) pe_int (fun _ _ => rfl)) pa_nil))) (pa_cons (pe_ix ix_tup (pv 1) pe_int (fun _ _ => rfl)) pa_nil))))) pss_nil)
        (pss_one (ps_ret (pe_tup (pa_cons (pe_ix ix_tup (pv 1) pe_int (fun _ _ => rfl)) (pa_cons (pe_call G hr (by rfl) F.m F.F.kp F.b .nil pass0 (pa_cons (pv 0) (pa_cons (pe_ix ix_tup (pv 1) pe_int (fun _ _ => rfl)) pa_nil))) pa_nil)))))) pss_nil)
      (Evl.pss_cut (ps_set (i := 2) nd rfl (Or.inl rfl) (pe_lst (pa_cons pe_int (pa_cons (pe_un un_neg pe_int) (pa_cons pe_bl (pa_cons pe_bl (pa_cons pe_non (pa_cons pe_str (pa_cons pe_str (pa_cons (pe_lst (pa_cons pe_int (pa_cons pe_int pa_nil))) (pa_cons (pe_tup (pa_cons pe_int pa_nil)) (pa_cons (pe_tup (pa_cons pe_int (pa_cons pe_int (pa_cons pe_int pa_nil))))
          (pa_cons (pe_tup pa_nil) (pa_cons pe_dnewK (pa_cons (pe_op op_pow pe_int pe_int) (pa_cons (pe_make LF.M GL hr3 (by rfl) L.mgL LF.b .nil pass0 (pa_cons pe_str (pa_cons (pe_tup pa_nil) pa_nil))) pa_nil))))))))))))))))
      (pss_one (ps_ret (pe_call GS hr2 (by rfl) NS.m NS.F.kp NS.b .nil pass0 (pa_cons (pv 0) (pa_cons (pe_op op_cat (pv 2) (pe_lst (pa_cons pe_int (pa_cons (pe_ifExp (pt_val (pe_callB call_isi (by rfl) T.isinstance (by decide +kernel) (pa_cons (pv 1) (pa_cons (pe_bltn (v := .ty "tuple") (by rfl) T2.tuple (by decide +kernel) rfl) pa_nil))))
          (pe_callTy call_list_of (by rfl) T2.list (by decide +kernel) (pa_cons (pv 1) pa_nil)) (pe_lst (pa_cons (pv 1) pa_nil))) pa_nil)))) pa_nil)))))), ?_⟩
    obtain ⟨tv, ty, _, _, kt⟩ := (hv.same del_le).ty
    refine ⟨fun σ' H1 => σ' = [some (.ref p), some v, none] ∧ HandAt H1 p c cells ∧ (∀ b, b ≠ p → H1 b = H b), ?_, ?_⟩
    · refine ⟨_, rfl, _, _, _, _, _, rfl, .ty _, ty, kt, _, rfl, ?_⟩
      refine ite2 (fun c1 => ?_) (fun c1 => ?_)
      · refine ⟨_, rfl, p, c, cells, 5, rfl, hA, by decide, by decide, fun r0 H0 _ _ hA0 o0 => ?_⟩
        refine ⟨_, _, rfl, rfl, _, rfl, ?_⟩
        refine ite2 (fun c2 => ?_) (fun c2 => ?_)
        · obtain ⟨l, r, rfl⟩ : ∃ l r, t = .pr l r := by
            cases t with
            | pr l r => exact ⟨l, r, rfl⟩
            | int i => cases c1
            | bl b => cases c1
            | non => cases c1
            | tup => cases ha
          obtain ⟨a, x, y, rfl, hpr, hl, hr'⟩ := hv
          have ha2 : (l.any && r.any) = true := ha
          rw [Bool.and_eq_true] at ha2
          have hd2 : max l.depth r.depth + 1 ≤ d := hd
          obtain ⟨d', rfl⟩ : ∃ d', d = d' + 1 := ⟨d - 1, by omega⟩
          have eR := hG d' rfl
          subst eR
          refine ⟨_, rfl, p, c, cells, 2, rfl, hA0, by decide, by decide, fun r1 H1 _ _ hA1 o1 => ?_⟩
          have sd1 : Same (del H p) (del H1 p) := same_trans (del_off o0) (del_off o1)
          have hp1 := sd1 _ _ hpr
          have hq1 := del_le _ _ hp1
          refine ⟨rfl, _, rfl, ?_⟩
          refine ite2 (fun _ => ?_) (fun _ => ?_)
          · refine ⟨_, rfl, _, rfl, a, _, _, x, rfl, rfl, SqT.of hq1, rfl, p, c, cells, x, l, rfl, hA1, hl.same sd1, ha2.1, by omega, fun t' v' H2 hA2 sd2 hv' g => ?_⟩
            have hp2 := sd2 _ _ hp1
            refine ⟨_, rfl, a, _, _, y, rfl, rfl, SqT.of (del_le _ _ hp2), rfl, (by show 2 ≤ sizeLine; decide), fun q hq => ?_⟩
            have a1 := same_new (o := .tup [v', y]) (same_refl H2) hq
            have sd3 := same_trans sd1 sd2
            refine k (.pr t' r) _ _ (hA2.same a1) (same_trans sd3 (del_same_of a1)) ⟨q, v', y, rfl, by rw [del_ne (hA2.fresh hq)]; exact upd_same, hv'.same (del_same_of a1), (hr'.same sd3).same (del_same_of a1)⟩ ⟨?_, ?_⟩
            · show max t'.depth r.depth + 1 ≤ max l.depth r.depth + 1
              have := g.1
              omega
            · show t'.size + r.size + 1 ≤ l.size + r.size + 1
              have := g.2
              omega
          · refine ⟨_, rfl, a, _, _, x, rfl, rfl, SqT.of hq1, rfl, ?_⟩
            refine ⟨_, rfl, _, rfl, a, _, _, y, rfl, rfl, SqT.of hq1, rfl, p, c, cells, y, r, rfl, hA1, hr'.same sd1, ha2.2, by omega, fun t' v' H2 hA2 sd2 hv' g => ?_⟩
            refine ⟨(by show 2 ≤ sizeLine; decide), fun q hq => ?_⟩
            have a1 := same_new (o := .tup [x, v']) (same_refl H2) hq
            have sd3 := same_trans sd1 sd2
            refine k (.pr l t') _ _ (hA2.same a1) (same_trans sd3 (del_same_of a1)) ⟨q, x, v', rfl, by rw [del_ne (hA2.fresh hq)]; exact upd_same, (hl.same sd3).same (del_same_of a1), hv'.same (del_same_of a1)⟩ ⟨?_, ?_⟩
            · show max l.depth t'.depth + 1 ≤ max l.depth r.depth + 1
              have := g.1
              omega
            · show l.size + t'.size + 1 ≤ l.size + r.size + 1
              have := g.2
              omega
        · exact ⟨rfl, hA0, o0⟩
      · exact ⟨rfl, hA, fun _ _ => rfl⟩
    · rintro _ H1 ⟨rfl, hA1, o1⟩
      have sd1 : Same (del H p) (del H1 p) := del_off o1
      refine ⟨fun σ' H2 => ∃ (th : Addr) (xs : List V), σ' = [some (.ref p), some v, some (.ref th)] ∧ HandAt H2 p c cells ∧ Same (del H p) (del H2 p) ∧ H2 th = some (.lst xs) ∧ th ≠ p ∧ xs.length = 14 ∧ ∀ v ∈ xs, OneAt K (del H2 p) v, ?_, ?_⟩
      · refine ⟨_, rfl, (by show 2 ≤ sizeLine; decide), fun q1 h1 => ?_⟩
        have s1 := same_new (o := .lst [.int 0, .int 0]) (same_refl H1) h1
        have f1 : upd H1 q1 (.lst [.int 0, .int 0]) q1 = some (.lst [.int 0, .int 0]) := upd_same
        generalize hG1 : upd H1 q1 (.lst [.int 0, .int 0]) = G1 at *
        refine ⟨(by show 1 ≤ sizeLine; decide), fun t2 h2 => ?_⟩
        have s2 := same_new (o := .tup [.int 0]) (same_refl G1) h2
        have f2 : upd G1 t2 (.tup [.int 0]) t2 = some (.tup [.int 0]) := upd_same
        generalize hG2 : upd G1 t2 (.tup [.int 0]) = G2 at *
        refine ⟨(by show 3 ≤ sizeLine; decide), fun t3 h3 => ?_⟩
        have s3 := same_new (o := .tup [.int 0, .int 0, .int 0]) (same_refl G2) h3
        have f3 : upd G2 t3 (.tup [.int 0, .int 0, .int 0]) t3 = some (.tup [.int 0, .int 0, .int 0]) := upd_same
        generalize hG3 : upd G2 t3 (.tup [.int 0, .int 0, .int 0]) = G3 at *
        refine ⟨(by show 0 ≤ sizeLine; decide), fun t4 h4 => ?_⟩
        have s4 := same_new (o := .tup []) (same_refl G3) h4
        have f4 : upd G3 t4 (.tup []) t4 = some (.tup []) := upd_same
        generalize hG4 : upd G3 t4 (.tup []) = G4 at *
        intro t5 h5
        have s5 := same_new (o := .dK []) (same_refl G4) h5
        have f5 : upd G4 t5 (.dK []) t5 = some (.dK []) := upd_same
        generalize hG5 : upd G4 t5 (.dK []) = G5 at *
        refine ⟨_, _, rfl, rfl, ⟨by decide, by decide, by decide⟩, ?_⟩
        refine ⟨(by show 0 ≤ sizeLine; decide), fun t6 h6 => ?_⟩
        have s6 := same_new (o := .tup []) (same_refl G5) h6
        intro x dx nx ndx nex
        have htx : t6 ≠ x := ne_of_none upd_same nx
        have htd : t6 ≠ dx := ne_of_none upd_same ndx
        refine ⟨x, dx, t6, rfl, upd_same, (by rw [upd_ne htx, upd_ne htd, upd_same]), fun H7 kp hL => ⟨rfl, (by show 14 ≤ sizeLine; decide), fun th hth => ?_⟩⟩
        have s7 : Same G5 H7 := fun b o e => by
          have hbt : b ≠ t6 := ne_of_none e h6
          have e2 : upd G5 t6 (.tup []) b = some o := by rw [upd_ne hbt]; exact e
          have hbx : b ≠ x := ne_of_none e2 nx
          have hbd : b ≠ dx := ne_of_none e2 ndx
          exact kp b o hbx (by rw [upd_ne hbx, upd_ne hbd]; exact e2)
        have t13 := same_trans s1 (same_trans s2 s3)
        have t15 := same_trans t13 (same_trans s4 s5)
        have s8 := same_new (o := .lst [.int 26, .int (-1), .bl true, .bl false, .non, .str "0", .str "a", .ref q1, .ref t2, .ref t3, .ref t4, .ref t5, .int (10 ^ 29), .ref x]) s7 hth
        have g5 := same_trans s5 s8
        have g4 := same_trans s4 g5
        have g3 := same_trans s3 g4
        have g2 := same_trans s2 g3
        have hA8 := hA1.same (same_trans s1 g2)
        obtain ⟨l8, hl8⟩ := hA8.some
        have lot8 := lotAt_del hl8 (hL.same (same_new (o := .lst [.int 26, .int (-1), .bl true, .bl false, .non, .str "0", .str "a", .ref q1, .ref t2, .ref t3, .ref t4, .ref t5, .int (10 ^ 29), .ref x]) (same_refl H7) hth))
        have n1 := hA1.fresh h1
        have n2 := (hA1.same s1).fresh h2
        have n3 := (hA1.same (same_trans s1 s2)).fresh h3
        have n4 := (hA1.same t13).fresh h4
        have n5 := (hA1.same (same_trans t13 s4)).fresh h5
        have nth := (hA1.same (same_trans t15 s7)).fresh hth
        refine ⟨th, _, rfl, hA8, same_trans sd1 (del_same_of (same_trans s1 g2)), upd_same, nth, rfl, fun u hu => ?_⟩
        simp only [List.mem_cons, List.not_mem_nil, or_false] at hu
        rcases hu with rfl | rfl | rfl | rfl | rfl | rfl | rfl | rfl | rfl | rfl | rfl | rfl | rfl | rfl
        · exact one_int _
        · exact one_int _
        · exact one_bl _
        · exact one_bl _
        · exact one_none
        · exact one_str _
        · exact one_str _
        · exact one_lst (by rw [del_ne n1]; exact g2 _ _ f1)
        · exact one_tup (by rw [del_ne n2]; exact g3 _ _ f2) (by decide)
        · exact one_tup (by rw [del_ne n3]; exact g4 _ _ f3) (by decide)
        · exact one_tup (by rw [del_ne n4]; exact g5 _ _ f4) (by decide)
        · exact one_dK (by rw [del_ne n5]; exact s8 _ _ f5)
        · exact one_int _
        · exact ⟨.non, rfl, rfl, lot_non L lot8⟩
      · rintro _ H2 ⟨th, xs, rfl, hA2, sd2, hth, nth, hlen, hone⟩
        obtain ⟨tw, tyw, _, _, kw⟩ := ((hv.same sd2).same del_le).ty
        have fin : ∀ (l1 : Addr) (ys : List V) (l2 l3 : Addr), H2 l1 = none → upd H2 l1 (.lst ys) l2 = none → upd (upd H2 l1 (.lst ys)) l2 (.lst [.int 25, .ref l1]) l3 = none → spSome K [.ref p, .ref l3] (upd (upd (upd H2 l1 (.lst ys)) l2 (.lst [.int 25, .ref l1])) l3 (.lst (xs ++ [.int 25, .ref l1]))) Q E0 := by
          intro l1 ys l2 l3 m1 m2 m3
          have n1 := hA2.fresh m1
          have u1 := same_new (o := .lst ys) (same_refl H2) m1
          have e1 : upd H2 l1 (.lst ys) l1 = some (.lst ys) := upd_same
          generalize upd H2 l1 (.lst ys) = G1 at *
          have u2 := same_new (o := .lst [.int 25, .ref l1]) (same_refl G1) m2
          generalize upd G1 l2 (.lst [.int 25, .ref l1]) = G2 at *
          have n3 := (hA2.same (same_trans u1 u2)).fresh m3
          have u3 := same_new (o := .lst (xs ++ [.int 25, .ref l1])) (same_refl G2) m3
          have e3 : upd G2 l3 (.lst (xs ++ [.int 25, .ref l1])) l3 = some (.lst (xs ++ [.int 25, .ref l1])) := upd_same
          generalize upd G2 l3 (.lst (xs ++ [.int 25, .ref l1])) = G3 at *
          have u23 := same_trans u2 u3
          have u13 := same_trans u1 u23
          refine ⟨p, c, l3, cells, _, rfl, hA2.same u13, SqL.of e3, n3, (by rw [List.length_append]; exact Nat.lt_of_lt_of_le (m := 2) (by decide) (Nat.le_add_left _ _)), (by rw [List.length_append, hlen]; show 14 + 2 < 1000; decide), fun i u H4 hi hA4 o4 => ?_⟩
          have sd4 : Same (del G3 p) (del H4 p) := del_off o4
          have one : OneAt K (del G3 p) u := by
            have hu := List.mem_of_getElem? hi
            rcases List.mem_append.mp hu with h | h
            · exact (hone u h).same (del_same_of u13)
            · simp only [List.mem_cons, List.not_mem_nil, or_false] at h
              rcases h with rfl | rfl
              · exact one_int _
              · exact one_lst (by rw [del_ne n1]; exact u23 _ _ e1)
          obtain ⟨t', d0, z1, ht'⟩ := one.same sd4
          exact k t' u H4 hA4 (same_trans sd2 (same_trans (del_same_of u13) sd4)) ht' ⟨by rw [d0]; exact Nat.zero_le _, by rw [z1]; exact t.size_pos⟩
        refine ⟨_, rfl, _, rfl, _, rfl, _, _, _, _, _, rfl, .ty _, tyw, kw, _, rfl, ?_⟩
        refine ite2 (fun c1 => ?_) (fun c1 => ?_)
        · obtain ⟨l, r, rfl⟩ : ∃ l r, t = .pr l r := by
            cases t with
            | pr l r => exact ⟨l, r, rfl⟩
            | int i => cases c1
            | bl b => cases c1
            | non => cases c1
            | tup => cases ha
          obtain ⟨a, x, y, rfl, hpr, hl, hr'⟩ := hv
          refine ⟨_, rfl, a, _, rfl, .inr (SqT.of (del_le _ _ (sd2 _ _ hpr))), fun l1 m1 => ?_⟩
          refine ⟨(by show 2 ≤ sizeLine; decide), fun l2 m2 => ?_⟩
          have v1 := same_new (o := .lst [.int 25, .ref l1]) (same_new (o := .lst [x, y]) (same_refl H2) m1) m2
          exact ⟨th, l2, _, _, rfl, rfl, v1 _ _ hth, upd_same, (by rw [hlen]; show 14 + 2 ≤ sizeLine; decide), fun l3 m3 => fin l1 _ l2 l3 m1 m2 m3⟩
        · refine ⟨_, rfl, (by show 1 ≤ sizeLine; decide), fun l1 m1 => ?_⟩
          refine ⟨(by show 2 ≤ sizeLine; decide), fun l2 m2 => ?_⟩
          have v1 := same_new (o := .lst [.int 25, .ref l1]) (same_new (o := .lst [v]) (same_refl H2) m1) m2
          exact ⟨th, l2, _, _, rfl, rfl, v1 _ _ hth, upd_same, (by rw [hlen]; show 14 + 2 ≤ sizeLine; decide), fun l3 m3 => fin l1 _ l2 l3 m1 m2 m3⟩
theorem ok_bent {f fD fS : Addr} {fd fdD fdS : FuncData} (F : Fn K mg "_law_bent" sBent ["_law_hand_here", "_law_kind_here"] f fd) (ND : Fn K mg "_law_draw" sDraw ["_law_hand_here", "_law_many"] fD fdD)
    (NS : Fn K mg "_law_some" sSome ["_law_hand_here", "_law_things"] fS fdS) (T : TxB mg) (T2 : TxD mg) (L : LotT K mg CL aW) (LF : LotF K mg CL fL fM fdL fdM) : ∀ d, FnOk P w K mg base CX0 (d + 4) f fd ["_law_hand_here", "_law_kind_here"] (spBent K d)
  | 0 => by
    have G0 : FnOk P w K mg base CX0 3 f fd ["_law_hand_here", "_law_kind_here"] (fun _ _ _ _ => False) := F.F.ok scBe (fun _ _ _ _ h => h.elim) (fun _ _ _ _ _ _ _ _ _ h => h.elim)
    exact ok_bent1 F ND NS T T2 L LF 0 G0 (fun d' e => by omega)
  | d + 1 => ok_bent1 F ND NS T T2 L LF (d + 1) (ok_bent F ND NS T T2 L LF d) (fun d' e => by rw [show d = d' by omega])
end
end K06

set_option Elab.async false
set_option linter.all false
set_option maxRecDepth 100000
set_option maxHeartbeats 2000000
namespace K06
open PySem L2
abbrev sTold : Stmt := top 40
structure ToldT (K : PySem.W.Frag) (mg : Str → Option Value) (CN CE : Addr) : Prop where
  gE : mg "CountsError" = some (.ref CE)
  exm : PySem.W.exmOne K (.ref CN) (.ref CE) = some true
  k1 : PySem.W.kitOne K (.ref CN) (.ref CN) = some true
  k2 : PySem.W.kitOne K (.ref CN) (.type "ValueError") = some true
  vE : mg "ValueError" = none
def word (b : Bool) : Str := if b = true then "let" else "kind"
/-- what is told: let, or NoKind -/
def spTold (K : PySem.W.Frag) : Sp := fun vs H Q _ => ∃ b : Bool, ((∃ (i : Int) (u o : V) (t : Th), vs = [.int i, u, o] ∧ (i = 0 ∨ i = 1) ∧ ThAt K H t u ∧ t.size ≤ 10000 ∧ b = t.any) ∨
  (∃ (u o : V) (tl : Option (List (V × Th))) (te : Th), vs = [.int 2, u, o] ∧ LsAt K H u tl ∧ ThAt K H te o ∧ b = goodB tl te)) ∧ ∀ H', Same H H' → Q (.str (word b)) H'
section
variable {P : Program} {w : World} {K : PySem.W.Frag} {mg : Str → Option Value} {base : Heap} {CN CE fN : Addr} {fdN : FuncData}
theorem scTo : FnScope ["_law_which", "_law_one", "_law_other", "_law_word", "e"] ["_law_which", "_law_one", "_law_other"] (defScope sTold) := ⟨rfl, rfl, rfl, by decide +kernel, rfl, by decide +kernel, by decide +kernel⟩
theorem ok_told {f fLe fEn fBu : Addr} {fd fdLe fdEn fdBu : FuncData} (F : Fn K mg "_law_told" sTold ["_law_which", "_law_one", "_law_other"] f fd)
    (NLe : Fn K mg "lefts" sLefts ["kind"] fLe fdLe) (NEn : Fn K mg "end" sEnd ["kind"] fEn fdEn) (NBu : Fn K mg "built" sBuilt ["lefts", "end"] fBu fdBu)
    (GLe : FnOk P w K mg base (L2.CX P w) 5 fLe fdLe ["kind"] (spLefts K CN)) (GEn : FnOk P w K mg base (L2.CX P w) 5 fEn fdEn ["kind"] (spEnd K CN)) (GBu : FnOk P w K mg base (L2.CX P w) 5 fBu fdBu ["lefts", "end"] (spBuilt K CN))
    (T : TxB mg) (N : NkT K mg CN fN fdN) (TT : ToldT K mg CN CE) : FnOk P w K mg base CX0 6 f fd ["_law_which", "_law_one", "_law_other"] (spTold K) := by
  refine F.F.ok scTo (fun vs H Q E h => ?_) (fun cdv A outer s H vs Q E hr h => ?_)
  · obtain ⟨b, ⟨i, u, o, t, rfl, _⟩ | ⟨u, o, tl, te, rfl, _⟩, _⟩ := h <;> rfl
  · have nd := scTo.nd
    refine ⟨_, pss_cons (ps_set (i := 3) nd rfl (Or.inl rfl) pe_str)
      (pss_cons (ps_try_as (i := 4) (Wout := fun _ _ _ _ => False) rfl rfl nd rfl rfl ⟨rfl, by decide, Or.inl TT.gE⟩ takes0
        (fun W pn xe tk _ => pss_cons (ps_if (pt_cmpR op_eq (pv 0) pe_int (nomark _)) (pss_one (ps_expr (pe_callS GLe hr rfl NLe.m NLe.F.kp NLe.b (fun σ => passAt tk σ) (pa_cons (pv 1) pa_nil))))
            (pss_one (ps_if (pt_cmpR op_eq (pv 0) pe_int (nomark _)) (pss_one (ps_expr (pe_callS GEn hr rfl NEn.m NEn.F.kp NEn.b (fun σ => passAt tk σ) (pa_cons (pv 1) pa_nil))))
              (pss_one (ps_expr (pe_callS GBu hr rfl NBu.m NBu.F.kp NBu.b (fun σ => passAt tk σ) (pa_cons (pv 1) (pa_cons (pv 2) pa_nil))))))))
          (pss_one (ps_set (i := 3) nd rfl (Or.inl rfl) pe_str)))
        (fun a oe cls d pn hz hf => pss_one (ps_set (i := 3) nd rfl (Or.inl rfl) (pe_ifExp (PW.pt (pw_and (pt_val (pe_callB (call_isE0 hz hf) (by rfl) T.isinstance (by decide +kernel) (pa_cons (pv 4) (pa_cons (pe_glob (v := .ref CN) (by rfl) N.m rfl) pa_nil))))
          (pw_and1 (pt_val (pe_callB (call_isE0 hz hf) (by rfl) T.isinstance (by decide +kernel) (pa_cons (pv 4) (pa_cons (pe_bltn (v := .ty "ValueError") (by rfl) TT.vE (by decide +kernel) rfl) pa_nil))))))) pe_str pe_str))))
      (pss_one (ps_ret (pv 3)))), ?_⟩
    obtain ⟨b, hb, k⟩ := h
    rcases hb with ⟨i, u, o, t, rfl, hi, hv, hz, rfl⟩ | ⟨u, o, tl, te, rfl, hl, ho, rfl⟩
    · rcases hi with rfl | rfl
      · refine ⟨_, rfl, rfl, _, rfl, ?_⟩
        refine ifT (by decide) ?_
        refine ⟨_, rfl, u, t, rfl, hv, hz, fun ha xs e p H' sp s1 hp h' => ?_, fun ha H' s1 => ?_⟩
        · have q := k H' s1
          rw [ha] at q
          exact ⟨_, rfl, q⟩
        · have q := k H' s1
          rw [ha] at q
          refine ⟨true, TT.exm, fun _ a0 ha0 => ?_, fun z => nomatch z⟩
          refine ⟨_, rfl, CN, .ref CN, .ref CN, _, rfl, rfl, rfl, .own _, N.err, TT.k1, _, rfl, ?_⟩
          refine iteT ?_
          refine ⟨_, rfl, CN, .ty "ValueError", .type "ValueError", _, rfl, rfl, rfl, .ty _, N.err, TT.k2, _, rfl, ?_⟩
          refine iteT ?_
          exact ⟨_, rfl, q⟩
      · refine ⟨_, rfl, rfl, _, rfl, ?_⟩
        refine ifF (by decide) ?_
        refine ⟨_, rfl, rfl, _, rfl, ?_⟩
        refine ifT (by decide) ?_
        refine ⟨_, rfl, u, t, rfl, hv, hz, fun ha xs e H' sp s1 => ?_, fun ha H' s1 => ?_⟩
        · have q := k H' s1
          rw [ha] at q
          exact ⟨_, rfl, q⟩
        · have q := k H' s1
          rw [ha] at q
          refine ⟨true, TT.exm, fun _ a0 ha0 => ?_, fun z => nomatch z⟩
          refine ⟨_, rfl, CN, .ref CN, .ref CN, _, rfl, rfl, rfl, .own _, N.err, TT.k1, _, rfl, ?_⟩
          refine iteT ?_
          refine ⟨_, rfl, CN, .ty "ValueError", .type "ValueError", _, rfl, rfl, rfl, .ty _, N.err, TT.k2, _, rfl, ?_⟩
          refine iteT ?_
          exact ⟨_, rfl, q⟩
    · refine ⟨_, rfl, rfl, _, rfl, ?_⟩
      refine ifF (by decide) ?_
      refine ⟨_, rfl, rfl, _, rfl, ?_⟩
      refine ifF (by decide) ?_
      · refine ⟨_, rfl, _, rfl, u, o, tl, te, rfl, hl, ho, fun ha l e v' H' e1 e2 s1 n1 => ?_, fun ha H' s1 => ?_⟩
        · have q := k H' s1
          rw [ha] at q
          exact ⟨_, rfl, q⟩
        · have q := k H' s1
          rw [ha] at q
          refine ⟨true, TT.exm, fun _ a0 ha0 => ?_, fun z => nomatch z⟩
          refine ⟨_, rfl, CN, .ref CN, .ref CN, _, rfl, rfl, rfl, .own _, N.err, TT.k1, _, rfl, ?_⟩
          refine iteT ?_
          refine ⟨_, rfl, CN, .ty "ValueError", .type "ValueError", _, rfl, rfl, rfl, .ty _, N.err, TT.k2, _, rfl, ?_⟩
          refine iteT ?_
          exact ⟨_, rfl, q⟩
end
end K06

set_option Elab.async false
set_option linter.all false
set_option maxRecDepth 100000
set_option maxHeartbeats 4100000
namespace K06
open PySem L2
abbrev sLaw : Stmt := top 41
def spLaw (K : PySem.W.Frag) : Sp := fun vs H Q _ => ∃ (a : Addr) (ns : List Int), vs = [.ref a] ∧ SqL K H a (ns.map V.int) ∧ ns.length ≤ 63 ∧ ∀ H', Q (.bl true) H'
/-- a drawn kind beside the hand -/
structure KindIn (K : PySem.W.Frag) (H : Hp) (p c : Addr) (cells : List Int) (v : V) (t : Th) : Prop where
  hand : HandAt H p c cells
  kd : ThAt K (del H p) t v
  any : t.any = true
  dep : t.depth ≤ 4
  siz : t.size ≤ 31
theorem KindIn.same {K : PySem.W.Frag} {H H' : Hp} {p c : Addr} {cells : List Int} {v : V} {t : Th} (h : KindIn K H p c cells v t) (s : Same H H') : KindIn K H' p c cells v t :=
  ⟨h.hand.same s, h.kd.same (del_same_of s), h.any, h.dep, h.siz⟩
theorem KindIn.draw {K : PySem.W.Frag} {H H' : Hp} {p c : Addr} {cells : List Int} {v : V} {t : Th} (h : KindIn K H p c cells v t) (a : HandAt H' p c cells) (s : Same (del H p) (del H' p)) : KindIn K H' p c cells v t :=
  ⟨a, h.kd.same s, h.any, h.dep, h.siz⟩
theorem KindIn.at {K : PySem.W.Frag} {H : Hp} {p c : Addr} {cells : List Int} {v : V} {t : Th} (h : KindIn K H p c cells v t) : ThAt K H t v := h.kd.same del_le
theorem KindIn.is {K : PySem.W.Frag} {H : Hp} {p c : Addr} {cells : List Int} {v : V} {t : Th} (h : KindIn K H p c cells v t) : t.isKind = true := by
  rw [Th.small (by have := h.dep; omega) (by have := h.siz; omega)]; exact h.any
/-- its lefts and its end, as the law tells them -/
structure EndsIn (K : PySem.W.Frag) (H : Hp) (v : V) (p2 q : Addr) (xs : List V) (e : Int) : Prop where
  tup : H p2 = some (.tup [.ref q, .int e])
  lst : H q = some (.lst xs)
  nest : Nest H xs e v
  e0 : 0 ≤ e
  e25 : e ≤ 25
  len : xs.length ≤ 31
  all : ∀ x ∈ xs, ∃ tx, ThAt K H tx x ∧ tx.any = true ∧ tx.size ≤ 31
theorem EndsIn.same {K : PySem.W.Frag} {H H' : Hp} {v : V} {p2 q : Addr} {xs : List V} {e : Int} (h : EndsIn K H v p2 q xs e) (s : Same H H') : EndsIn K H' v p2 q xs e :=
  ⟨s _ _ h.tup, s _ _ h.lst, h.nest.same s, h.e0, h.e25, h.len, fun x hx => by
    obtain ⟨tx, a, b, c⟩ := h.all x hx
    exact ⟨tx, a.same s, b, c⟩⟩
theorem spine_all {K : PySem.W.Frag} {H : Hp} : ∀ {t : Th} {v : V} {xs : List V} {e : Int}, ThAt K H t v → t.any = true → Spine H t v xs e → xs.length < t.size ∧ 0 ≤ e ∧ e ≤ 25 ∧ ∀ x ∈ xs, ∃ tx, ThAt K H tx x ∧ tx.any = true ∧ tx.size ≤ t.size
  | .pr l r, v, xs, e, ⟨a, x, y, ev, ha, hl, hr⟩, h, ⟨a', x', y', ys, ev', ha', ex, s⟩ => by
    subst ev
    cases ev'
    rw [ha] at ha'
    cases ha'
    subst ex
    have h2 : (l.any && r.any) = true := h
    rw [Bool.and_eq_true] at h2
    obtain ⟨i1, i2, i3, i4⟩ := spine_all hr h2.2 s
    have e1 : (Th.pr l r).size = l.size + r.size + 1 := rfl
    refine ⟨by simp only [List.length_cons]; omega, i2, i3, fun u hu => ?_⟩
    obtain rfl | hu := List.mem_cons.mp hu
    · exact ⟨l, hl, h2.1, by omega⟩
    · obtain ⟨tx, a1, a2, a3⟩ := i4 u hu
      exact ⟨tx, a1, a2, by omega⟩
  | .int i, v, xs, e, _, h, ⟨ev, ex, ee⟩ => by
    subst ex
    subst ee
    have h2 : (decide (0 ≤ e) && decide (e ≤ 25)) = true := h
    rw [Bool.and_eq_true] at h2
    exact ⟨(by show 0 < 1; decide), of_decide_eq_true h2.1, of_decide_eq_true h2.2, fun u hu => by cases hu⟩
theorem nest_det {H : Hp} : ∀ {xs ys : List V} {e e' : Int} {v : V}, Nest H xs e v → Nest H ys e' v → xs = ys ∧ e = e'
  | [], [], e, e', v, h, h' => by
    have a : v = .int e := h
    have b : v = .int e' := h'
    rw [a] at b
    exact ⟨rfl, V.int.inj b⟩
  | x :: xs, [], e, e', v, ⟨a, y, ev, _⟩, h' => by
    have b : v = .int e' := h'
    rw [ev] at b
    cases b
  | [], x :: xs, e, e', v, h', ⟨a, y, ev, _⟩ => by
    have b : v = .int e := h'
    rw [ev] at b
    cases b
  | x :: xs, x' :: ys, e, e', v, ⟨a, y, ev, ha, n⟩, ⟨a', y', ev', ha', n'⟩ => by
    rw [ev] at ev'
    cases ev'
    rw [ha] at ha'
    cases ha'
    obtain ⟨h1, h2⟩ := nest_det n n'
    exact ⟨by rw [h1], h2⟩
theorem choose_all {R : Th → V → Prop} : ∀ {xs : List V}, (∀ x ∈ xs, ∃ t, R t x) → ∃ l : List (V × Th), l.map (·.1) = xs ∧ ∀ p ∈ l, R p.2 p.1
  | [], _ => ⟨[], rfl, fun p hp => by cases hp⟩
  | x :: xs, h => by
    obtain ⟨l, e, hl⟩ := choose_all (xs := xs) fun u hu => h u (List.mem_cons_of_mem _ hu)
    obtain ⟨t, ht⟩ := h x List.mem_cons_self
    refine ⟨(x, t) :: l, by rw [List.map_cons, e], fun p hp => ?_⟩
    obtain rfl | hp := List.mem_cons.mp hp
    · exact ht
    · exact hl p hp
section
variable {P : Program} {w : World} {K : PySem.W.Frag} {mg : Str → Option Value} {base : Heap} {CL aW fL fM CN CE fN : Addr} {fdL fdM fdN : FuncData}
theorem scLaw : FnScope ["_law_script", "_law_hand_here", "_law_turn", "_law_kind_here", "_law_told_here", "_law_thing", "_law_due", "_law_odd"] ["_law_script"] (defScope sLaw) := ⟨rfl, rfl, rfl, by decide +kernel, rfl, by decide +kernel, by decide +kernel⟩
theorem ok_law {f fH fD fSo fKd fEs fFl fIK fAn fLt f2 f1 fPr fLe fEn fBu fIs fGr fBe fDp fLk fTo : Addr} {fd fdH fdD fdSo fdKd fdEs fdFl fdIK fdAn fdLt fd2 fd1 fdPr fdLe fdEn fdBu fdIs fdGr fdBe fdDp fdLk fdTo : FuncData} (F : Fn K mg "law" sLaw ["_law_script"] f fd) (T : TxB mg) (T2 : TxD mg) (mR : mg "reversed" = none)
    (L : LotT K mg CL aW) (LF : LotF K mg CL fL fM fdL fdM) (N : NkT K mg CN fN fdN) (TT : ToldT K mg CN CE)
    (NH : Fn K mg "_law_hand" sHand ["_law_script"] fH fdH) (ND : Fn K mg "_law_draw" sDraw ["_law_hand_here", "_law_many"] fD fdD) (NSo : Fn K mg "_law_some" sSome ["_law_hand_here", "_law_things"] fSo fdSo)
    (NKd : Fn K mg "_law_kind" sKd ["_law_hand_here", "_law_deep_here"] fKd fdKd) (NEs : Fn K mg "_law_ends" sEnds ["_law_kind_here"] fEs fdEs) (NFl : Fn K mg "_law_flag" sFlag ["_law_told_here", "_law_due"] fFl fdFl)
    (NIK : Fn K mg "is_kind" sKind ["thing"] fIK fdIK) (NA : Fn K mg "is_kind_of_any_size" sAny ["thing"] fAn fdAn) (NL : Fn K mg "is_letter" sLetter ["thing"] fLt fdLt) (N2 : Fn K mg "is_integer_within" sWithin ["low", "high", "thing"] f2 fd2) (N1 : Fn K mg "is_integer" sInteger ["thing"] f1 fd1) (NP : Fn K mg "is_pair" sPair ["thing"] fPr fdPr)
    (NLe : Fn K mg "lefts" sLefts ["kind"] fLe fdLe) (NEn : Fn K mg "end" sEnd ["kind"] fEn fdEn) (NBu : Fn K mg "built" sBuilt ["lefts", "end"] fBu fdBu)
    (NIs : Fn K mg "_law_is" sIs ["_law_told_here", "_law_due"] fIs fdIs) (NGr : Fn K mg "_law_great" sGreat ["_law_hand_here"] fGr fdGr) (NBe : Fn K mg "_law_bent" sBent ["_law_hand_here", "_law_kind_here"] fBe fdBe) (NDp : Fn K mg "_law_deep" sDeep ["_law_kind_here"] fDp fdDp)
    (NLk : Fn K mg "_law_is_kind" sIsKind ["_law_thing"] fLk fdLk) (NTo : Fn K mg "_law_told" sTold ["_law_which", "_law_one", "_law_other"] fTo fdTo) :
    FnOk P w K mg base CX0 66 f fd ["_law_script"] (spLaw K) := by
  have GH : FnOk P w K mg base CX0 1 fH fdH ["_law_script"] (spHand K) := ok_hand NH.F T
  have GSo : FnOk P w K mg base CX0 2 fSo fdSo ["_law_hand_here", "_law_things"] (spSome K) := ok_some NSo.F T ND.F ND.b ND.m
  have GKd : FnOk P w K mg base CX0 6 fKd fdKd ["_law_hand_here", "_law_deep_here"] (spKd K 4) := ok_kd NKd ND T 4
  have GEs : FnOk P w K mg base CX0 1 fEs fdEs ["_law_kind_here"] (spEnds K) := ok_ends NEs T T2
  have GFl : FnOk P w K mg base CX0 1 fFl fdFl ["_law_told_here", "_law_due"] spFlag := ok_flag NFl T T2
  have GIK : FnOk P w K mg base CX0 4 fIK fdIK ["thing"] (spKind K) := ok_kind NIK NL N2 N1 NP T T2
  have GLe : FnOk P w K mg base (L2.CX P w) 5 fLe fdLe ["kind"] (spLefts K CN) := ok_lefts NLe NA NL N2 N1 NP T T2 N
  have GEn : FnOk P w K mg base (L2.CX P w) 5 fEn fdEn ["kind"] (spEnd K CN) := ok_end NEn NA NL N2 N1 NP T T2 N
  have GBu : FnOk P w K mg base (L2.CX P w) 5 fBu fdBu ["lefts", "end"] (spBuilt K CN) := ok_built NBu NA NL N2 N1 NP T T2 mR N
  have GIs : FnOk P w K mg base CX0 65 fIs fdIs ["_law_told_here", "_law_due"] (spQ K 64) := ok_is NIs T T2 64
  have GGr : FnOk P w K mg base CX0 2 fGr fdGr ["_law_hand_here"] (spGreat K) := ok_great NGr ND T
  have GBe : FnOk P w K mg base CX0 8 fBe fdBe ["_law_hand_here", "_law_kind_here"] (spBent K 4) := ok_bent NBe ND NSo T T2 L LF 4
  have GDp : FnOk P w K mg base CX0 1 fDp fdDp ["_law_kind_here"] spDeep := ok_deep NDp T
  have GLk : FnOk P w K mg base CX0 1 fLk fdLk ["_law_thing"] (spKind K) := ok_isKind NLk T T2
  have GTo : FnOk P w K mg base CX0 6 fTo fdTo ["_law_which", "_law_one", "_law_other"] (spTold K) := ok_told NTo NLe NEn NBu GLe GEn GBu T N TT
  refine F.F.ok scLaw (fun vs H Q E h => ?_) (fun cdv A outer s H vs Q E hr h => ?_)
  · obtain ⟨a, ns, rfl, _⟩ := h
    rfl
  · obtain ⟨a, ns, rfl, hS, hlen, k⟩ := h
    have nd := scLaw.nd
    have hu := hu_of hr
    have hr1 := hr.mono (show 1 ≤ 65 by decide)
    have hr2 := hr.mono (show 2 ≤ 65 by decide)
    have hr4 := hr.mono (show 4 ≤ 65 by decide)
    have hr5 := hr.mono (show 5 ≤ 65 by decide)
    have hr6 := hr.mono (show 6 ≤ 65 by decide)
    have hr8 := hr.mono (show 8 ≤ 65 by decide)
    refine ⟨_, pss_cons (ps_set (i := 1) nd rfl (Or.inl rfl) (pe_call GH hr1 (by rfl) NH.m NH.F.kp NH.b .nil pass0 (pa_cons (pv 0) pa_nil)))
      (pss_cons (ps_for PassesOwn.never rfl (pi_range1 (by rfl) T.range (pa_cons pe_int pa_nil)) (pg_name (i := 2) nd rfl (Or.inl rfl))
          (Evl.pss_cut (ps_set (i := 3) nd rfl (Or.inl rfl) (pe_call GKd hr6 (by rfl) NKd.m NKd.F.kp NKd.b .nil pass0 (pa_cons (pv 1) (pa_cons pe_int pa_nil))))
            (Evl.pss_cut (ps_set (i := 4) nd rfl (Or.inl rfl) (pe_call GEs hr1 (by rfl) NEs.m NEs.F.kp NEs.b .nil pass0 (pa_cons (pv 3) pa_nil)))
            (Evl.pss_cut (ps_if (PW.pt (pw_or (pt_not (pt_val (pe_call GFl hr1 (by rfl) NFl.m NFl.F.kp NFl.b .nil pass0 (pa_cons (pe_call GIK hr4 (by rfl) NIK.m NIK.F.kp NIK.b .nil pass0 (pa_cons (pv 3) pa_nil)) (pa_cons pe_bl pa_nil))))) (pw_or1 (pt_not (pt_val (pe_call GIs hr (by rfl) NIs.m NIs.F.kp NIs.b .nil pass0 (pa_cons (pe_call GLe hr5 (by rfl) NLe.m NLe.F.kp NLe.b .nil passL (pa_cons (pv 3) pa_nil)) (pa_cons (pe_callTy call_tuple_of (by rfl) T2.tuple (by decide +kernel) (pa_cons (pe_ix ix_tup (pv 4) pe_int (fun _ _ => rfl)) pa_nil)) pa_nil)))))))) (pss_one (ps_ret pe_bl)) pss_nil)
            (Evl.pss_cut (ps_if (PW.pt (pw_or (pt_not (pt_val (pe_call GIs hr (by rfl) NIs.m NIs.F.kp NIs.b .nil pass0 (pa_cons (pe_call GEn hr5 (by rfl) NEn.m NEn.F.kp NEn.b .nil passL (pa_cons (pv 3) pa_nil)) (pa_cons (pe_ix ix_tup (pv 4) pe_int (fun _ _ => rfl)) pa_nil))))) (pw_or1 (pt_not (pt_val (pe_call GIs hr (by rfl) NIs.m NIs.F.kp NIs.b .nil pass0 (pa_cons (pe_call GBu hr5 (by rfl) NBu.m NBu.F.kp NBu.b .nil passL (pa_cons (pe_call GLe hr5 (by rfl) NLe.m NLe.F.kp NLe.b .nil passL (pa_cons (pv 3) pa_nil)) (pa_cons (pe_call GEn hr5 (by rfl) NEn.m NEn.F.kp NEn.b .nil passL (pa_cons (pv 3) pa_nil)) pa_nil))) (pa_cons (pv 3) pa_nil)))))))) (pss_one (ps_ret pe_bl)) pss_nil)
            (Evl.pss_cut (ps_for PassesOwn.never rfl (pi_list (pe_lst (pa_cons (pe_call GGr hr2 (by rfl) NGr.m NGr.F.kp NGr.b .nil pass0 (pa_cons (pv 1) pa_nil)) (pa_cons (pe_call GBe hr8 (by rfl) NBe.m NBe.F.kp NBe.b .nil pass0 (pa_cons (pv 1) (pa_cons (pv 3) pa_nil))) (pa_cons (pe_call GBe hr8 (by rfl) NBe.m NBe.F.kp NBe.b .nil pass0 (pa_cons (pv 1) (pa_cons (pv 3) pa_nil))) (pa_cons (pe_call GDp hr1 (by rfl) NDp.m NDp.F.kp NDp.b .nil pass0 (pa_cons pe_int pa_nil)) (pa_cons (pe_call GDp hr1 (by rfl) NDp.m NDp.F.kp NDp.b .nil pass0 (pa_cons pe_int pa_nil)) pa_nil))))))) (pg_name (i := 5) nd rfl (Or.inl rfl)) (pss_one (ps_if (pt_not (pt_val (pe_call GFl hr1 (by rfl) NFl.m NFl.F.kp NFl.b .nil pass0 (pa_cons (pe_call GIK hr4 (by rfl) NIK.m NIK.F.kp NIK.b .nil pass0 (pa_cons (pv 5) pa_nil)) (pa_cons (pe_call GLk hr1 (by rfl) NLk.m NLk.F.kp NLk.b .nil pass0 (pa_cons (pv 5) pa_nil)) pa_nil))))) (pss_one (ps_ret pe_bl)) pss_nil)))
            (Evl.pss_cut (ps_set (i := 5) nd rfl (Or.inl rfl) (pe_call GBe hr8 (by rfl) NBe.m NBe.F.kp NBe.b .nil pass0 (pa_cons (pv 1) (pa_cons (pv 3) pa_nil))))
            (Evl.pss_cut (ps_set (i := 6) nd rfl (Or.inl rfl) (pe_ix ix_list (pe_lst (pa_cons pe_str (pa_cons pe_str pa_nil))) (pe_callTy call_int1 (by rfl) T.int (by decide +kernel) (pa_cons (pe_call GLk hr1 (by rfl) NLk.m NLk.F.kp NLk.b .nil pass0 (pa_cons (pv 5) pa_nil)) pa_nil)) (fun _ _ => rfl)))
            (Evl.pss_cut (ps_if (pt_cmpR (op_neD hr.units) (pe_lst (pa_cons (pe_call GTo hr6 (by rfl) NTo.m NTo.F.kp NTo.b .nil pass0 (pa_cons pe_int (pa_cons (pv 5) (pa_cons pe_non pa_nil)))) (pa_cons (pe_call GTo hr6 (by rfl) NTo.m NTo.F.kp NTo.b .nil pass0 (pa_cons pe_int (pa_cons (pv 5) (pa_cons pe_non pa_nil)))) (pa_cons (pe_call GTo hr6 (by rfl) NTo.m NTo.F.kp NTo.b .nil pass0 (pa_cons pe_int (pa_cons (pe_tup (pa_cons (pv 3) (pa_cons (pv 5) pa_nil))) (pa_cons pe_int pa_nil)))) pa_nil)))) (pe_op op_rep (pe_lst (pa_cons (pv 6) pa_nil)) pe_int) (nomark _)) (pss_one (ps_ret pe_bl)) pss_nil)
            (Evl.pss_cut (ps_set (i := 7) nd rfl (Or.inl rfl) (pe_call GSo hr2 (by rfl) NSo.m NSo.F.kp NSo.b .nil pass0 (pa_cons (pv 1) (pa_cons (pe_lst (pa_cons pe_int (pa_cons (pe_un un_neg pe_int) (pa_cons pe_bl (pa_cons pe_non (pa_cons pe_str (pa_cons (pe_tup (pa_cons pe_int (pa_cons pe_int pa_nil))) (pa_cons (pe_lst (pa_cons pe_int pa_nil)) (pa_cons (pe_call GDp hr1 (by rfl) NDp.m NDp.F.kp NDp.b .nil pass0 (pa_cons pe_int pa_nil)) pa_nil))))))))) pa_nil))))
            (Evl.pss_cut (ps_if (PW.pt (pw_or (pt_cmpR op_ne (pe_call GTo hr6 (by rfl) NTo.m NTo.F.kp NTo.b .nil pass0 (pa_cons pe_int (pa_cons (pe_tup (pa_cons (pv 3) pa_nil)) (pa_cons (pv 7) pa_nil)))) pe_str (nomark _)) (pw_or1 (pt_cmpR op_ne (pe_call GTo hr6 (by rfl) NTo.m NTo.F.kp NTo.b .nil pass0 (pa_cons pe_int (pa_cons (pe_call GSo hr2 (by rfl) NSo.m NSo.F.kp NSo.b .nil pass0 (pa_cons (pv 1) (pa_cons (pe_lst (pa_cons (pe_lst (pa_cons (pv 3) pa_nil)) (pa_cons pe_non (pa_cons pe_int (pa_cons pe_dnewK pa_nil))))) pa_nil))) (pa_cons pe_int pa_nil)))) pe_str (nomark _))))) (pss_one (ps_ret pe_bl)) pss_nil)
            (pss_one (ps_if (PW.pt (pw_or (pt_cmpR op_ne (pe_call GTo hr6 (by rfl) NTo.m NTo.F.kp NTo.b .nil pass0 (pa_cons pe_int (pa_cons (pe_tup pa_nil) (pa_cons pe_int pa_nil)))) pe_str (nomark _)) (pw_or1 (pt_cmpR op_ne (pe_call GTo hr6 (by rfl) NTo.m NTo.F.kp NTo.b .nil pass0 (pa_cons pe_int (pa_cons (pe_tup (pa_cons (pv 3) pa_nil)) (pa_cons pe_int pa_nil)))) pe_str (nomark _))))) (pss_one (ps_ret pe_bl)) pss_nil)))))))))))))
      (pss_one (ps_ret pe_bl))), ?_⟩
    refine ⟨_, rfl, a, ns, rfl, hS, by omega, fun p c cells H1 s1 hp0 hA => ?_⟩
    refine ⟨4, rfl, by decide, by decide, for_range (lo := 0) (n := 4) (fun i σ H' => ∃ (o2 o3 o4 o5 o6 o7 : Option V), σ = [some (.ref a), some (.ref p), o2, o3, o4, o5, o6, o7] ∧ HandAt H' p c cells) ⟨none, none, none, none, none, none, rfl, hA⟩ ?_ ?_⟩
    · clear hS hA s1 hp0
      rintro i σ H1 hi ⟨o2, o3, o4, o5, o6, o7, rfl, hA⟩
      -- the kind
      refine ⟨fun σ' H' => ∃ (v : V) (t : Th) (o2 o4 o5 o6 o7 : Option V), σ' = [some (.ref a), some (.ref p), o2, some v, o4, o5, o6, o7] ∧ KindIn K H' p c cells v t, ?_, ?_⟩
      · refine ⟨_, rfl, p, c, cells, rfl, hA, fun t v H2 hA2 sd hv g => ?_⟩
        exact ⟨v, t, _, _, _, _, _, rfl, hA2, hv, g.1, g.2.1, by have := g.2.2; omega⟩
      clear hA o2 o3 o4 o5 o6 o7 H1
      rintro _ H1 ⟨v, t, o2, o4, o5, o6, o7, rfl, hK⟩
      -- its lefts, its end
      refine ⟨fun σ' H' => ∃ (p2 q : Addr) (xs : List V) (e : Int), σ' = [some (.ref a), some (.ref p), o2, some v, some (.ref p2), o5, o6, o7] ∧ KindIn K H' p c cells v t ∧ EndsIn K H' v p2 q xs e, ?_, ?_⟩
      · refine ⟨_, rfl, v, t, rfl, hK.at, (by have := hK.siz; omega), hK.any, fun xs e p2 q H2 sp s2 hp2 hq2 h1 h2 => ?_⟩
        obtain ⟨i1, i2, i3, i4⟩ := spine_all hK.at hK.any sp
        have hz := hK.siz
        exact ⟨p2, q, xs, e, rfl, hK.same s2, h1, h2, sp.nest.same s2, i2, i3, by omega, fun x hx => by
          obtain ⟨tx, b1, b2, b3⟩ := i4 x hx
          exact ⟨tx, b1.same s2, b2, by omega⟩⟩
      clear hK o4 H1
      rintro _ H1 ⟨p2, q, xs, e, rfl, hK, hE⟩
      have t1 := hK.siz
      have hz : t.size ≤ 10000 := by omega
      have bad : ∀ {A : Prop}, t.any = false → A := fun z => by rw [hK.any] at z; cases z
      have selfs : ∀ H' : Hp, Same H1 H' → ∀ x ∈ xs, TrQ H' 31 x x := fun H' s x hx => by
        obtain ⟨tx, b1, b2, b3⟩ := hE.all x hx
        exact (kind_self (b1.same s) b2).le b3
      have hlx := hE.len
      -- lefts
      refine ⟨fun σ' H' => σ' = [some (.ref a), some (.ref p), o2, some v, some (.ref p2), o5, o6, o7] ∧ Same H1 H', ?_, ?_⟩
      · refine ⟨_, rfl, v, t, rfl, hK.at, hz, fun H2 s2 => ?_⟩
        rw [hK.is]
        refine ⟨true, rfl, _, rfl, ?_⟩
        refine ifF rfl ?_
        refine ⟨_, rfl, v, t, rfl, (hK.same s2).at, hz, fun _ xs' e' pL H3 sp' s3 hpn hp3 => ?_, fun z => bad z⟩
        obtain ⟨rfl, rfl⟩ := nest_det (hE.nest.same s2) sp'.nest
        have s13 := same_trans s2 s3
        have hE3 := hE.same s13
        refine ⟨_, rfl, p2, _, _, .ref q, rfl, rfl, SqT.of hE3.tup, rfl, ?_⟩
        refine ⟨q, xs, rfl, .inl ⟨SqL.of hE3.lst, fun pT hT => ?_⟩⟩
        have s4 := same_new (o := .tup xs) (same_refl H3) hT
        refine ⟨_, _, rfl, .inr ⟨pL, pT, xs, xs, rfl, rfl, .inr ⟨s4 _ _ hp3, upd_same⟩, rfl, by omega, fun i x' x e1 e2 => ?_⟩, fun H5 s5 => ?_⟩
        · rw [e1] at e2
          cases e2
          exact (selfs _ (same_trans s13 s4) x' (List.mem_of_getElem? e1)).le (by decide)
        refine ⟨_, rfl, ?_⟩
        refine ifF rfl ?_
        exact ⟨rfl, same_trans s13 (same_trans s4 s5)⟩
      rintro _ H2 ⟨rfl, s12⟩
      -- end, built
      refine ⟨fun σ' H' => σ' = [some (.ref a), some (.ref p), o2, some v, some (.ref p2), o5, o6, o7] ∧ Same H1 H', ?_, ?_⟩
      · refine ⟨_, rfl, v, t, rfl, (hK.same s12).at, hz, fun _ xs' e' H3 sp' s3 => ?_, fun z => bad z⟩
        obtain ⟨rfl, rfl⟩ := nest_det (hE.nest.same s12) sp'.nest
        clear sp'
        have s13 := same_trans s12 s3
        have hE3 := hE.same s13
        refine ⟨_, rfl, p2, _, _, .int e, rfl, rfl, SqT.of hE3.tup, rfl, ?_⟩
        refine ⟨_, _, rfl, .inl ⟨rfl, rfl⟩, fun H4 s4 => ?_⟩
        refine ⟨_, rfl, ?_⟩
        refine ifF rfl ?_
        have s14 := same_trans s13 s4
        refine ⟨_, rfl, v, t, rfl, (hK.same s14).at, hz, fun _ xs' e' pL H5 sp' s5 hpn hp5 => ?_, fun z => bad z⟩
        obtain ⟨rfl, rfl⟩ := nest_det (hE.nest.same s14) sp'.nest
        clear sp'
        have s15 := same_trans s14 s5
        refine ⟨_, rfl, v, t, rfl, (hK.same s15).at, hz, fun _ xs' e' H6 sp' s6 => ?_, fun z => bad z⟩
        obtain ⟨rfl, rfl⟩ := nest_det (hE.nest.same s15) sp'.nest
        clear sp'
        have s16 := same_trans s15 s6
        have hE6 := hE.same s16
        obtain ⟨l, el, hl⟩ := choose_all hE6.all
        have ll : l.length = xs.length := by rw [← el, List.length_map]
        have gd : goodB (some l) (.int e) = true := by
          show ((decide (0 ≤ e) && decide (e ≤ 25)) && l.all (·.2.any)) = true
          rw [decide_eq_true hE.e0, decide_eq_true hE.e25, Bool.and_self, Bool.true_and, List.all_eq_true]
          exact fun u hu => (hl u hu).2.1
        refine ⟨_, _, some l, .int e, rfl, ⟨pL, rfl, by rw [el]; exact s6 _ _ hp5, by omega, fun u hu => ⟨(hl u hu).1, by have := (hl u hu).2.2; omega⟩⟩, rfl, fun _ l' e' v' H7 el' ee' s7 n7 => ?_, fun z => by rw [gd] at z; cases z⟩
        cases el'
        cases ee'
        rw [el] at n7
        have s17 := same_trans s16 s7
        refine ⟨_, rfl, v', v, rfl, (nest_same n7 (hE.nest.same s17) (selfs H7 s17)).le (by omega), fun H8 s8 => ?_⟩
        refine ⟨_, rfl, ?_⟩
        refine ifF rfl ?_
        exact ⟨rfl, same_trans s17 s8⟩
      clear s12 H2
      rintro _ H2 ⟨rfl, s12⟩
      replace hK := hK.same s12
      clear hE selfs s12 H1
      -- the five things
      refine ⟨fun σ' H' => ∃ (o5 : Option V), σ' = [some (.ref a), some (.ref p), o2, some v, some (.ref p2), o5, o6, o7] ∧ KindIn K H' p c cells v t, ?_, ?_⟩
      · refine ⟨_, rfl, p, c, cells, rfl, hK.hand, fun tg vg H3 hA3 sd3 h3 g3 => ?_⟩
        have hK3 := hK.draw hA3 sd3
        refine ⟨_, rfl, _, rfl, p, c, cells, v, t, rfl, hK3.hand, hK3.kd, hK3.any, hK3.dep, fun tb vb H4 hA4 sd4 h4 g4 => ?_⟩
        have hK4 := hK3.draw hA4 sd4
        refine ⟨_, rfl, _, rfl, p, c, cells, v, t, rfl, hK4.hand, hK4.kd, hK4.any, hK4.dep, fun tc vc H5 hA5 sd5 h5 g5 => ?_⟩
        have hK5 := hK4.draw hA5 sd5
        refine ⟨1, rfl, fun a1 x1 H6 s6 n6 _ e6 => ?_⟩
        refine ⟨0, rfl, fun a0 x0 H7 s7 n7 e7 _ => ?_⟩
        replace e6 := s7 _ _ (e6 (by decide))
        replace e7 := e7 rfl
        refine ⟨(by show 5 ≤ sizeLine; decide), fun lq hlq => ?_⟩
        have s8 := same_new (o := .lst [vg, vb, vc, .ref a1, .ref a0]) (same_refl H7) hlq
        have e8 : upd H7 lq (.lst [vg, vb, vc, .ref a1, .ref a0]) lq = some (.lst [vg, vb, vc, .ref a1, .ref a0]) := upd_same
        generalize upd H7 lq (.lst [vg, vb, vc, .ref a1, .ref a0]) = H8 at *
        have s68 := same_trans s7 s8
        have s58 := same_trans s6 s68
        have hK8 := hK5.same s58
        have all : ∀ x ∈ [vg, vb, vc, V.ref a1, V.ref a0], ∃ tx : Th, ThAt K H8 tx x ∧ tx.size ≤ 10000 := by
          intro x hx
          simp only [List.not_mem_nil, List.mem_cons, or_false] at hx
          rcases hx with rfl | rfl | rfl | rfl | rfl
          · exact ⟨tg, (((h3.same sd4).same sd5).same (del_same_of s58)).same del_le, by have : tg.size ≤ 200 := g3; omega⟩
          · exact ⟨tb, ((h4.same sd5).same (del_same_of s58)).same del_le, by have := g4.2; omega⟩
          · exact ⟨tc, (h5.same (del_same_of s58)).same del_le, by have := g5.2; omega⟩
          · exact ⟨.tup, ⟨a1, _, rfl, s8 _ _ e6, by simp⟩, by decide⟩
          · exact ⟨.non, (by
              obtain ⟨tx, q1, q2, q3⟩ := one_lst (K := K) (s8 _ _ e7)
              cases tx with
              | non => exact q3
              | int i => cases q3
              | bl b => cases q3
              | tup =>
                obtain ⟨a', xs', r1, r2, _⟩ := q3
                cases r1
                rw [s8 _ _ e7] at r2
                cases r2
              | pr l r => simp [Th.depth] at q1), by decide⟩
        refine ⟨lq, rfl, ⟨_, SqL.of e8⟩, for_list (K := K) (a := lq) (xs := [vg, vb, vc, .ref a1, .ref a0]) (fun i σ H' => ∃ o5 : Option V, σ = [some (.ref a), some (.ref p), o2, some v, some (.ref p2), o5, o6, o7] ∧ Same H8 H') ⟨o5, rfl, same_refl H8⟩ (fun i σ H' _ z => by
            obtain ⟨_, _, s⟩ := z
            exact SqL.of (s _ _ e8)) ?_ ?_⟩
        · rintro i x σ H' hx ⟨o5, rfl, s⟩
          obtain ⟨tx, ht, hzx⟩ := all x (List.mem_of_getElem? hx)
          refine ⟨_, rfl, x, tx, rfl, ht.same s, hzx, fun H9 s9 => ?_⟩
          have s89 := same_trans s s9
          refine ⟨_, rfl, x, tx, rfl, ht.same s89, hzx, fun H10 s10 => ?_⟩
          refine ⟨_, rfl, _, rfl, ?_⟩
          refine ifF rfl ?_
          exact ⟨_, rfl, same_trans s89 s10⟩
        · rintro σ H' ⟨o5, rfl, s⟩
          exact ⟨o5, rfl, hK8.same s⟩
      clear hK o5 H2
      rintro _ H2 ⟨o5, rfl, hK⟩
      -- a bent one, what is due
      refine ⟨fun σ' H' => ∃ (u : V) (tu : Th), σ' = [some (.ref a), some (.ref p), o2, some v, some (.ref p2), some u, o6, o7] ∧ KindIn K H' p c cells v t ∧ ThAt K (del H' p) tu u ∧ tu.depth ≤ 4 ∧ tu.size ≤ 31, ?_, ?_⟩
      · refine ⟨_, rfl, _, rfl, p, c, cells, v, t, rfl, hK.hand, hK.kd, hK.any, hK.dep, fun tb vb H4 hA4 sd4 h4 g4 => ?_⟩
        have d1 := hK.dep
        have d2 := hK.siz
        exact ⟨vb, tb, rfl, hK.draw hA4 sd4, h4, by have := g4.1; omega, by have := g4.2; omega⟩
      clear hK o5 H2
      rintro _ H2 ⟨u, tu, rfl, hK, hu, ud, uz⟩
      have eu : tu.isKind = tu.any := Th.small (by omega) (by omega)
      refine ⟨fun σ' H' => σ' = [some (.ref a), some (.ref p), o2, some v, some (.ref p2), some u, some (.str (word tu.any)), o7] ∧ Same H2 H', ?_, ?_⟩
      · refine ⟨(by show 2 ≤ sizeLine; decide), fun lq hlq => ?_⟩
        have s1 := same_new (o := .lst [.str "kind", .str "let"]) (same_refl H2) hlq
        refine ⟨_, rfl, u, tu, rfl, (hu.same (del_same_of s1)).same del_le, by omega, fun H4 s4 => ?_⟩
        refine .inr ⟨_, rfl, ?_⟩
        refine ⟨lq, [.str "kind", .str "let"], _, .str (word tu.any), rfl, rfl, SqL.of (s4 _ _ upd_same), (by rw [eu]; cases tu.any <;> rfl), ?_⟩
        exact ⟨rfl, same_trans s1 s4⟩
      rintro _ H3 ⟨rfl, s3⟩
      replace hK := hK.same s3
      replace hu := hu.same (del_same_of (p := p) s3)
      clear s3 H2
      -- told of it
      refine ⟨fun σ' H' => σ' = [some (.ref a), some (.ref p), o2, some v, some (.ref p2), some u, some (.str (word tu.any)), o7] ∧ Same H3 H', ?_, ?_⟩
      · refine ⟨_, rfl, tu.any, .inl ⟨0, u, .non, tu, rfl, .inl rfl, hu.same del_le, by omega, rfl⟩, fun H4 s4 => ?_⟩
        refine ⟨_, rfl, tu.any, .inl ⟨1, u, .non, tu, rfl, .inr rfl, (hu.same (del_same_of s4)).same del_le, by omega, rfl⟩, fun H5 s5 => ?_⟩
        have s35 := same_trans s4 s5
        refine ⟨_, rfl, _, rfl, (by show 2 ≤ sizeLine; decide), fun tp htp => ?_⟩
        have s6 := same_new (o := .tup [v, u]) s35 htp
        have dz := hK.siz
        refine ⟨tu.any, .inr ⟨.ref tp, .int 0, some [(v, t), (u, tu)], .int 0, rfl, ⟨tp, rfl, upd_same, (by show 2 ≤ 1000; decide), fun x hx => ?_⟩, rfl, ?_⟩, fun H7 s7 => ?_⟩
        · simp only [List.not_mem_nil, List.mem_cons, or_false] at hx
          rcases hx with rfl | rfl
          · exact ⟨(hK.same s6).at, by show t.size ≤ 10000; omega⟩
          · exact ⟨(hu.same (del_same_of s6)).same del_le, by show tu.size ≤ 10000; omega⟩
        · simp [goodB, Th.letter, hK.any]
        have s37 := same_trans s6 s7
        refine ⟨(by show 3 ≤ sizeLine; decide), fun l1 h1 => ?_⟩
        have s8 := same_new (o := .lst [.str (word tu.any), .str (word tu.any), .str (word tu.any)]) s37 h1
        refine ⟨_, rfl, (by show 1 ≤ sizeLine; decide), fun l2 h2 => ?_⟩
        have s9 := same_new (o := .lst [.str (word tu.any)]) s8 h2
        refine ⟨l2, 3, _, rfl, rfl, upd_same, by decide, by decide, (by show 3 ≤ sizeLine; decide), fun l3 h3 => ?_⟩
        have s10 := same_new (o := .lst (List.replicate (3 : Int).toNat [V.str (word tu.any)]).flatten) s9 h3
        have f1 := same_new (o := .lst (List.replicate (3 : Int).toNat [V.str (word tu.any)]).flatten) (same_new (o := .lst [.str (word tu.any)]) (same_refl _) h2) h3 _ _ (upd_same (a := l1))
        have dp : ∀ H' : Hp, DpAll K H' [.str (word tu.any), .str (word tu.any), .str (word tu.any)] [.str (word tu.any), .str (word tu.any), .str (word tu.any)] := fun H' => .cons (.str _) (.cons (.str _) (.cons (.str _) .nil))
        refine ⟨.list [.str (word tu.any), .str (word tu.any), .str (word tu.any)], .list [.str (word tu.any), .str (word tu.any), .str (word tu.any)], .lst (SqL.of f1) (dp _), .lst (SqL.of upd_same) (dp _), (by cases tu.any <;> decide +kernel), (by cases tu.any <;> decide +kernel), _, rfl, ?_⟩
        refine ifF (by cases tu.any <;> decide +kernel) ?_
        exact ⟨rfl, s10⟩
      rintro _ H2 ⟨rfl, s2⟩
      replace hK := hK.same s2
      clear s2 hu ud uz H3
      -- an odd one
      refine ⟨fun σ' H' => ∃ (x : V) (tx : Th), σ' = [some (.ref a), some (.ref p), o2, some v, some (.ref p2), some u, some (.str (word tu.any)), some x] ∧ KindIn K H' p c cells v t ∧ ThAt K H' tx x ∧ tx.letter = false, ?_, ?_⟩
      · refine ⟨_, rfl, _, rfl, (by show 2 ≤ sizeLine; decide), fun tq htq => ?_⟩
        have s3 := same_new (o := .tup [.int 0, .int 0]) (same_refl H2) htq
        have e3 : upd H2 tq (.tup [.int 0, .int 0]) tq = some (.tup [.int 0, .int 0]) := upd_same
        generalize upd H2 tq (.tup [.int 0, .int 0]) = H3 at *
        refine ⟨(by show 1 ≤ sizeLine; decide), fun l1 hl1 => ?_⟩
        have s4 := same_new (o := .lst [.int 0]) (same_refl H3) hl1
        have e4 : upd H3 l1 (.lst [.int 0]) l1 = some (.lst [.int 0]) := upd_same
        generalize upd H3 l1 (.lst [.int 0]) = H4 at *
        refine ⟨1, rfl, fun a1 x1 H5 s5 n5 _ e5 => ?_⟩
        replace e5 := e5 (by decide)
        refine ⟨(by show 8 ≤ sizeLine; decide), fun lq hlq => ?_⟩
        have s6 := same_new (o := .lst [.int 26, .int (-1), .bl true, .non, .str "a", .ref tq, .ref l1, .ref a1]) (same_refl H5) hlq
        have e6 : upd H5 lq (.lst [.int 26, .int (-1), .bl true, .non, .str "a", .ref tq, .ref l1, .ref a1]) lq = some (.lst [.int 26, .int (-1), .bl true, .non, .str "a", .ref tq, .ref l1, .ref a1]) := upd_same
        have s25 := same_trans s3 (same_trans s4 s5)
        have nq := (hK.same s25).hand.fresh hlq
        generalize upd H5 lq (.lst [.int 26, .int (-1), .bl true, .non, .str "a", .ref tq, .ref l1, .ref a1]) = H6 at *
        have hK6 := hK.same (same_trans s25 s6)
        refine ⟨p, c, lq, cells, _, rfl, hK6.hand, SqL.of e6, nq, (by show 0 < 8; decide), (by show 8 < 1000; decide), fun i x H7 hx hA7 o7 => ?_⟩
        have sd7 : Same (del H6 p) (del H7 p) := del_off o7
        have hK7 := hK6.draw hA7 sd7
        have np : ∀ {b : Addr} {o : HO}, H6 b = some o → b ≠ p → H7 b = some o := fun e nb => (o7 _ nb).trans e
        have hA6 := hK6.hand
        obtain ⟨l6, hl6⟩ := hA6.some
        have n1 : tq ≠ p := hK.hand.fresh htq
        have n2 : l1 ≠ p := (hK.same s3).hand.fresh hl1
        have n3 : a1 ≠ p := fun z => by
          have := s6 _ _ e5
          rw [z, hl6] at this
          cases this
        have hm := List.mem_of_getElem? hx
        simp only [List.not_mem_nil, List.mem_cons, or_false] at hm
        have odd : ∃ tx : Th, ThAt K H7 tx x ∧ tx.letter = false := by
          rcases hm with rfl | rfl | rfl | rfl | rfl | rfl | rfl | rfl
          · exact ⟨.int 26, rfl, by decide⟩
          · exact ⟨.int (-1), rfl, by decide⟩
          · exact ⟨.bl true, rfl, rfl⟩
          · obtain ⟨tx, q1, q2, q3⟩ := one_none (K := K) (H := H7)
            exact ⟨.non, ⟨_, .base .non, kit_ty (r := false) (by decide +kernel), kit_ty (r := false) (by decide +kernel)⟩, rfl⟩
          · exact ⟨.non, ⟨_, .base (.str _), kit_ty (r := false) (by decide +kernel), kit_ty (r := false) (by decide +kernel)⟩, rfl⟩
          · exact ⟨.pr (.int 0) (.int 0), ⟨tq, _, _, rfl, np (s6 _ _ (s5 _ _ (s4 _ _ e3))) n1, rfl, rfl⟩, rfl⟩
          · exact ⟨.non, ⟨_, .base (.lst (np (s6 _ _ (s5 _ _ e4)) n2)), kit_ty (r := false) (by decide +kernel), kit_ty (r := false) (by decide +kernel)⟩, rfl⟩
          · exact ⟨.tup, ⟨a1, _, rfl, np (s6 _ _ e5) n3, by simp⟩, rfl⟩
        obtain ⟨tx, ht, hl⟩ := odd
        exact ⟨x, tx, rfl, hK7, ht, hl⟩
      clear hK o7 H2
      rintro _ H2 ⟨x, tx, rfl, hK, hx, hl⟩
      have dz := hK.siz
      -- what is none
      refine ⟨fun σ' H' => σ' = [some (.ref a), some (.ref p), o2, some v, some (.ref p2), some u, some (.str (word tu.any)), some x] ∧ KindIn K H' p c cells v t, ?_, ?_⟩
      · refine ⟨_, rfl, (by show 1 ≤ sizeLine; decide), fun t1 ht1 => ?_⟩
        have s3 := same_new (o := .tup [v]) (same_refl H2) ht1
        refine ⟨_, rfl, false, .inr ⟨.ref t1, x, some [(v, t)], tx, rfl, ⟨t1, rfl, upd_same, (by show 1 ≤ 1000; decide), fun y hy => ?_⟩, hx.same s3, ?_⟩, fun H4 s4 => ?_⟩
        · rw [List.mem_singleton] at hy
          subst hy
          exact ⟨(hK.same s3).at, by show t.size ≤ 10000; omega⟩
        · simp [goodB, hl]
        have s24 := same_trans s3 s4
        refine ⟨rfl, _, rfl, ?_⟩
        refine ifF (by decide +kernel) ?_
        refine ⟨_, rfl, _, rfl, (by show 1 ≤ sizeLine; decide), fun l1 hl1 => ?_⟩
        have s5 := same_new (o := .lst [v]) s24 hl1
        have e5 : upd H4 l1 (.lst [v]) l1 = some (.lst [v]) := upd_same
        have m1 := (hK.same s24).hand.fresh hl1
        generalize upd H4 l1 (.lst [v]) = H5 at *
        intro d5 hd5
        have s6 := same_new (o := .dK []) (same_refl H5) hd5
        have e6 : upd H5 d5 (.dK []) d5 = some (.dK []) := upd_same
        have m2 := (hK.same s5).hand.fresh hd5
        generalize upd H5 d5 (.dK []) = H6 at *
        refine ⟨(by show 4 ≤ sizeLine; decide), fun lq hlq => ?_⟩
        have s7 := same_new (o := .lst [.ref l1, .non, .int 0, .ref d5]) (same_refl H6) hlq
        have e7 : upd H6 lq (.lst [.ref l1, .non, .int 0, .ref d5]) lq = some (.lst [.ref l1, .non, .int 0, .ref d5]) := upd_same
        have s26 := same_trans s5 s6
        have nq := (hK.same s26).hand.fresh hlq
        generalize upd H6 lq (.lst [.ref l1, .non, .int 0, .ref d5]) = H7 at *
        have hK7 := hK.same (same_trans s26 s7)
        refine ⟨p, c, lq, cells, _, rfl, hK7.hand, SqL.of e7, nq, (by show 0 < 4; decide), (by show 4 < 1000; decide), fun i y H8 hy hA8 o8 => ?_⟩
        have hK8 := hK7.draw hA8 (del_off o8)
        have np : ∀ {b : Addr} {o : HO}, H7 b = some o → b ≠ p → H8 b = some o := fun e nb => (o8 _ nb).trans e
        have hm := List.mem_of_getElem? hy
        simp only [List.not_mem_nil, List.mem_cons, or_false] at hm
        have no : LsAt K H8 y none := by
          obtain rfl | rfl | rfl | rfl := hm
          · exact ⟨_, .base (.lst (np (s7 _ _ (s6 _ _ e5)) m1)), kit_ty (r := false) (by decide +kernel)⟩
          · exact ⟨_, .base .non, kit_ty (r := false) (by decide +kernel)⟩
          · exact ⟨_, .base (.int 0), kit_ty (r := false) (by decide +kernel)⟩
          · exact ⟨_, .base (.dK (np (s7 _ _ e6) m2)), kit_ty (r := false) (by decide +kernel)⟩
        refine ⟨false, .inr ⟨y, .int 0, none, .int 0, rfl, no, rfl, rfl⟩, fun H9 s9 => ?_⟩
        refine ⟨rfl, _, rfl, ?_⟩
        refine ifF (by decide +kernel) ?_
        exact ⟨rfl, hK8.same s9⟩
      clear hK hx H2
      rintro _ H2 ⟨rfl, hK⟩
      -- what is let
      refine ⟨(by show 0 ≤ sizeLine; decide), fun t1 ht1 => ?_⟩
      have s3 := same_new (o := .tup []) (same_refl H2) ht1
      refine ⟨true, .inr ⟨.ref t1, .int 25, some [], .int 25, rfl, ⟨t1, rfl, upd_same, (by show 0 ≤ 1000; decide), fun y hy => by cases hy⟩, rfl, rfl⟩, fun H4 s4 => ?_⟩
      have s24 := same_trans s3 s4
      refine ⟨rfl, _, rfl, ?_⟩
      refine ifF (by decide +kernel) ?_
      refine ⟨_, rfl, (by show 1 ≤ sizeLine; decide), fun t5 ht5 => ?_⟩
      have s5 := same_new (o := .tup [v]) s24 ht5
      refine ⟨true, .inr ⟨.ref t5, .int 0, some [(v, t)], .int 0, rfl, ⟨t5, rfl, upd_same, (by show 1 ≤ 1000; decide), fun y hy => ?_⟩, rfl, ?_⟩, fun H6 s6 => ?_⟩
      · rw [List.mem_singleton] at hy
        subst hy
        exact ⟨(hK.same s5).at, by show t.size ≤ 10000; omega⟩
      · simp [goodB, Th.letter, hK.any]
      refine ⟨rfl, _, rfl, ?_⟩
      refine ifF (by decide +kernel) ?_
      exact ⟨_, _, _, _, _, _, rfl, (hK.same (same_trans s5 s6)).hand⟩
    · rintro σ H' ⟨o2, o3, o4, o5, o6, o7, rfl, hA'⟩
      exact k _
end
end K06

set_option Elab.async false
set_option linter.all false
set_option maxRecDepth 100000
set_option maxHeartbeats 5000000
namespace K06
open PySem L2
/-- a def of the text as the top has left it -/
def DefPack (K : PySem.W.Frag) (x : Str) (st : Stmt) (ps : List Str) : Prop := ∃ (f : Addr) (fd : FuncData), PySem.W.nsIn K mainGlobals x = some (some (.ref f)) ∧ Fun K x x st f fd ∧ Binds K fd ps []
theorem DefPack.fn {K : PySem.W.Frag} {h : Heap} {mg : Str → Option Value} {x : Str} {st : Stmt} {ps : List Str} (X : K.In h) (G : h.Ns mainGlobals mg) (d : DefPack K x st ps) : ∃ f fd, Fn K mg x st ps f fd := by
  obtain ⟨f, fd, a, F, b⟩ := d
  exact ⟨f, fd, F, b, PySem.W.mg_of X G a⟩
theorem def_mk {K : PySem.W.Frag} {x : Str} {st : Stmt} {ps : List Str} {f : Addr} {oc : Value} {od an : Option Addr} {osl : Array (Option Value)} {kV doc pm cdv ct : Value} (a : PySem.W.nsIn K mainGlobals x = some (some (.ref f)))
    (l : K.lookup f = some ⟨oc, od, .func (PySem.W.fnOf x x (defArgs st) (defBody st) (defScope st) .none kV doc pm an cdv ct), osl⟩) (c : PySem.W.codeIn K cdv x = true) (k : PySem.W.keepIn K (.ref f) = true)
    (h : ∀ (kV doc pm : Value) (an : Option Addr) (cdv ct : Value) (us : List Value), us.length = ps.length → bindArgs (PySem.W.fnOf x x (defArgs st) (defBody st) (defScope st) .none kV doc pm an cdv ct) ⟨us, []⟩ = pure (ps.zip us)) : DefPack K x st ps :=
  ⟨f, _, a, fun_mk l c k, (fun_mk l c k).binds h⟩
/-- an error class of the text as the top has left it -/
structure CF (K : PySem.W.Frag) (CE D : Addr) (nm : Str) : Prop where
  x : ∃ q N bs sn sub ab col dd k0 k1 k2 k3 k5, K.lookup D = some (excClassObj nm q D N bs [.ref CE, .type "ValueError", .type "Exception", .type "BaseException", .type "object"] true sn sub ab col dd k0 k1 k2 k3 k5 "ValueError.__new__")
  sa : PySem.W.findIn K (.ref D) "__setattr__" = some (some (.builtin "object.__setattr__"))
  ga : PySem.W.findIn K (.ref D) "__getattribute__" = some (some (.builtin "BaseException.__getattribute__"))
  gg : PySem.W.findIn K (.ref D) "__getattr__" = some none
  tyC : PySem.W.typeIn K (.ref D) = some (.type "type")
  kC : PySem.W.keepIn K (.ref D) = true
  haC : PySem.W.findIn K (.ref D) "__class__" = some (some (.builtin "object.__class__"))
theorem CF.cls {K : PySem.W.Frag} {CE C : Addr} {nm : Str} (h : CF K CE C nm) : ∃ cd, PySem.W.clsIn K C = some cd ∧ cd.name = nm ∧ cd.mro = [.ref C, .ref CE, .type "ValueError", .type "Exception", .type "BaseException", .type "object"] ∧ cd.hasDict = true := by
  obtain ⟨q, N, bs, sn, sub, ab, col, dd, k0, k1, k2, k3, k5, e⟩ := h.x
  refine ⟨_, by unfold PySem.W.clsIn; rw [e] <;> rfl, rfl, rfl, rfl⟩
theorem CF.ne {K : PySem.W.Frag} {CE C C' : Addr} {nm nm' : Str} (h : CF K CE C nm) (h' : CF K CE C' nm') (hn : nm ≠ nm') : C ≠ C' := fun z => by
  obtain ⟨cd, e, n, _⟩ := h.cls
  obtain ⟨cd', e', n', _⟩ := h'.cls
  rw [z, e'] at e
  cases e
  exact hn (n.symm.trans n')
theorem CF.mro {K : PySem.W.Frag} {CE C : Addr} {nm : Str} (h : CF K CE C nm) (b : Value) : PySem.W.mroIn K C b = some ([Value.ref C, .ref CE, .type "ValueError", .type "Exception", .type "BaseException", .type "object"].contains b) := by
  obtain ⟨cd, e, _, m, _⟩ := h.cls
  unfold PySem.W.mroIn
  rw [e, Option.bind_some, m]
  rfl
theorem CF.kitR {K : PySem.W.Frag} {CE C C' : Addr} {nm nm' : Str} (h : CF K CE C nm) (h' : CF K CE C' nm') : PySem.W.kitOne K (.ref C) (.ref C') = some (decide (C = C') || decide (C' = CE)) := by
  unfold PySem.W.kitOne
  by_cases e : C = C'
  · subst e
    rw [if_pos (beq_self_eq_true _), decide_eq_true rfl]
    rfl
  · have hbf : (Value.ref C == Value.ref C') = false := beq_eq_false_iff_ne.mpr fun z => e (Value.ref.inj z)
    rw [hbf, if_neg Bool.false_ne_true]
    obtain ⟨cd, ec, _⟩ := h'.cls
    show (if ((PySem.W.clsIn K C').isSome && PySem.W.typeIn K (.ref C') == some (.type "type")) = true then PySem.W.subIn K (.ref C) (.ref C') else none) = _
    rw [ec, h'.tyC, if_pos (by rfl)]
    show PySem.W.mroIn K C (.ref C') = _
    rw [h.mro]
    have e2 : ¬ C' = C := fun z => e z.symm
    by_cases e3 : C' = CE
    · subst e3; simp
    · simp [e, e2, e3]

theorem CF.errC {K : PySem.W.Frag} {CE C : Addr} {nm : Str} (h : CF K CE C nm) (hn : PySem.W.specialIn K (.builtin "object.__class__") "__get__" = some (some (.builtin "getset_descriptor.__get__"))) (ht : PySem.W.takesIn K (.builtin "object.__class__") = some true) : ErrC K C := by
  have exC : PySem.W.subIn K (.ref C) (.type "BaseException") = some true := (h.mro _).trans (by simp)
  have hd : PySem.W.hasDictIn K C = true := by
    obtain ⟨cd, e, _, _, d⟩ := h.cls
    unfold PySem.W.hasDictIn
    rw [e]
    exact d
  obtain ⟨q, N, bs, sn, sub, ab, col, dd, k0, k1, k2, k3, k5, e⟩ := h.x
  exact ⟨⟨⟨nm, q, N, bs, _, sn, sub, ab, col, dd, k0, k1, k2, k3, k5, e, (show PySem.HandSPX.refsVE [.type "ValueError", .type "Exception", .type "BaseException", .type "object"] = true by decide +kernel)⟩, h.sa, exC, h.tyC, h.kC⟩, ⟨h.ga, h.gg, exC, hd⟩, h.haC, ⟨hn, ht⟩, (h.mro _).trans (by simp)⟩
/-- NoKind as the top has left it -/
def NkPack (K : PySem.W.Frag) (CE : Addr) : Prop := ∃ (C fI : Addr) (fd : FuncData), PySem.W.nsIn K mainGlobals "NoKind" = some (some (.ref C)) ∧ CF K CE C "NoKind" ∧ Fun K "__init__" "NoKind.__init__" sNk fI fd ∧ Binds K fd ["self"] [] ∧
  PySem.W.findIn K (.ref C) "__init__" = some (some (.ref fI)) ∧ PySem.W.typeIn K (.ref fI) = some (.type "function")
theorem nk_mk {K : PySem.W.Frag} {CE C fI : Addr} {q : Str} {N : Addr} {bs : List Value} {sn : List Str} {sub : List Value} {ab : Bool} {col : Option Bool} {dd : Option Addr} {k0 k1 k2 k3 k5 : Option Value}
    {oc : Value} {od an : Option Addr} {osl : Array (Option Value)} {kV doc pm cdv ct : Value} (a : PySem.W.nsIn K mainGlobals "NoKind" = some (some (.ref C)))
    (x : K.lookup C = some (excClassObj "NoKind" q C N bs [.ref CE, .type "ValueError", .type "Exception", .type "BaseException", .type "object"] true sn sub ab col dd k0 k1 k2 k3 k5 "ValueError.__new__"))
    (sa : PySem.W.findIn K (.ref C) "__setattr__" = some (some (.builtin "object.__setattr__"))) (ga : PySem.W.findIn K (.ref C) "__getattribute__" = some (some (.builtin "BaseException.__getattribute__"))) (gg : PySem.W.findIn K (.ref C) "__getattr__" = some none)
    (ty : PySem.W.typeIn K (.ref C) = some (.type "type")) (kC : PySem.W.keepIn K (.ref C) = true) (ha : PySem.W.findIn K (.ref C) "__class__" = some (some (.builtin "object.__class__")))
    (i : PySem.W.findIn K (.ref C) "__init__" = some (some (.ref fI))) (t : PySem.W.typeIn K (.ref fI) = some (.type "function"))
    (l : K.lookup fI = some ⟨oc, od, .func (PySem.W.fnOf "__init__" "NoKind.__init__" (defArgs sNk) (defBody sNk) (defScope sNk) .none kV doc pm an cdv ct), osl⟩) (c : PySem.W.codeIn K cdv "NoKind.__init__" = true) (k : PySem.W.keepIn K (.ref fI) = true) : NkPack K CE :=
  ⟨C, fI, _, a, ⟨⟨q, N, bs, sn, sub, ab, col, dd, k0, k1, k2, k3, k5, x⟩, sa, ga, gg, ty, kC, ha⟩, fun_mk l c k, (fun_mk l c k).binds (fun _ _ _ _ _ _ us hl => match us, hl with | [_], _ => rfl), i, t⟩
/-- Lot as the top has left it -/
structure LotPack (K : PySem.W.Frag) (CL aW fL : Addr) (fdL : FuncData) : Prop where
  aL : PySem.W.nsIn K mainGlobals "Lot" = some (some (.ref CL))
  cl : Cls K CL
  nW : NoAttr K CL "word"
  nM : NoAttr K CL "makers"
  nS : NoAttr K CL "_sums"
  aWn : PySem.W.nsIn K mainGlobals "WORDS" = some (some (.ref aW))
  words : ∀ H : Hp, SqT K H aW [.str "once", .str "loan", .str "free", .str "more"]
  ha : PySem.W.findIn K (.ref CL) "__class__" = some (some (.builtin "object.__class__"))
  hm : PySem.W.mroIn K CL (.type "object") = some true
  nI : PySem.W.mroIn K CL (.type "int") = some false
  nT : PySem.W.mroIn K CL (.type "tuple") = some false
  mkL : Mk K CL fL
  FL : Fun K "__init__" "Lot.__init__" sLInit fL fdL
  bL : Binds K fdL ["self", "word", "makers"] []
theorem lot_mk {K : PySem.W.Frag} {CL aW fL : Addr} {dW : Option Addr} {nW : Nat} {slW : Array (Option Value)} {u1 u2 u3 u4 : Tok}
    {oc1 : Value} {od1 an1 : Option Addr} {sl1 : Array (Option Value)} {kV1 dc1 pm1 cd1 ct1 : Value}
    (aL : PySem.W.nsIn K mainGlobals "Lot" = some (some (.ref CL))) (pg : PySem.W.plainGet K CL Str.empty = true) (hd : PySem.W.hasDictIn K CL = true) (po : PySem.W.plainOver K CL = true) (sa : PySem.W.findIn K (.ref CL) "__setattr__" = some (some (.builtin "object.__setattr__")))
    (n1 : PySem.W.findIn K (.ref CL) "word" = some none) (n2 : PySem.W.findIn K (.ref CL) "makers" = some none) (n3 : PySem.W.findIn K (.ref CL) "_sums" = some none)
    (aw : PySem.W.nsIn K mainGlobals "WORDS" = some (some (.ref aW))) (lw : K.lookup aW = some ⟨.type "tuple", dW, .seq #[.str "once" u1, .str "loan" u2, .str "free" u3, .str "more" u4] nW, slW⟩)
    (ha : PySem.W.findIn K (.ref CL) "__class__" = some (some (.builtin "object.__class__"))) (hm : PySem.W.mroIn K CL (.type "object") = some true) (nI : PySem.W.mroIn K CL (.type "int") = some false) (nT : PySem.W.mroIn K CL (.type "tuple") = some false) (mk : PySem.W.makesIn K CL = true) (kc : PySem.W.keepIn K (.ref CL) = true)
    (i1 : PySem.W.findIn K (.ref CL) "__init__" = some (some (.ref fL))) (f1 : PySem.W.isFn K (.ref fL) = true) (l1 : K.lookup fL = some ⟨oc1, od1, .func (PySem.W.fnOf "__init__" "Lot.__init__" (defArgs sLInit) (defBody sLInit) (defScope sLInit) .none kV1 dc1 pm1 an1 cd1 ct1), sl1⟩) (c1 : PySem.W.codeIn K cd1 "Lot.__init__" = true) (k1 : PySem.W.keepIn K (.ref fL) = true) :
    ∃ CL aW fL fdL, LotPack K CL aW fL fdL :=
  ⟨CL, aW, fL, _, aL, ⟨pg, hd, po, sa⟩, n1, n2, n3, aw, fun H => .inr ⟨⟨.type "tuple", dW, .seq #[.str "once" u1, .str "loan" u2, .str "free" u3, .str "more" u4] nW, slW⟩, _, nW, lw, rfl, rfl, (by show 4 ≤ sizeLine; decide), .cons ⟨_, rfl⟩ (.cons ⟨_, rfl⟩ (.cons ⟨_, rfl⟩ (.cons ⟨_, rfl⟩ .nil)))⟩, ha, hm, nI, nT, ⟨mk, i1, f1, kc⟩, fun_mk l1 c1 k1,
    (fun_mk l1 c1 k1).binds fun _ _ _ _ _ _ us hl => (match us, hl with | [_, _, _], _ => rfl)⟩
def LawPack (K : PySem.W.Frag) : Prop := ∃ (f : Addr) (fd : FuncData), PySem.W.nsIn K mainGlobals "law" = some (some (.ref f)) ∧ Fun K "law" "law" sLaw f fd ∧ Binds K fd ["_law_script"] [] ∧ ∀ (s : Shared) (v : Value), BindsTo s fd ⟨[v], []⟩ [("_law_script", v)]
theorem law_mk {K : PySem.W.Frag} {f : Addr} {oc : Value} {od an : Option Addr} {osl : Array (Option Value)} {kV doc pm cdv ct : Value} (a : PySem.W.nsIn K mainGlobals "law" = some (some (.ref f)))
    (l : K.lookup f = some ⟨oc, od, .func (PySem.W.fnOf "law" "law" (defArgs sLaw) (defBody sLaw) (defScope sLaw) .none kV doc pm an cdv ct), osl⟩) (c : PySem.W.codeIn K cdv "law" = true) (k : PySem.W.keepIn K (.ref f) = true) : LawPack K :=
  ⟨f, _, a, fun_mk l c k, (fun_mk l c k).binds (fun _ _ _ _ _ _ us hl => match us, hl with | [_], _ => rfl), fun s v => .of_eq rfl⟩
theorem all_mk {l : PySem.W.OpenLaw} {w : World} {K : PySem.W.Frag} {h : Heap} {mg : Str → Option Value} {fa CE : Addr} {v0 v1 v2 : Tok} (X : K.In h) (G : h.Ns mainGlobals mg) (hfa : mg "law" = some (.ref fa))
    {q : Str} {N : Addr} {bs : List Value} {sn : List Str} {sub : List Value} {ab : Bool} {col : Option Bool} {dd : Option Addr} {m0 m1 m2 m3 m5 : Option Value}
    (aE : PySem.W.nsIn K mainGlobals "CountsError" = some (some (.ref CE)))
    (xE : K.lookup CE = some (excClassObj "CountsError" q CE N bs [.type "ValueError", .type "Exception", .type "BaseException", .type "object"] true sn sub ab col dd m0 m1 m2 m3 m5 "ValueError.__new__"))
    (tE : PySem.W.typeIn K (.ref CE) = some (.type "type")) (sE : PySem.W.subIn K (.ref CE) (.type "BaseException") = some true) (hE : PySem.W.hasDictIn K CE = true)
    (hn : PySem.W.specialIn K (.builtin "object.__class__") "__get__" = some (some (.builtin "getset_descriptor.__get__"))) (ht : PySem.W.takesIn K (.builtin "object.__class__") = some true) (pN : NkPack K CE)
    (c0 : PySem.W.nsIn K mainGlobals "LAST_LETTER" = some (some (.int 25 v0)))
    (c1 : PySem.W.nsIn K mainGlobals "MOST_LETTERS" = some (some (.int 60 v1)))
    (c2 : PySem.W.nsIn K mainGlobals "MOST_DEEP" = some (some (.int 30 v2)))
    (d0 : DefPack K "_law_hand" sHand ["_law_script"])
    (d1 : DefPack K "_law_draw" sDraw ["_law_hand_here", "_law_many"])
    (d2 : DefPack K "_law_some" sSome ["_law_hand_here", "_law_things"])
    (d3 : DefPack K "_law_kind" sKd ["_law_hand_here", "_law_deep_here"])
    (d4 : DefPack K "_law_ends" sEnds ["_law_kind_here"])
    (d5 : DefPack K "_law_flag" sFlag ["_law_told_here", "_law_due"])
    (d6 : DefPack K "is_kind" sKind ["thing"])
    (d7 : DefPack K "is_kind_of_any_size" sAny ["thing"])
    (d8 : DefPack K "is_letter" sLetter ["thing"])
    (d9 : DefPack K "is_integer_within" sWithin ["low", "high", "thing"])
    (d10 : DefPack K "is_integer" sInteger ["thing"])
    (d11 : DefPack K "is_pair" sPair ["thing"])
    (d12 : DefPack K "lefts" sLefts ["kind"])
    (d13 : DefPack K "end" sEnd ["kind"])
    (d14 : DefPack K "built" sBuilt ["lefts", "end"])
    (d15 : DefPack K "_law_is" sIs ["_law_told_here", "_law_due"])
    (d16 : DefPack K "_law_great" sGreat ["_law_hand_here"])
    (d17 : DefPack K "_law_bent" sBent ["_law_hand_here", "_law_kind_here"])
    (d18 : DefPack K "_law_deep" sDeep ["_law_kind_here"])
    (d19 : DefPack K "_law_is_kind" sIsKind ["_law_thing"])
    (d20 : DefPack K "_law_told" sTold ["_law_which", "_law_one", "_law_other"])
    (d21 : DefPack K "_is_makers" sMk ["word", "thing"])
    (pL : ∃ CL aW fL fdL, LotPack K CL aW fL fdL) (pW : LawPack K)
    (z0 : PySem.W.nsIn K mainGlobals "abs" = some none) (z1 : PySem.W.nsIn K mainGlobals "int" = some none) (z2 : PySem.W.nsIn K mainGlobals "len" = some none) (z3 : PySem.W.nsIn K mainGlobals "isinstance" = some none) (z4 : PySem.W.nsIn K mainGlobals "all" = some none) (z5 : PySem.W.nsIn K mainGlobals "range" = some none) (z6 : PySem.W.nsIn K mainGlobals "tuple" = some none) (z7 : PySem.W.nsIn K mainGlobals "list" = some none) (z8 : PySem.W.nsIn K mainGlobals "dict" = some none) (z9 : PySem.W.nsIn K mainGlobals "bool" = some none) (z10 : PySem.W.nsIn K mainGlobals "str" = some none) (z11 : PySem.W.nsIn K mainGlobals "reversed" = some none) (z12 : PySem.W.nsIn K mainGlobals "ValueError" = some none) :
    ∃ fd : FuncData, (∀ (s : Shared) (v : Value), BindsTo s fd ⟨[v], []⟩ [("_law_script", v)]) ∧ ∀ base : Heap, K.In base → base.Ns mainGlobals mg → FnOk l.prog w K mg base CX0 66 fa fd ["_law_script"] (spLaw K) := by
  obtain ⟨fw, fdw, aw, Fw, bb, bw⟩ := pW
  have e := hfa.symm.trans (PySem.W.mg_of X G aw)
  cases e
  obtain ⟨CN, fN, fdN, aN, cN, FN, bN, iN, tN⟩ := pN
  obtain ⟨g0, gd0, D0⟩ := d0.fn X G
  obtain ⟨g1, gd1, D1⟩ := d1.fn X G
  obtain ⟨g2, gd2, D2⟩ := d2.fn X G
  obtain ⟨g3, gd3, D3⟩ := d3.fn X G
  obtain ⟨g4, gd4, D4⟩ := d4.fn X G
  obtain ⟨g5, gd5, D5⟩ := d5.fn X G
  obtain ⟨g6, gd6, D6⟩ := d6.fn X G
  obtain ⟨g7, gd7, D7⟩ := d7.fn X G
  obtain ⟨g8, gd8, D8⟩ := d8.fn X G
  obtain ⟨g9, gd9, D9⟩ := d9.fn X G
  obtain ⟨g10, gd10, D10⟩ := d10.fn X G
  obtain ⟨g11, gd11, D11⟩ := d11.fn X G
  obtain ⟨g12, gd12, D12⟩ := d12.fn X G
  obtain ⟨g13, gd13, D13⟩ := d13.fn X G
  obtain ⟨g14, gd14, D14⟩ := d14.fn X G
  obtain ⟨g15, gd15, D15⟩ := d15.fn X G
  obtain ⟨g16, gd16, D16⟩ := d16.fn X G
  obtain ⟨g17, gd17, D17⟩ := d17.fn X G
  obtain ⟨g18, gd18, D18⟩ := d18.fn X G
  obtain ⟨g19, gd19, D19⟩ := d19.fn X G
  obtain ⟨g20, gd20, D20⟩ := d20.fn X G
  obtain ⟨g21, gd21, D21⟩ := d21.fn X G
  obtain ⟨CL, aW, fL, fdL, LP⟩ := pL
  have hCE : CN ≠ CE := fun z => by
    obtain ⟨cd, e, nm, _⟩ := cN.cls
    unfold PySem.W.clsIn at e
    rw [z, xE] at e
    cases e
    exact absurd (show ("CountsError" : Str) = "NoKind" from nm) (by decide +kernel)
  have T : TxB mg := ⟨PySem.W.mg_none_of X G z0, PySem.W.mg_none_of X G z1, PySem.W.mg_none_of X G z2, PySem.W.mg_none_of X G z3, PySem.W.mg_none_of X G z4, PySem.W.mg_none_of X G z5⟩
  have T2 : TxD mg := ⟨PySem.W.mg_none_of X G z6, PySem.W.mg_none_of X G z7, PySem.W.mg_none_of X G z8, PySem.W.mg_none_of X G z9, ⟨_, PySem.W.mg_of X G c0⟩, ⟨_, PySem.W.mg_of X G c1⟩, ⟨_, PySem.W.mg_of X G c2⟩⟩
  have NK : NkT K mg CN fN fdN := { err := cN.errC hn ht, m := PySem.W.mg_of X G aN, F := FN, b := bN, i := iN, t := tN }
  have TT : ToldT K mg CN CE := {
    gE := PySem.W.mg_of X G aE
    exm := PySem.W.exm_ref sE hE tE ((cN.mro _).trans (by simp))
    k1 := by rw [cN.kitR cN, decide_eq_true rfl, Bool.true_or]
    k2 := by
      unfold PySem.W.kitOne
      rw [show (Value.ref CN == Value.type "ValueError") = false from rfl, if_neg Bool.false_ne_true]
      show (if PySem.W.kitMeta "ValueError" = true then PySem.W.subIn K (.ref CN) (.type "ValueError") else none) = _
      rw [if_pos (by decide +kernel)]
      exact (cN.mro _).trans (by simp)
    vE := PySem.W.mg_none_of X G z12 }
  have L : LotT K mg CL aW := { cl := LP.cl, nW := LP.nW, nM := LP.nM, nS := LP.nS, mgL := PySem.W.mg_of X G LP.aL, mgW := PySem.W.mg_of X G LP.aWn, words := LP.words, str := PySem.W.mg_none_of X G z10, ha := LP.ha, cg := hn, cTk := ht, hm := LP.hm, nI := LP.nI, nT := LP.nT }
  have LF : LotF K mg CL fL g21 fdL gd21 := { M := LP.mkL, F := LP.FL, b := LP.bL, NM := D21 }
  exact ⟨fdw, bw, fun base _ _ => ok_law ⟨Fw, bb, hfa⟩ T T2 (PySem.W.mg_none_of X G z11) L LF NK TT D0 D1 D2 D3 D4 D5 D6 D7 D8 D9 D10 D11 D12 D13 D14 D15 D16 D17 D18 D19 D20⟩
theorem walk {l : PySem.W.OpenLaw} {q : Program} {loose : List Str} {XP : (Str → Option Value) → Heap → Prop} {YP : World → Heap → Prop} {d : DefRec} {K : Params → PySem.W.Frag} (hn : l.most = some 63) (hdf : d.params.defaults = [])
    (hY : ∀ (w : World) (h : Heap), YP w h → (K w.params).In h)
    (F : ∀ (w : World) (mg : Str → Option Value) (fa : Addr) (h : Heap), (K w.params).In h → h.Ns mainGlobals mg → mg d.name = some (.ref fa) →
      ∃ fd : FuncData, (∀ (s : Shared) (u : Value), BindsTo s fd ⟨[u], []⟩ [("_law_script", u)]) ∧ ∀ base : Heap, (K w.params).In base → base.Ns mainGlobals mg → FnOk l.prog w (K w.params) mg base CX0 66 fa fd ["_law_script"] (spLaw (K w.params))) :
    PySem.W.WalkO q loose XP YP l.row.toRowW d [] (fun f vs => PySem.call f vs) :=
  L2.walk_of (n := 63) (k := 66) (x := "_law_script") (CX := fun _ => CX0) (sp := fun w => spLaw (K w.params)) hn (by decide) hdf ⟨rfl, by decide, by decide⟩ hY F (fun _ _ a ns hl _ hS => ⟨a, ns, rfl, hS, hl, fun _ => rfl⟩) fun _ _ _ _ _ z => z
end K06

open PySem PySem.W PyProof.Rows
set_option Elab.async false
set_option maxRecDepth 100000 in
set_option maxHeartbeats 0 in
theorem PySem.Challenge.cw_usecounts_k06_whole_kinds_judged_and_bui_holds : PySem.Challenge.rw_usecounts_k06_whole_kinds_judged_and_bui.Holds := by
  w_on; o_law; k_head; (case hw => w_witness2)
  k_fill
  refine K06.walk (l := PySem.Challenge.rw_usecounts_k06_whole_kinds_judged_and_bui) rfl rfl (fun w h Y => PySem.W.kIn_of Y) ?F
  case F =>
    intro w mg fa h KX G hmg
    refine' K06.all_mk KX G hmg ?aE ?xE ?tE ?sE ?hE ?hn ?ht ?pN ?c0 ?c1 ?c2 ?d0 ?d1 ?d2 ?d3 ?d4 ?d5 ?d6 ?d7 ?d8 ?d9 ?d10 ?d11 ?d12 ?d13 ?d14 ?d15 ?d16 ?d17 ?d18 ?d19 ?d20 ?d21 ?pL ?pW ?z0 ?z1 ?z2 ?z3 ?z4 ?z5 ?z6 ?z7 ?z8 ?z9 ?z10 ?z11 ?z12
    (case aE => k_is)
    (case xE => k_is)
    (case tE => k_is)
    (case sE => k_is)
    (case hE => k_is)
    (case hn => k_is)
    (case ht => k_is)
    (case c0 => k_is)
    (case c1 => k_is)
    (case c2 => k_is)
    (case pN => (refine' K06.nk_mk ?pNa ?pNx ?pNsa ?pNga ?pNgg ?pNty ?pNkC ?pNha ?pNi ?pNt ?pNl ?pNc ?pNk; (case pNa => k_is); (case pNx => k_is); (case pNsa => k_is); (case pNga => k_is); (case pNgg => k_is); (case pNty => k_is); (case pNkC => k_is); (case pNha => k_is); (case pNi => k_is); (case pNt => k_is); (case pNl => k_is); (case pNc => k_is); (case pNk => k_is)))
    (case d0 => (refine' K06.def_mk ?d0a ?d0l ?d0c ?d0k ?d0h; (case d0a => k_is); (case d0l => k_is); (case d0c => k_is); (case d0k => k_is); (case d0h => exact fun _ _ _ _ _ _ us hl => match us, hl with | [_], _ => rfl)))
    (case d1 => (refine' K06.def_mk ?d1a ?d1l ?d1c ?d1k ?d1h; (case d1a => k_is); (case d1l => k_is); (case d1c => k_is); (case d1k => k_is); (case d1h => exact fun _ _ _ _ _ _ us hl => match us, hl with | [_, _], _ => rfl)))
    (case d2 => (refine' K06.def_mk ?d2a ?d2l ?d2c ?d2k ?d2h; (case d2a => k_is); (case d2l => k_is); (case d2c => k_is); (case d2k => k_is); (case d2h => exact fun _ _ _ _ _ _ us hl => match us, hl with | [_, _], _ => rfl)))
    (case d3 => (refine' K06.def_mk ?d3a ?d3l ?d3c ?d3k ?d3h; (case d3a => k_is); (case d3l => k_is); (case d3c => k_is); (case d3k => k_is); (case d3h => exact fun _ _ _ _ _ _ us hl => match us, hl with | [_, _], _ => rfl)))
    (case d4 => (refine' K06.def_mk ?d4a ?d4l ?d4c ?d4k ?d4h; (case d4a => k_is); (case d4l => k_is); (case d4c => k_is); (case d4k => k_is); (case d4h => exact fun _ _ _ _ _ _ us hl => match us, hl with | [_], _ => rfl)))
    (case d5 => (refine' K06.def_mk ?d5a ?d5l ?d5c ?d5k ?d5h; (case d5a => k_is); (case d5l => k_is); (case d5c => k_is); (case d5k => k_is); (case d5h => exact fun _ _ _ _ _ _ us hl => match us, hl with | [_, _], _ => rfl)))
    (case d6 => (refine' K06.def_mk ?d6a ?d6l ?d6c ?d6k ?d6h; (case d6a => k_is); (case d6l => k_is); (case d6c => k_is); (case d6k => k_is); (case d6h => exact fun _ _ _ _ _ _ us hl => match us, hl with | [_], _ => rfl)))
    (case d7 => (refine' K06.def_mk ?d7a ?d7l ?d7c ?d7k ?d7h; (case d7a => k_is); (case d7l => k_is); (case d7c => k_is); (case d7k => k_is); (case d7h => exact fun _ _ _ _ _ _ us hl => match us, hl with | [_], _ => rfl)))
    (case d8 => (refine' K06.def_mk ?d8a ?d8l ?d8c ?d8k ?d8h; (case d8a => k_is); (case d8l => k_is); (case d8c => k_is); (case d8k => k_is); (case d8h => exact fun _ _ _ _ _ _ us hl => match us, hl with | [_], _ => rfl)))
    (case d9 => (refine' K06.def_mk ?d9a ?d9l ?d9c ?d9k ?d9h; (case d9a => k_is); (case d9l => k_is); (case d9c => k_is); (case d9k => k_is); (case d9h => exact fun _ _ _ _ _ _ us hl => match us, hl with | [_, _, _], _ => rfl)))
    (case d10 => (refine' K06.def_mk ?d10a ?d10l ?d10c ?d10k ?d10h; (case d10a => k_is); (case d10l => k_is); (case d10c => k_is); (case d10k => k_is); (case d10h => exact fun _ _ _ _ _ _ us hl => match us, hl with | [_], _ => rfl)))
    (case d11 => (refine' K06.def_mk ?d11a ?d11l ?d11c ?d11k ?d11h; (case d11a => k_is); (case d11l => k_is); (case d11c => k_is); (case d11k => k_is); (case d11h => exact fun _ _ _ _ _ _ us hl => match us, hl with | [_], _ => rfl)))
    (case d12 => (refine' K06.def_mk ?d12a ?d12l ?d12c ?d12k ?d12h; (case d12a => k_is); (case d12l => k_is); (case d12c => k_is); (case d12k => k_is); (case d12h => exact fun _ _ _ _ _ _ us hl => match us, hl with | [_], _ => rfl)))
    (case d13 => (refine' K06.def_mk ?d13a ?d13l ?d13c ?d13k ?d13h; (case d13a => k_is); (case d13l => k_is); (case d13c => k_is); (case d13k => k_is); (case d13h => exact fun _ _ _ _ _ _ us hl => match us, hl with | [_], _ => rfl)))
    (case d14 => (refine' K06.def_mk ?d14a ?d14l ?d14c ?d14k ?d14h; (case d14a => k_is); (case d14l => k_is); (case d14c => k_is); (case d14k => k_is); (case d14h => exact fun _ _ _ _ _ _ us hl => match us, hl with | [_, _], _ => rfl)))
    (case d15 => (refine' K06.def_mk ?d15a ?d15l ?d15c ?d15k ?d15h; (case d15a => k_is); (case d15l => k_is); (case d15c => k_is); (case d15k => k_is); (case d15h => exact fun _ _ _ _ _ _ us hl => match us, hl with | [_, _], _ => rfl)))
    (case d16 => (refine' K06.def_mk ?d16a ?d16l ?d16c ?d16k ?d16h; (case d16a => k_is); (case d16l => k_is); (case d16c => k_is); (case d16k => k_is); (case d16h => exact fun _ _ _ _ _ _ us hl => match us, hl with | [_], _ => rfl)))
    (case d17 => (refine' K06.def_mk ?d17a ?d17l ?d17c ?d17k ?d17h; (case d17a => k_is); (case d17l => k_is); (case d17c => k_is); (case d17k => k_is); (case d17h => exact fun _ _ _ _ _ _ us hl => match us, hl with | [_, _], _ => rfl)))
    (case d18 => (refine' K06.def_mk ?d18a ?d18l ?d18c ?d18k ?d18h; (case d18a => k_is); (case d18l => k_is); (case d18c => k_is); (case d18k => k_is); (case d18h => exact fun _ _ _ _ _ _ us hl => match us, hl with | [_], _ => rfl)))
    (case d19 => (refine' K06.def_mk ?d19a ?d19l ?d19c ?d19k ?d19h; (case d19a => k_is); (case d19l => k_is); (case d19c => k_is); (case d19k => k_is); (case d19h => exact fun _ _ _ _ _ _ us hl => match us, hl with | [_], _ => rfl)))
    (case d20 => (refine' K06.def_mk ?d20a ?d20l ?d20c ?d20k ?d20h; (case d20a => k_is); (case d20l => k_is); (case d20c => k_is); (case d20k => k_is); (case d20h => exact fun _ _ _ _ _ _ us hl => match us, hl with | [_, _, _], _ => rfl)))
    (case d21 => (refine' K06.def_mk ?d21a ?d21l ?d21c ?d21k ?d21h; (case d21a => k_is); (case d21l => k_is); (case d21c => k_is); (case d21k => k_is); (case d21h => exact fun _ _ _ _ _ _ us hl => match us, hl with | [_, _], _ => rfl)))
    (case pL => (refine' K06.lot_mk ?pLaL ?pLpg ?pLhd ?pLpo ?pLsa ?pLn1 ?pLn2 ?pLn3 ?pLaw ?pLlw ?pLha ?pLhm ?pLnI ?pLnT ?pLmk ?pLkc ?pLi1 ?pLf1 ?pLl1 ?pLc1 ?pLk1; (case pLaL => k_is); (case pLpg => k_is); (case pLhd => k_is); (case pLpo => k_is); (case pLsa => k_is); (case pLn1 => k_is); (case pLn2 => k_is); (case pLn3 => k_is); (case pLaw => k_is); (case pLlw => k_is); (case pLha => k_is); (case pLhm => k_is); (case pLnI => k_is); (case pLnT => k_is); (case pLmk => k_is); (case pLkc => k_is); (case pLi1 => k_is); (case pLf1 => k_is); (case pLl1 => k_is); (case pLc1 => k_is); (case pLk1 => k_is)))
    (case pW => (refine' K06.law_mk ?pWa ?pWl ?pWc ?pWk; (case pWa => k_is); (case pWl => k_is); (case pWc => k_is); (case pWk => k_is)))
    (case z0 => k_is)
    (case z1 => k_is)
    (case z2 => k_is)
    (case z3 => k_is)
    (case z4 => k_is)
    (case z5 => k_is)
    (case z6 => k_is)
    (case z7 => k_is)
    (case z8 => k_is)
    (case z9 => k_is)
    (case z10 => k_is)
    (case z11 => k_is)
    (case z12 => k_is)
#print axioms PySem.Challenge.cw_usecounts_k06_whole_kinds_judged_and_bui_holds
