import PyProof.Rows.All
import Wide.All
import OpenK.AllK
import Wide.FinOn
import HandS.ForMost
import HandS.Exc
import HandS.TryOnly
import HandS.ExcOwn
import HandS.WordsExc
import HandS.IsInst
import HandS.ExcInit
import HandS.DeepEq
import HandS.Evl
import HandS.OwnEq
import HandS.SortInts
import HandS.CallSlots
import HandS.ExcField
import HandS.ExcIs
import HandS.ExcValue
import KE.KExcIs
import HandS.Gcd
import HandS.Walk
import HandS.TupAny
import HandS.TupMul
import PySem.Challenge.RW_usecounts_k03_whole_raw_lots_told
set_option Elab.async false
set_option maxRecDepth 100000
namespace K03
open PySem L2
def top (i : Nat) : Stmt := PySem.Challenge.pw_usecounts_k03_whole_raw_lots_told.main.body.getD i (.Pass ⟨0, 0, 0, 0⟩)
abbrev sHand : Stmt := top 24
abbrev sDraw : Stmt := top 25
abbrev sSome : Stmt := top 26

theorem yes_kept {A B : Hp → Prop} {σ : St} {H : Hp} (h : A H) : tYes σ H (fun b H3 => if b = true then A H3 else B H3) := by
  show (if true = true then A H else B H)
  rw [if_pos rfl]
  exact h
/-- the builtins that the text leaves alone -/
structure TxB (mg : Str → Option Value) : Prop where
  abs : mg "abs" = none
  int : mg "int" = none
  len : mg "len" = none
  isinstance : mg "isinstance" = none
  all : mg "all" = none
  range : mg "range" = none

/-- the hand of draws -/
structure HandAt (H : Hp) (p c : Addr) (cells : List Int) : Prop where
  ob : ∃ i z s n : Int, 0 ≤ i ∧ H p = some (.lst [.ref c, .int i, .int z, .int s, .int n])
  cl : H c = some (.lst (cells.map V.int))
theorem HandAt.ne {H : Hp} {p c : Addr} {cells : List Int} (h : HandAt H p c cells) : p ≠ c := by
  obtain ⟨⟨i, z, s, n, _, e⟩, k⟩ := h
  refine ne_of e k (fun z => ?_)
  cases cells with
  | nil => cases z
  | cons a l => cases z
theorem HandAt.put {H : Hp} {p c : Addr} {cells : List Int} (h : HandAt H p c cells) {i z s n : Int} (hi : 0 ≤ i) : HandAt (upd H p (.lst [.ref c, .int i, .int z, .int s, .int n])) p c cells :=
  ⟨⟨i, z, s, n, hi, upd_same⟩, by rw [upd_ne h.ne.symm]; exact h.cl⟩
theorem HandAt.keep {H H' : Hp} {p c : Addr} {cells : List Int} (h : HandAt H p c cells) (k : ∀ b, b ≠ p → H' b = H b) (e : H' p = H p) : HandAt H' p c cells := by
  obtain ⟨⟨i, z, s, n, hi, q⟩, l⟩ := id h
  exact ⟨⟨i, z, s, n, hi, by rw [e]; exact q⟩, by rw [k c h.ne.symm]; exact l⟩

def spHand (K : PySem.W.Frag) : Sp := fun vs H Q _ => ∃ (a : Addr) (ns : List Int), vs = [.ref a] ∧ SqL K H a (ns.map V.int) ∧ ns.length ≤ 1000 ∧
  ∀ (p c : Addr) (cells : List Int) (H' : Hp), Same H H' → H p = none → HandAt H' p c cells → Q (.ref p) H'
/-- a draw: some number below -/
def spDraw : Sp := fun vs H Q _ => ∃ (p c : Addr) (cells : List Int) (m : Int), vs = [.ref p, .int m] ∧ HandAt H p c cells ∧ 0 < m ∧ m < 1000000 ∧
  ∀ (r : Int) (H' : Hp), 0 ≤ r → r < m → HandAt H' p c cells → (∀ b, b ≠ p → H' b = H b) → Q (.int r) H'
def spSome (K : PySem.W.Frag) : Sp := fun vs H Q _ => ∃ (p c t : Addr) (cells : List Int) (xs : List V), vs = [.ref p, .ref t] ∧ HandAt H p c cells ∧ SqL K H t xs ∧ t ≠ p ∧ 0 < xs.length ∧ xs.length < 1000 ∧
  ∀ (k : Nat) (v : V) (H' : Hp), xs[k]? = some v → HandAt H' p c cells → (∀ b, b ≠ p → H' b = H b) → Q v H'

section
variable {P : Program} {w : World} {K : PySem.W.Frag} {mg : Str → Option Value} {base : Heap}
theorem scH : FnScope ["_law_script", "_law_cells", "_law_cell"] ["_law_script"] (defScope sHand) := ⟨rfl, rfl, rfl, by decide +kernel, rfl, by decide +kernel, by decide +kernel⟩
theorem ok_hand {f : Addr} {fd : FuncData} (F : Fun K "_law_hand" "_law_hand" sHand f fd) (T : TxB mg) : FnOk P w K mg base CX0 1 f fd ["_law_script"] (spHand K) := by
  refine F.ok scH (fun vs H Q E h => ?_) (fun cdv A outer s H vs Q E hr h => ?_)
  · obtain ⟨a, ns, rfl, _⟩ := h
    rfl
  · obtain ⟨a, ns, rfl, hS, hlen, k⟩ := h
    have hu := hu_of hr
    refine ⟨_, pss_cons (ps_setLc (i := 1) (own := [("_law_cell", 2)]) (g := gName 2) (tt := tYes) rfl scH.nd rfl rfl (sw_true rfl rfl rfl (by decide +kernel))
        (pi_list (pe_slice sl_list (pv 0) po_none (po_some pe_int))) (blkOk_by (N := ["_law_script", "_law_cells", "_law_cell"]) (sc := defScope sHand) (by decide +kernel))
        (fun _ _ _ _ _ => pg_name (i := 2) scH.nd rfl (Or.inl rfl)) (fun _ _ _ _ _ => pts_nil)
        (fun _ _ _ _ _ => pe_callB call_abs (by rfl) T.abs (by decide +kernel) (pa_cons (pe_callTy call_int1 (by rfl) T.int (by decide +kernel) (pa_cons (pv 2) pa_nil)) pa_nil)))
      (pss_one (ps_ret (pe_lst (pa_cons (pv 1) (pa_cons pe_int (pa_cons pe_int (pa_cons (pe_op op_add pe_int (pe_callB call_len (by rfl) T.len PySem.boot_len (pa_cons (pv 1) pa_nil))) (pa_cons pe_int pa_nil)))))))), ?_⟩
    refine ⟨_, rfl, 63, rfl, _, _, rfl, hS, ?_⟩
    intro sl hsl
    refine ⟨sl, rfl, ⟨_, SqL.of upd_same⟩, fun D hD => ?_⟩
    have hDs : D ≠ sl := fun e => by rw [e, upd_same] at hD; cases hD
    have hD0 : H D = none := by rw [upd_ne hDs] at hD; exact hD
    obtain ⟨zs, ez, hzl⟩ : ∃ zs : List Int, cutV (ns.map V.int) none (some 63) = zs.map V.int ∧ zs.length ≤ 1000 := by
      refine ⟨(ns.drop (HT.sIx (ns.map V.int).length 0 none)).take (HT.sIx (ns.map V.int).length (ns.map V.int).length (some 63) - HT.sIx (ns.map V.int).length 0 none), ?_, ?_⟩
      · unfold cutV
        rw [← List.map_drop, ← List.map_take]
      · rw [List.length_take, List.length_drop]; omega
    rw [ez]
    refine lc_list (K := K) (a := sl) (xs := zs.map V.int) (fun i H' => Same H H' ∧ H' sl = some (.lst (zs.map V.int)) ∧ ∃ cs : List Int, cs.length = i ∧ H' D = some (.lst (cs.map V.int)))
      ⟨fun b o e => ?_, ?_, [], rfl, upd_same⟩ (fun i H' _ p => SqL.of p.2.1) ?_ ?_
    · rw [upd_ne (ne_of_none e hD0), upd_ne (ne_of_none e hsl)]; exact e
    · rw [upd_ne hDs.symm, upd_same]
    · rintro i x H' hx ⟨h1, h2, cs, h3, h4⟩
      obtain ⟨z, rfl⟩ : ∃ z, x = V.int z := by
        rw [List.getElem?_map] at hx
        cases e : zs[i]? with
        | none => rw [e] at hx; cases hx
        | some z => rw [e] at hx; exact ⟨z, (Option.some.inj hx).symm⟩
      have hi : i < zs.length := by
        have := (List.getElem?_eq_some_iff.mp hx).1
        rwa [List.length_map] at this
      refine ⟨rfl, ?_⟩
      refine yes_kept ?_
      refine ⟨_, rfl, .inl ⟨_, rfl, _, rfl, cs.map V.int, h4, ?_, fun b o e => ?_, ?_, cs ++ [if z < 0 then -z else z], ?_, ?_⟩⟩
      · rw [List.length_map, h3]; exact small1000 (by omega)
      · rw [upd_ne (ne_of_none e hD0)]; exact h1 b o e
      · rw [upd_ne hDs.symm]; exact h2
      · rw [List.length_append, h3]; rfl
      · rw [upd_same, List.map_append]; rfl
    · rintro H' ⟨h1, h2, cs, h3, h4⟩
      refine ⟨_, rfl, _, rfl, _, _, rfl, .inl ⟨_, SqL.of h4, rfl⟩, _, _, rfl, rfl, (by show 5 ≤ sizeLine; decide), fun p hp => ?_⟩
      exact k p D cs _ (fun b o e => by rw [upd_ne (ne_of_none (h1 b o e) hp)]; exact h1 b o e) (by
        cases e : H p with
        | none => rfl
        | some o => have := h1 p o e; rw [hp] at this; cases this) ⟨⟨0, 0, _, 0, Int.le_refl _, upd_same⟩, by rw [upd_ne (ne_of_none h4 hp)]; exact h4⟩
theorem scD : FnScope ["_law_hand_here", "_law_many", "_law_cell", "_law_digit", "_law_number"] ["_law_hand_here", "_law_many"] (defScope sDraw) := ⟨rfl, rfl, rfl, by decide +kernel, rfl, by decide +kernel, by decide +kernel⟩
theorem ok_draw {f : Addr} {fd : FuncData} (F : Fun K "_law_draw" "_law_draw" sDraw f fd) (T : TxB mg) : FnOk P w K mg base CX0 1 f fd ["_law_hand_here", "_law_many"] spDraw := by
  refine F.ok scD (fun vs H Q E h => ?_) (fun cdv A outer s H vs Q E hr h => ?_)
  · obtain ⟨p, c, cells, m, rfl, _⟩ := h
    rfl
  · obtain ⟨p, c, cells, m, rfl, hA, hm, hm2, k⟩ := h
    have hu := hu_of hr
    have nd := scD.nd
    refine ⟨_, Evl.pss_cut (ps_if (PW.pt (pw_and (pt_cmpR op_eq (pe_ix ix_list (pv 0) pe_int (fun _ _ => rfl)) pe_int (nomark _))
          (pw_and1 (pt_cmpR op_lt (pe_ix ix_list (pv 0) pe_int (fun _ _ => rfl)) (pe_callB call_len (by rfl) T.len PySem.boot_len (pa_cons (pe_ix ix_list (pv 0) pe_int (fun _ _ => rfl)) pa_nil)) (nomark _)))))
        (pss_cons (ps_set (i := 2) nd rfl (Or.inl rfl) (pe_ix ix_list (pe_ix ix_list (pv 0) pe_int (fun _ _ => rfl)) (pe_ix ix_list (pv 0) pe_int (fun _ _ => rfl)) (fun _ _ => rfl)))
        (pss_cons (ps_asg (pe_op op_add (pe_ix ix_list (pv 0) pe_int (fun _ _ => rfl)) pe_int) (pg_sub (pv 0) pe_int set_list))
        (pss_cons (ps_asg (pe_op op_mod (pe_callTy call_int1 (by rfl) T.int (by decide +kernel) (pa_cons (pe_op op_add (pe_op op_add (pe_op op_mul (pe_ix ix_list (pv 0) pe_int (fun _ _ => rfl)) pe_int) (pv 2)) pe_int) pa_nil)) pe_int) (pg_sub (pv 0) pe_int set_list))
        (pss_one (ps_if (pt_cmpR op_ge (pv 2) (pe_op op_pow pe_int pe_int) (nomark _)) (pss_one (ps_asg (pv 2) (pg_sub (pv 0) pe_int set_list))) pss_nil)))))
        pss_nil)
      (pss_cons (ps_if (pt_cmpR op_gt (pe_ix ix_list (pv 0) pe_int (fun _ _ => rfl)) pe_int (nomark _))
        (pss_cons (ps_set (i := 3) nd rfl (Or.inl rfl) (pe_op op_mod (pe_callTy call_int1 (by rfl) T.int (by decide +kernel) (pa_cons (pe_ix ix_list (pv 0) pe_int (fun _ _ => rfl)) pa_nil)) (pv 1)))
        (pss_cons (ps_asg (pe_op op_fdivN (pe_ix ix_list (pv 0) pe_int (fun _ _ => rfl)) (pv 1)) (pg_sub (pv 0) pe_int set_list))
        (pss_one (ps_ret (pv 3))))) pss_nil)
      (pss_cons (ps_asg (pe_op op_add (pe_ix ix_list (pv 0) pe_int (fun _ _ => rfl)) pe_int) (pg_sub (pv 0) pe_int set_list))
      (pss_cons (ps_set (i := 4) nd rfl (Or.inl rfl) (pe_op op_mod (pe_callTy call_int1 (by rfl) T.int (by decide +kernel) (pa_cons (pe_op op_mul (pe_callTy call_int1 (by rfl) T.int (by decide +kernel) (pa_cons (pe_op op_add (pe_ix ix_list (pv 0) pe_int (fun _ _ => rfl)) (pe_op op_mul pe_int (pe_ix ix_list (pv 0) pe_int (fun _ _ => rfl)))) pa_nil)) pe_int) pa_nil)) pe_int))
      (pss_cons (ps_set (i := 4) nd rfl (Or.inl rfl) (pe_op op_mod (pe_callTy call_int1 (by rfl) T.int (by decide +kernel) (pa_cons (pe_op op_mul (pv 4) (pe_op op_add (pe_op op_fdiv (pv 4) pe_int) pe_int)) pa_nil)) pe_int))
      (pss_cons (ps_set (i := 4) nd rfl (Or.inl rfl) (pe_op op_mod (pe_callTy call_int1 (by rfl) T.int (by decide +kernel) (pa_cons (pe_op op_mul (pv 4) (pe_op op_add (pe_op op_fdiv (pv 4) pe_int) pe_int)) pa_nil)) pe_int))
      (pss_one (ps_ret (pe_op op_mod (pe_callTy call_int1 (by rfl) T.int (by decide +kernel) (pa_cons (pe_op op_fdiv (pv 4) pe_int) pa_nil)) (pv 1))))))))), ?_⟩
    obtain ⟨⟨i, z, s0, n, hi, hp⟩, hc⟩ := id hA
    have nep := hA.ne
    refine ⟨fun σ' H' => ∃ (i z s n : Int) (v : Option V), 0 ≤ i ∧ σ' = [some (.ref p), some (.int m), v, none, none] ∧ H' p = some (.lst [.ref c, .int i, .int z, .int s, .int n]) ∧ (∀ b, b ≠ p → H' b = H b), ?_, ?_⟩
    · -- hand[2] == 0 and hand[1] < len(hand[0])
      refine ⟨_, rfl, p, _, _, _, rfl, rfl, SqL.of hp, rfl, rfl, _, rfl, ?_⟩
      refine ite2 (fun _ => ?_) (fun _ => ?_)
      · refine ⟨_, rfl, p, _, _, _, rfl, rfl, SqL.of hp, rfl, _, rfl, p, _, _, _, rfl, rfl, SqL.of hp, rfl, _, _, rfl, .inl ⟨_, SqL.of hc, rfl⟩, _, _, rfl, rfl, _, rfl, ?_⟩
        refine ite2 (fun e1 => ?_) (fun _ => ?_)
        · have e2 : i < (cells.length : Int) := by
            have := of_decide_eq_true e1
            rw [List.length_map] at this
            exact this
          obtain ⟨j, rfl⟩ := Int.eq_ofNat_of_zero_le hi
          have hj : j < cells.length := by omega
          have hat : atI (cells.map V.int) (j : Int) = some (.int cells[j]) := atI_nat (by rw [List.getElem?_map, List.getElem?_eq_getElem hj]; rfl)
          refine ⟨_, rfl, p, _, _, _, rfl, rfl, SqL.of hp, rfl, _, rfl, p, _, _, _, rfl, rfl, SqL.of hp, rfl, c, _, _, _, rfl, rfl, SqL.of hc, hat, ?_⟩
          refine ⟨_, rfl, p, _, _, _, rfl, rfl, SqL.of hp, rfl, _, _, rfl, rfl, _, rfl, p, _, _, 1, rfl, rfl, hp, rfl, ?_⟩
          refine ⟨_, rfl, p, _, _, _, rfl, rfl, SqL.of upd_same, rfl, _, _, rfl, rfl, .inr ⟨by decide, by decide⟩, _, rfl, _, _, rfl, rfl, _, _, rfl, rfl, .inl ⟨_, rfl, _, _, rfl, rfl, (by show (0 : Int) < 2147483629; decide), _, rfl, p, _, _, 3, rfl, rfl, upd_same, rfl, ?_⟩⟩
          refine ⟨_, rfl, _, _, rfl, rfl, ⟨by decide, by decide, by decide⟩, _, _, rfl, rfl, _, rfl, ?_⟩
          refine ite2 (fun _ => ?_) (fun _ => ?_)
          · refine ⟨_, rfl, _, rfl, p, _, _, 2, rfl, rfl, upd_same, rfl, (j : Int) + 1, _, _, _, some (.int cells[j]), by omega, rfl, upd_same, fun b hb => by rw [upd_ne hb, upd_ne hb, upd_ne hb]⟩
          · exact ⟨(j : Int) + 1, _, _, _, some (.int cells[j]), by omega, rfl, upd_same, fun b hb => by rw [upd_ne hb, upd_ne hb]⟩
        · exact ⟨i, z, s0, n, none, hi, rfl, hp, fun _ _ => rfl⟩
      · exact ⟨i, z, s0, n, none, hi, rfl, hp, fun _ _ => rfl⟩
    · clear hi hp i z s0 n
      rintro _ H1 ⟨i, z, s0, n, v, hi, rfl, hp, kp⟩
      have hc1 : H1 c = some (.lst (cells.map V.int)) := by rw [kp c nep.symm]; exact hc
      have fin : ∀ (r : Int) (i z s n : Int) (H2 : Hp), 0 ≤ r → r < m → 0 ≤ i → H2 p = some (.lst [.ref c, .int i, .int z, .int s, .int n]) → (∀ b, b ≠ p → H2 b = H1 b) → Q (.int r) H2 :=
        fun r i z s n H2 h0 h1 hi h2 h3 => k r H2 h0 h1 ⟨⟨i, z, s, n, hi, h2⟩, by rw [h3 c nep.symm]; exact hc1⟩ fun b hb => (h3 b hb).trans (kp b hb)
      -- hand[2] > 0
      refine ⟨_, rfl, p, _, _, _, rfl, rfl, SqL.of hp, rfl, _, _, rfl, rfl, _, rfl, ?_⟩
      refine ite2 (fun _ => ?_) (fun _ => ?_)
      · refine ⟨_, rfl, p, _, _, _, rfl, rfl, SqL.of hp, rfl, .inl ⟨_, rfl, _, rfl, _, _, rfl, rfl, hm, ?_⟩⟩
        refine ⟨_, rfl, p, _, _, _, rfl, rfl, SqL.of hp, rfl, _, rfl, _, _, rfl, rfl, ⟨by omega, by omega⟩, _, rfl, p, _, _, 2, rfl, rfl, hp, rfl, _, rfl, ?_⟩
        exact fin _ i _ _ _ _ (Int.emod_nonneg _ (by omega)) (Int.emod_lt_of_pos _ hm) hi upd_same fun b hb => upd_ne hb
      · refine ⟨_, rfl, p, _, _, _, rfl, rfl, SqL.of hp, rfl, _, _, rfl, rfl, _, rfl, p, _, _, 4, rfl, rfl, hp, rfl, ?_⟩
        refine ⟨_, rfl, p, _, _, _, rfl, rfl, SqL.of upd_same, rfl, _, rfl, p, _, _, _, rfl, rfl, SqL.of upd_same, rfl, _, _, rfl, rfl, .inl ⟨by decide, by decide⟩, _, _, rfl, rfl, .inl ⟨_, rfl, _, _, rfl, rfl, .inr ⟨by decide, by decide⟩, .inl ⟨_, rfl, _, _, rfl, rfl, (by show (0 : Int) < 2147483647; decide), ?_⟩⟩⟩
        dsimp only
        generalize hn1 : ((s0 + 7919 * (n + 1)) * 48271) % 2147483647 = n1
        have b1 : 0 ≤ n1 := by rw [← hn1]; exact Int.emod_nonneg _ (by decide)
        have b2 : n1 < 2147483647 := by rw [← hn1]; exact Int.emod_lt_of_pos _ (by decide)
        clear hn1
        refine ⟨_, rfl, _, rfl, _, _, rfl, rfl, ⟨by decide, by decide⟩, _, _, rfl, rfl, _, _, rfl, rfl, .inl ⟨by omega, by omega⟩, .inl ⟨_, rfl, _, _, rfl, rfl, (by show (0 : Int) < 2147483647; decide), ?_⟩⟩
        dsimp only
        generalize hn2 : (n1 * (n1 / 1009 + 69621)) % 2147483647 = n2
        have b3 : 0 ≤ n2 := by rw [← hn2]; exact Int.emod_nonneg _ (by decide)
        have b4 : n2 < 2147483647 := by rw [← hn2]; exact Int.emod_lt_of_pos _ (by decide)
        clear hn2
        refine ⟨_, rfl, _, rfl, _, _, rfl, rfl, ⟨by decide, by decide⟩, _, _, rfl, rfl, _, _, rfl, rfl, .inl ⟨by omega, by omega⟩, .inl ⟨_, rfl, _, _, rfl, rfl, (by show (0 : Int) < 2147483399; decide), ?_⟩⟩
        refine ⟨_, rfl, _, _, rfl, rfl, ⟨by decide, by decide⟩, .inl ⟨_, rfl, _, rfl, _, _, rfl, rfl, hm, ?_⟩⟩
        exact fin _ i _ _ _ _ (Int.emod_nonneg _ (by omega)) (Int.emod_lt_of_pos _ hm) hi upd_same fun b hb => upd_ne hb
theorem scS : FnScope ["_law_hand_here", "_law_things"] ["_law_hand_here", "_law_things"] (defScope sSome) := ⟨rfl, rfl, rfl, by decide +kernel, rfl, by decide +kernel, by decide +kernel⟩
theorem ok_some {f fD : Addr} {fd fdD : FuncData} (F : Fun K "_law_some" "_law_some" sSome f fd) (T : TxB mg) (FD : Fun K "_law_draw" "_law_draw" sDraw fD fdD) (bD : Binds K fdD ["_law_hand_here", "_law_many"] []) (mD : mg "_law_draw" = some (.ref fD)) :
    FnOk P w K mg base CX0 2 f fd ["_law_hand_here", "_law_things"] (spSome K) := by
  have GD : FnOk P w K mg base CX0 1 fD fdD ["_law_hand_here", "_law_many"] spDraw := ok_draw FD T
  refine F.ok scS (fun vs H Q E h => ?_) (fun cdv A outer s H vs Q E hr h => ?_)
  · obtain ⟨p, c, t, cells, xs, rfl, _⟩ := h
    rfl
  · obtain ⟨p, c, t, cells, xs, rfl, hA, hT, hn, h0, h1, k⟩ := h
    refine ⟨_, pss_one (ps_ret (pe_ix ix_list (pv 1) (pe_call GD hr (by rfl) mD FD.kp bD .nil pass0 (pa_cons (pv 0) (pa_cons (pe_callB call_len (by rfl) T.len PySem.boot_len (pa_cons (pv 1) pa_nil)) pa_nil))) (fun _ _ => rfl))), ?_⟩
    refine ⟨_, rfl, _, rfl, _, rfl, _, _, rfl, .inl ⟨_, hT, rfl⟩, p, c, cells, _, rfl, hA, by omega, by omega, fun r H' h2 h3 hA' kp => ?_⟩
    obtain ⟨j, rfl⟩ := Int.eq_ofNat_of_zero_le h2
    have hj : j < xs.length := by omega
    have hT' : SqL K H' t xs := by
      rcases hT with q | q
      · exact .inl (by unfold Rd; rw [kp t hn]; exact q)
      · exact .inr q
    exact ⟨t, xs, _, _, rfl, rfl, hT', atI_nat (List.getElem?_eq_getElem hj), k j _ H' (List.getElem?_eq_getElem hj) hA' kp⟩
end
end K03

set_option Elab.async false
set_option linter.all false
set_option maxRecDepth 100000
set_option maxHeartbeats 4100000
/-! rules: a tuple sorted; an own == with both answers, != by it, a list searched for an instance with it; a making that may raise, in a try -/
namespace GQ
open PySem PySem.SeqAt PySem.Spec PyProof.Rows
open AutoSeq1 (wpAny_loadPart' )
open SeqRoads2 MeetsSeq3 MeetsSeq2 MeetsSeq
section
variable {prog : Program} {w : World} {A : Around} {E : Value → Shared → Prop} {s : Shared}
/-- the items of a tuple, gathered -/
theorem collectTup {tp : Addr} {ot : Obj} {k : Nat} {ys : List Value} {Q : List Value → Shared → Prop} (at_ : s.heap.get? tp = some ot) (isT : ot.cls = .type "tuple") (dat : ot.data = .seq ys.toArray k)
    (fin : Q ys { s with heap := (s.heap.push (seqObj "list" #[] 0)).update s.heap.objs.size (Obj.mapSeq (· ++ ys.toArray)) }) (z : ys.length ≤ sizeLine) : wpAny (model prog w) A (collect (.ref tp)) Q E s := by
  have here : (s.heap.push (seqObj "list" #[] 0)).get? tp = some ot := Heap.get?_push_of_some _ at_
  have new : (s.heap.push (seqObj "list" #[] 0)).get? s.heap.objs.size = some (seqObj "list" #[] 0) := Heap.get?_push_size _ rfl
  have both : #[] ++ ys.toArray = ys.toArray := by simp
  unfold collect
  apply wpAny_bind; apply wpAny_runValue; refine codeAny_builtin (b := _) entry_proto_collect' (wpAny_bind (wpAny_newList (wpAny_pure (And.intro (Code.quiet_builtin _ (by decide +kernel)) (codeAny_builtin (b := _) entry_list_iadd' ?_)))))
  change wpAny _ _ (Builtin.List.listExtendWith (Value.ref s.heap.objs.size) (Value.ref tp) (Value.ref s.heap.objs.size)) _ _ { s with heap := s.heap.push (seqObj "list" #[] 0) }
  unfold Builtin.List.listExtendWith; apply wpAny_bind; refine wpAny_typeOf (T := "tuple") ⟨ot, here, isT⟩ ?_
  rw [if_pos (by simp)]; apply wpAny_bind; refine listItems_at here dat ?_
  apply wpAny_bind; refine listItems_at (n := 0) (xs := #[]) new rfl ?_
  rw [if_neg (by simp)]; apply wpAny_bind
  refine listUpdate_at (n := 0) (xs := #[]) new rfl ?_ (Nat.zero_le _) (by show (#[] ++ ys.toArray).size ≤ _; rw [both, List.size_toArray]; omega)
  apply wpAny_pure; apply wpAny_bind; refine wpAny_load (get?_update_seq new _) ?_
  apply wpAny_pure
  show Q ((#[] : Array Value) ++ ys.toArray).toList _
  rw [both]; exact fin
/-- sorted(t), t a tuple -/
theorem sortedTup {tp : Addr} {ot : Obj} {k : Nat} {ys : List Value} {lt : Value → Value → Bool} {Q : Value → Shared → Prop} (ord : SrtO.Swo lt) (at_ : s.heap.get? tp = some ot) (isT : ot.cls = .type "tuple") (dat : ot.data = .seq ys.toArray k) (z : ys.length ≤ sizeLine)
    (able : 2 ≤ ys.length → ∀ (h₁ : Heap) (l : Addr), h₁.get? l = some (seqObj "list" ys.toArray 0) → (∀ b o, s.heap.get? b = some o → b ≠ l ∧ h₁.get? b = some o) → SrtO.SortableO prog w A.in1.in1 { s with heap := h₁ } l ys lt)
    (fin : ∀ out : List Value, SrtO.Srtd lt out → SrtO.Stb lt out ys → Q (.ref (s.heap.objs.size + 1)) { s with heap := sortedAll s.heap ys out.toArray }) : wpAny (model prog w) A (call (.builtin "sorted") [.ref tp]) Q E s := by
  have step : ∀ {h1 h2 : Heap} {n : Nat}, h1 = (s.heap.push (seqObj "list" #[] 0)).update s.heap.objs.size (Obj.mapSeq (· ++ ys.toArray)) → h2 = h1.push (seqObj "list" ys.toArray 0) → n = s.heap.objs.size + 1 → h2.get? n = some (seqObj "list" ys.toArray 0) ∧ h1.objs.size = n ∧ ∀ b o, s.heap.get? b = some o → b ≠ n ∧ h2.get? b = some o := by
    rintro _ _ _ rfl rfl rfl
    have e : ((s.heap.push (seqObj "list" #[] 0)).update s.heap.objs.size (Obj.mapSeq (· ++ ys.toArray))).objs.size = s.heap.objs.size + 1 := (Heap.size_update ..).trans (size_push' ..)
    refine ⟨by rw [← e]; exact Heap.get?_push_size _ rfl, e, fun b o there => ?_⟩
    have below := Heap.lt_size there
    exact ⟨Nat.ne_of_lt (Nat.lt_succ_of_lt below), Heap.get?_push_of_some _ (by rw [Heap.get?_update_ne _ _ _ _ (Nat.ne_of_lt below)]; exact Heap.get?_push_of_some _ there)⟩
  obtain ⟨st1, st2, st3⟩ := step rfl rfl rfl
  refine Calls.call_function_entry kind_sorted plain_sorted entry_sorted (args_sorted1 (.ref tp)) ?_
  unfold Builtin.«sorted»
  refine wpAny_bind (m := checkCount "sorted" 1 1 1) (wpAny_pure (wpAny_bind (collectTup at_ isT dat (wpAny_bind (wpAny_newList ?_ z)) z)))
  rw [st2]; apply wpAny_bind; apply wpAny_holding
  refine wpAny_call_entry slot_list_sort (And.intro st1 rfl |> fun x => ⟨_, x⟩) entry_list_sort (SrtO.list_sort_ord ord st1 z (fun two => able two _ _ st1 st3) fun out o1 o2 => ⟨.none, rfl, ?_⟩) (args_list_sort _)
  exact wpAny_pure ⟨_, rfl, fin out o1 o2⟩
end
section
variable {w : World} {P : Program} {A : Around} {R : Result → Shared → Prop}
/-- what is asked of the items, turn by turn: none is equal to x -/
def NoneEq (P : Program) (w : World) (A : Around) (R : Value → Shared → Prop) (l : Addr) (x : Value) (N : Nat) (I : Shared → Prop) : Prop := ∀ s, I s → ∃ (its : Array Value) (k : Nat), s.heap.get? l = some { cls := .type "list", data := .seq its k } ∧ its.size = N ∧
      ∀ (i : Nat) (h : i < its.size), wpAny (model P w) A.in1 (eqBool its[i] x) (fun b s' => b = false ∧ I s') R s
theorem none_loop {l : Addr} {x : Value} {N : Nat} {I : Shared → Prop} (ask : NoneEq P w A (fun e s' => R (.error e) s') l x N I) (fin : ∀ s, I s → R (.ok (.ret (.bool false))) s) : ∀ (left i : Nat), N - i = left → i ≤ N → ∀ s, I s →
      wpAny (model P w) A.in1 (Builtin.«list.__contains__.loop» ⟨[.ref l, x, rawInt i], []⟩) (FinOf P w A R) (fun e s' => R (.error e) s') s
  | 0, i, el, li, s, inv => by
    obtain ⟨its, k, at_, sz, _⟩ := ask _ inv
    have done := fin s inv
    rcases s with ⟨h0, gs, dr, tk, os⟩
    wp_walk using wpAny_loadPart' at_
    rw [show its[((i : Nat) : Int).toNat]? = none by simp; omega]
    wp_walk
    exact done
  | left + 1, i, el, li, s, inv => by
    obtain ⟨its, k, at_, sz, turn⟩ := ask _ inv
    have inside : i < its.size := by omega
    have one := turn i inside
    rcases s with ⟨h0, gs, dr, tk, os⟩
    wp_walk using wpAny_loadPart' at_
    rw [show its[((i : Nat) : Int).toNat]? = some its[i] by simp [inside]]
    apply wpAny_bind
    refine wpAny_mono one (fun b s2 both => ?_) fun _ _ z => z
    obtain ⟨rfl, inv2⟩ := both
    have again := none_loop ask fin left (i + 1) (by omega) (by omega) s2 inv2
    rcases s2 with ⟨h2, gs2, dr2, tk2, os2⟩
    wp_walk
    rw [show ((i : Int) + 1) = ((i + 1 : Nat) : Int) by omega]
    refine ⟨plainId_quiet plain_contains_loop _, codeAny_builtin entry_contains_loop ?_⟩
    rw [Around.under_plainId plain_contains_loop]; exact again
theorem none_in {l : Addr} {x : Value} {N : Nat} {I : Shared → Prop} (ask : NoneEq P w A (fun e s' => R (.error e) s') l x N I) (fin : ∀ s, I s → R (.ok (.ret (.bool false))) s) {s : Shared} (inv : I s) :
    wpAny (model P w) A.in1 (Builtin.«list.__contains__» ⟨[.ref l, x], []⟩) (FinOf P w A R) (fun e s' => R (.error e) s') s := by
  obtain ⟨its, k, at_, _⟩ := ask _ inv
  have all := none_loop ask fin N 0 rfl (Nat.zero_le N) s inv
  rcases s with ⟨h0, gs, dr, tk, os⟩
  wp_walk using wpAny_loadPart' at_
  refine ⟨plainId_quiet plain_contains_loop _, codeAny_builtin entry_contains_loop ?_⟩
  rw [Around.under_plainId plain_contains_loop]; exact all
/-- x in l: none of the items is equal to x -/
theorem in_noneG {E : Value → Shared → Prop} {s : Shared} {l : Addr} {x : Value} {N : Nat} {Q : Value → Shared → Prop} (I : Shared → Prop) (ask : NoneEq P w A E l x N I)
    (fin : ∀ s, I s → Q (.bool false) s) (inv : I s) : wpAny (model P w) A (compareOp .In x (.ref l)) Q E s := by
  obtain ⟨its, k, at_, _⟩ := ask _ inv
  show wpAny _ A (do return .bool (← PySem.contains (.ref l) x)) Q E s
  refine wpAny_bind (wpAny_contains_slot (T := "list") ⟨_, at_, rfl⟩ F.slot_list_contains (call_here F.slot_list_contains ⟨_, at_, rfl⟩ F.entry_list_contains (F.args_list_contains_2 _ _) ?_))
  exact none_in (R := wants _ E) ask (fun s' q => wpAny_truthy_bool (wpAny_pure (fin s' q))) inv
end
end GQ

set_option Elab.async false
set_option linter.all false
set_option maxRecDepth 100000
set_option maxHeartbeats 4100000
namespace GQ
open PySem PySem.SeqAt PySem.Spec PyProof.Rows
open AutoSeq1 (wpAny_loadPart' )
open SeqRoads2 MeetsSeq3 MeetsSeq2 MeetsSeq
section
variable {prog : Program} {w : World} {A : Around} {E : Value → Shared → Prop} {s : Shared} {x C dx : Addr}
/-- an instance of an own class is no text, no tuple, not None -/
theorem str_eq_no {z : Str} {t : Tok} {Q : Value → Shared → Prop} (hx : s.heap.get? x = some (PySem.W.instObj C dx)) (q : Q .notImplemented s) : wpAny (model prog w) A (call (.builtin "str.__eq__") [.str z t, .ref x]) Q E s := by
  refine wpAny_call_entry F.slot_str_eq (typeIs_str s z t) F.entry_str_eq ?_ (F.args_str_eq_2 _ _)
  rcases s with ⟨hp, g, d, tk, os⟩
  have hx2 : hp.get? x = some { cls := .ref C, dict := some dx, data := (PySem.W.instObj C dx).data, slots := (PySem.W.instObj C dx).slots } := hx
  wp_walk using wpAny_load hx2
  exact ⟨_, rfl, q⟩
theorem tup_eq_no {l : Addr} {o : Obj} {Q : Value → Shared → Prop} (hl : s.heap.get? l = some o) (hc : o.cls = .type "tuple") (hx : PySem.W.Looks (model prog w) s.heap (typeOf (.ref x)) (.ref C)) (hn : PySem.W.Looks (model prog w) s.heap (isSubtype (.ref C) (.type "tuple")) false) (q : Q .notImplemented s) : wpAny (model prog w) A (call (.builtin "tuple.__eq__") [.ref l, .ref x]) Q E s := by
  refine wpAny_call_entry F.slot_tuple_eq ⟨o, hl, hc⟩ F.entry_tuple_eq ?_ (F.args_tuple_eq_2 _ _)
  rcases s with ⟨hp, g, d, tk, os⟩
  wp_walk using hx.at, hn.at
  exact ⟨_, rfl, q⟩
theorem none_eq_no {Q : Value → Shared → Prop} (q : Q .notImplemented s) : wpAny (model prog w) A (call (.builtin "NoneType.__eq__") [.none, .ref x]) Q E s :=
  call_gives F.slot_NoneType_eq (typeIs_none s) F.entry_NoneType_eq (F.args_NoneType_eq_2 _ _) (NoneType___eq___none_ref_0 x) q
end
section
open PySem.W
variable {prog : Program} {w : World} {A : Around} {E : Value → Shared → Prop} {s : Shared} {K : Frag} {C x f : Addr} {ox : Obj} {od : Option Obj}
/-- the own == asked of an instance, by whatever name -/
theorem own_asked {name : Str} {a : Value} {Q : Value → Shared → Prop} (X : K.In s.heap) (I : InstAt s.heap x ox C od) (own : findIn K (.ref C) name = some (some (.ref f))) (isf : isFn K (.ref f) = true)
    (go : wpAny (model prog w) A (call (.ref f) [.ref x, a]) (PySem.W.CmpBack Q) E s) : wpAny (model prog w) A (tryCompare (.ref x) name a) (fun r s' => ∃ v, r = some v ∧ Q v s') E s := by
  unfold tryCompare; apply wpAny_bind
  refine ifBound_K X I own isf (wpAny_mono go (fun v s' back => ?_) fun _ _ z => z)
  cases v with
  | notImplemented => exact back.elim
  | _ => exact wpAny_pure ⟨_, rfl, back⟩
/-- what is none of the class, on the left of an instance with its own == -/
theorem rc_decl {a : Value} {Ta id : String} {Q : Value → Shared → Prop} (ha : s.TypeIs a Ta) (X : K.In s.heap) (I : InstAt s.heap x ox C od) (hsub : mroIn K C (.type Ta) = some false) (sl : Slot Ta "__eq__" id)
    (hu : A.units < cLine) (hc1 : ∀ Q' : Value → Shared → Prop, Q' .notImplemented s → wpAny (model prog w) A (call (.builtin id) [a, .ref x]) Q' E s)
    (own : findIn K (.ref C) "__eq__" = some (some (.ref f))) (isf : isFn K (.ref f) = true) (go : wpAny (model prog w) A (call (.ref f) [.ref x, a]) (PySem.W.CmpBack Q) E s) : wpAny (model prog w) A (richCompare .Eq a (.ref x)) Q E s := by
  have info : cmpInfo CmpOp.Eq = ("==", ("__eq__" : Str), ("__eq__" : Str)) := rfl
  have differ : (Value.type Ta != Value.ref C) = true := by simp
  simp only [richCompare, ha.oneThing_none, info]; apply wpAny_holding
  refine wpAny_bind (wpAny_cRoomFor_or (.inr hu) (wpAny_bind (wpAny_typeOf ha (wpAny_bind (I.type.here ?_)))))
  simp only [if_true, differ]; apply wpAny_bind; refine (looks_mroIn X hsub).here ?_
  simp only [Bool.not_false, if_true, if_false, Bool.false_eq_true]
  refine wpAny_bind (m := tryCompare a _ (.ref x)) (wpAny_tryCompare_declines ha sl (hc1 _ ⟨rfl, ?_⟩))
  refine wpAny_bind (m := tryCompare (.ref x) _ a) (wpAny_mono (own_asked X I own isf go) (fun r s' told => ?_) fun _ _ z => z)
  obtain ⟨v, rfl, q⟩ := told
  exact wpAny_pure q
/-- a special method of the builtin kind, asked of an instance -/
theorem ifBound_B {M : Model} {name : Str} {id : String} {args : List Value} {Q : Option Value → Shared → Prop} (X : K.In s.heap) (I : InstAt s.heap x ox C od) (blt : findIn K (.ref C) name = some (some (.builtin id))) (bound : bindSpecial (.builtin id) (.ref x) = pure (.builtin id, [.ref x]))
    (go : wpAny M A (call (.builtin id) (.ref x :: args)) (fun v => Q (some v)) E s) : wpAny M A (callSpecialIfBound? (.ref x) name args) Q E s := by
  have tail : wpAny M A (call (.builtin id) ([.ref x] ++ args) >>= fun v => pure (some v)) Q E s := wpAny_bind (wpAny_mono go (fun v s' q => wpAny_pure q) fun _ _ z => z)
  simp only [bindSpecialIfBound?, callSpecialIfBound?]; apply wpAny_holding
  refine wpAny_bind (wpAny_bind (wpAny_bind (I.type.here ((looks_findIn X blt).here (wpAny_bind (wpAny_askSetting (wpAny_ite ?_)))))))
  rw [bound]
  split
  · exact wpAny_bind (wpAny_pure (wpAny_pure (by exact tail)))
  · exact wpAny_tryCatch (wpAny_bind (wpAny_pure (wpAny_pure (by exact tail))))
/-- a != b of two instances of a class with its own == -/
theorem rc_ne {y : Addr} {oy : Obj} {oe : Option Obj} {Q : Value → Shared → Prop} (hu : A.units + 1 < cLine) (X : K.In s.heap) (I : InstAt s.heap x ox C od) (J : InstAt s.heap y oy C oe)
    (hn : findIn K (.ref C) "__ne__" = some (some (.builtin "object.__ne__"))) (ho : mroIn K C (.type "object") = some true) (own : findIn K (.ref C) "__eq__" = some (some (.ref f))) (isf : isFn K (.ref f) = true)
    (go : wpAny (model prog w) A.in1 (call (.ref f) [.ref x, .ref y]) (fun v s' => ∃ b, v = .bool b ∧ Q (.bool (!b)) s') E s) : wpAny (model prog w) A (richCompare .NotEq (.ref x) (.ref y)) Q E s := by
  have ne : wpAny (model prog w) A (tryCompare (.ref x) "__ne__" (.ref y)) (fun r s' => ∃ v, r = some v ∧ Q v s') E s := by
    unfold tryCompare; apply wpAny_bind
    refine ifBound_B X I hn (PySem.F.cmp_object.ne.bind (.ref x)) (wpAny_call (codeAny_call_builtin PySem.F.cmp_object.ne.plain F.cmpEntry_ne ?_))
    refine @check_slot (model prog w) _ _ s "object.__ne__" "object" "__ne__" (.ref x) [.ref y] [] _ F.cmpKind_ne F.cmpSplit_ne (I.type.andThen (looks_mroIn X ho)) (F.cmpArgs_ne _ _) ?_
    unfold Builtin.«object.__ne__»; apply wpAny_bind
    refine wpAny_of_eq (a := ((Value.ref x : Value), [Value.ref y])) (by first | rfl | (simp only [Builtin.slotArgs]; rfl)) (wpAny_bind (wpAny_cRoomFor hu (wpAny_bind ?_)))
    refine ifBound_K X I own isf (wpAny_mono go (fun v s' told => ?_) fun _ _ z => z)
    obtain ⟨b, rfl, q⟩ := told
    exact wpAny_bind (wpAny_truthy_bool (wpAny_pure (wpAny_pure ⟨_, rfl, q⟩)))
  have info : cmpInfo CmpOp.NotEq = ("!=", ("__ne__" : Str), ("__ne__" : Str)) := rfl
  have alike : (Value.ref C != Value.ref C) = false := by simp
  unfold richCompare
  simp only [oneThing_ref, info]; apply wpAny_holding
  refine wpAny_bind (wpAny_cRoomFor (by omega) (wpAny_bind (I.type.here (wpAny_bind (J.type.here ?_)))))
  rw [alike]; simp only [if_false, Bool.false_eq_true]; apply wpAny_bind; apply wpAny_pure
  simp only [if_false, Bool.false_eq_true]; apply wpAny_bind
  refine wpAny_mono ne (fun r s' told => ?_) fun _ _ z => z
  obtain ⟨v, rfl, q⟩ := told
  exact wpAny_pure q
end
end GQ

set_option Elab.async false
set_option linter.all false
set_option maxRecDepth 100000
set_option maxHeartbeats 4100000
namespace L2
open PySem PySem.Spec PyProof.Rows
/-- what the written part says of a class with an own == -/
structure OwnE (K : PySem.W.Frag) (C f : Addr) : Prop where
  eq : PySem.W.findIn K (.ref C) "__eq__" = some (some (.ref f))
  fn : PySem.W.isFn K (Value.ref f) = true
  ne : PySem.W.findIn K (.ref C) "__ne__" = some (some (.builtin "object.__ne__"))
  ob : PySem.W.mroIn K C (.type "object") = some true
  st : PySem.W.mroIn K C (.type "str") = some false
  tu : PySem.W.mroIn K C (.type "tuple") = some false
  no : PySem.W.mroIn K C (.type "NoneType") = some false
def E00 : XK := fun _ _ _ => False
section
variable {X : Cx} {CX : CXT} {n : Nat} {C f : Addr} {fd : FuncData} {ps : List Str} {sp : Sp}
theorem own_run {A : Around} {pins : List (Addr × Obj)} {σ : St} {H : Hp} {s : Shared} {a : Addr} {y : V} {v : Value} {Q : Bool → Hp → Prop} (F : FnOk X.prog X.w X.K X.mg X.base CX n f fd ps sp) (sb : Sub X n A) (hb : Binds X.K fd ps []) (hx : Passes CX X E00) (I : Inv X pins σ H s) (ry : RelV y v)
    (h : sp [.ref a, y] H (fun r G => ∃ b, r = .bl b ∧ Q b G) E00) : wpAny (model X.prog X.w) A (call (.ref f) [.ref a, v]) (fun r s' => ∃ b, r = .bool b ∧ ∃ G, Inv X pins σ G s' ∧ Q b G) X.xe s := by
  have env := I.env0
  have e0 : Env0 X.prog X.w X.K X.mg X.base A X.stack s H := ⟨sb.fr ▸ env.frames, env.mod, env.bs, env.bsz, env.funs, env.frf, env.hok, env.bare⟩
  have hl := F.len _ _ _ _ h
  have r2 : Vals [V.ref a, y] [Value.ref a, v] := .cons rfl (.cons ry .nil)
  refine wpAny_call (codeAny_mono (F.run A X.stack s H ⟨[.ref a, v], []⟩ [.ref a, v] [.ref a, y] _ E00 sb.room e0 (by
    have := hb s [.ref a, v] I.kIn (by simpa using hl)
    simpa using this) r2 h) fun r s' hq => ?_)
  cases r with
  | error er => exact hx pins σ H s er s' I hq
  | ok fl =>
    cases fl with
    | ret w =>
      obtain ⟨z, H', I', rz, b, ez, ex⟩ := I.after hq
      subst ez
      cases rz
      exact ⟨b, rfl, H', I', ex⟩
    | next => exact False.elim hq
    | brk => exact False.elim hq
    | cont => exact False.elim hq
/-- a == b of two instances, by their own == -/
def rEqO (C : Addr) (sp : Sp) : R2 := fun x y H Q => ∃ a b dx dy fs gs, x = .ref a ∧ y = .ref b ∧ H a = some (.ins C dx fs) ∧ H b = some (.ins C dy gs) ∧ sp [.ref a, .ref b] H (fun r G => ∃ b, r = .bl b ∧ Q (.bl b) G) E00
theorem op_eqO (F : FnOk X.prog X.w X.K X.mg X.base CX n f fd ps sp) (hr : Room n X.A) (hb : Binds X.K fd ps []) (hx : Passes CX X E00) (O : OwnE X.K C f) : OpR X (compareOp .Eq) (rEqO C sp) := by
  rintro pins s σ H _ _ v u Q I rx ry ⟨a, b, dx, dy, fs, gs, rfl, rfl, ha, hb', h⟩
  cases rx
  cases ry
  show wpAny (model X.prog X.w) X.A (richCompare .Eq (.ref a) (.ref b)) (EP X pins σ Q) X.xe s
  obtain ⟨_, Ja, _⟩ := ins_get I.hok ha
  obtain ⟨_, Jb, _⟩ := ins_get I.hok hb'
  obtain ⟨_, J, _⟩ := Ja.look
  obtain ⟨_, J', _⟩ := Jb.look
  obtain ⟨m, hF⟩ := I.fr
  refine PySem.W.cmp_K (op := .Eq) (tb := .ref C) hr.units0 hF I.ok.mod.kin J J'.type (by simp [PySem.W.notFirst]) O.eq O.fn ?_
  refine wpAny_mono (own_run (Q := fun b G => Q (.bl b) G) F ⟨hr, rfl⟩ hb hx I (y := .ref b) rfl h) (fun r s' hq => ?_) fun _ _ e => e
  obtain ⟨b, rfl, G, I', q⟩ := hq
  exact ⟨.bl b, G, I', rfl, q⟩
/-- a != b -/
def rNeO (C : Addr) (sp : Sp) : R2 := fun x y H Q => ∃ a b dx dy fs gs, x = .ref a ∧ y = .ref b ∧ H a = some (.ins C dx fs) ∧ H b = some (.ins C dy gs) ∧ sp [.ref a, .ref b] H (fun r G => ∃ b, r = .bl b ∧ Q (.bl (!b)) G) E00
theorem op_neO (F : FnOk X.prog X.w X.K X.mg X.base CX n f fd ps sp) (hr : Room (n + 1) X.A) (hu : X.A.units + 1 < cLine) (hb : Binds X.K fd ps []) (hx : Passes CX X E00) (O : OwnE X.K C f) : OpR X (compareOp .NotEq) (rNeO C sp) := by
  rintro pins s σ H _ _ v u Q I rx ry ⟨a, b, dx, dy, fs, gs, rfl, rfl, ha, hb', h⟩
  cases rx
  cases ry
  show wpAny (model X.prog X.w) X.A (richCompare .NotEq (.ref a) (.ref b)) (EP X pins σ Q) X.xe s
  obtain ⟨_, Ja, _⟩ := ins_get I.hok ha
  obtain ⟨_, Jb, _⟩ := ins_get I.hok hb'
  obtain ⟨_, J, _⟩ := Ja.look
  obtain ⟨_, J', _⟩ := Jb.look
  refine GQ.rc_ne hu I.kIn J J' O.ne O.ob O.eq O.fn ?_
  refine wpAny_mono (own_run (A := X.A.in1) (Q := fun b G => Q (.bl (!b)) G) F (Sub.in1 ⟨hr, rfl⟩) hb hx I (y := .ref b) rfl h) (fun r s' hq => ?_) fun _ _ e => e
  obtain ⟨b, rfl, G, I', q⟩ := hq
  exact ⟨b, rfl, .bl (!b), G, I', rfl, q⟩
/-- a in l, the items texts, tuples and Nones -/
def OddV (K : PySem.W.Frag) (H : Hp) (u : V) : Prop := (∃ z, u = .str z) ∨ u = .non ∨ ∃ t xs, u = .ref t ∧ SqT K H t xs
def rInO (K : PySem.W.Frag) (C : Addr) (sp : Sp) : R2 := fun x y H Q => ∃ a l dx fs ys, x = .ref a ∧ y = .ref l ∧ H a = some (.ins C dx fs) ∧ H l = some (.lst ys) ∧ (∀ u ∈ ys, OddV K H u) ∧
  (∀ u ∈ ys, ∀ G, Ext H G → sp [.ref a, u] G (fun r G' => ∃ b, r = .bl b ∧ b = false ∧ Ext G G') E00) ∧ ∀ G, Ext H G → Q (.bl false) G
theorem op_inO (F : FnOk X.prog X.w X.K X.mg X.base CX n f fd ps sp) (hr : Room (n + 1) X.A) (hu : X.A.units + 1 < cLine) (hb : Binds X.K fd ps []) (hx : Passes CX X E00) (O : OwnE X.K C f) : OpR X (compareOp .In) (rInO X.K C sp) := by
  rintro pins s σ H _ _ v u Q I rx ry ⟨a, l, dx, fs, ys, rfl, rfl, ha, hl, odd, h, q⟩
  cases rx
  cases ry
  refine GQ.in_noneG (N := ys.length) (fun s' => ∃ G, Inv X pins σ G s' ∧ Ext H G) (fun s' ⟨G, J, e⟩ => ?_) (fun s' ⟨G, J, e⟩ => ⟨.bl false, G, J, rfl, q G e⟩) ⟨H, I, Ext.rfl'⟩
  obtain ⟨z, its, k, r, ob⟩ := J.hok l _ (e _ _ hl)
  refine ⟨its.toArray, k, ob, by rw [List.size_toArray, ← r.length], fun i hi => ?_⟩
  have k1 : i < ys.length := by rw [r.length]; simpa using hi
  obtain ⟨w0, hw, rw0⟩ := r.get (List.getElem?_eq_getElem k1)
  have inside : i < its.length := by simpa using hi
  have g1 : its[i]? = some (its.toArray[i]) := by
    have h1' := inside
    rw [List.getElem?_eq_getElem h1'] ; all_goals simp
  rw [g1] at hw
  rw [Option.some.inj hw]
  have mem : ys[i] ∈ ys := List.getElem_mem k1
  have sb : Sub X n X.A.in1 := Sub.in1 ⟨hr, rfl⟩
  have run := own_run (A := X.A.in1) (Q := fun b G' => b = false ∧ Ext G G') F sb hb hx J rw0 (h _ mem G e)
  obtain ⟨mA, Ja, _⟩ := ins_get J.hok (e _ _ ha)
  have hax := Ja.obj
  obtain ⟨od, Ja, _⟩ := Ja.look
  have back : ∀ (r : Value) (s2 : Shared), (∃ b, r = .bool b ∧ ∃ G', Inv X pins σ G' s2 ∧ b = false ∧ Ext G G') → PySem.W.CmpBack (fun v s' => ∃ b, v = .bool b ∧ b = false ∧ ∃ G, Inv X pins σ G s' ∧ Ext H G) r s2 := fun r s2 ⟨b, er, G', J', eb, ex⟩ => by
    subst er
    exact ⟨b, rfl, eb, G', J', e.trans ex⟩
  have fin : ∀ {u : Value}, wpAny (model X.prog X.w) X.A.in1 (richCompare .Eq u (.ref a)) (fun v s' => ∃ b, v = .bool b ∧ b = false ∧ ∃ G, Inv X pins σ G s' ∧ Ext H G) X.xe s' → u ≠ .ref a → (∀ b t, u ≠ .float b t) →
      wpAny (model X.prog X.w) X.A.in1 (eqBool u (.ref a)) (fun r s' => r = false ∧ ∃ G, Inv X pins σ G s' ∧ Ext H G) X.xe s' := fun {u} hh ne nf => by
    unfold eqBool
    refine wpAny_holding ?_
    refine wpAny_ite_split (fun hab => absurd (eq_of_beq hab) ne) (fun _ => ?_)
    split
    · rename_i h1
      exact absurd (congrArg Prod.fst h1) (nf _ _)
    · refine wpAny_bind (wpAny_mono hh (fun v s' hv => ?_) fun _ _ x => x)
      obtain ⟨b, rfl, rfl, q⟩ := hv
      exact wpAny_truthy_bool ⟨rfl, q⟩
  have ux : X.A.in1.units < cLine := sb.room.units0
  generalize hy : ys[i] = yi at *
  rcases odd _ mem with ⟨z, rfl⟩ | rfl | ⟨t, xs, rfl, ht⟩
  · obtain ⟨tk, rfl⟩ := rw0
    refine fin (GQ.rc_decl (typeIs_str s' z tk) J.kIn Ja O.st PySem.F.slot_str_eq ux (fun Q' q' => GQ.str_eq_no hax q') O.eq O.fn (wpAny_mono run back fun _ _ e => e)) (fun z => nomatch z) (fun _ _ z => nomatch z)
  · cases (show w0 = Value.none from rw0)
    refine fin (GQ.rc_decl (typeIs_none s') J.kIn Ja O.no PySem.F.slot_NoneType_eq ux (fun Q' q' => GQ.none_eq_no q') O.eq O.fn (wpAny_mono run back fun _ _ e => e)) (fun z => nomatch z) (fun _ _ z => nomatch z)
  · cases (show w0 = Value.ref t from rw0)
    obtain ⟨its2, r2, ⟨o2, here, c2, m2, d2⟩, _⟩ := J.tuple (ht.ext e)
    have ne : (Value.ref t) ≠ .ref a := fun z => by
      have : t = a := Value.ref.inj z
      subst this
      rw [hax] at here
      cases here
      cases c2
    refine fin (GQ.rc_decl (Ta := "tuple") ⟨o2, here, c2⟩ J.kIn Ja O.tu PySem.F.slot_tuple_eq ux (fun Q' q' => GQ.tup_eq_no here c2 Ja.type (PySem.W.looks_mroIn J.kIn O.tu) q') O.eq O.fn (wpAny_mono run back fun _ _ e => e)) ne (fun _ _ z => nomatch z)
end
/-! ### C(e, ..) that may raise, in a try -/
section
variable {X : Cx} {CX : CXT} {k : Nat} {f C : Addr} {fd : FuncData} {ps : List Str} {sp : Sp} {E : St → XK} {x : Str} {p pos : Pos} {e : Expr} {es : List Expr} {t : TA}
def tMakeS (C : Addr) (sp : Sp) (E : St → XK) (t : TA) : TE := fun σ H Q => t σ H fun vs H1 => ∀ x dx, H1 x = none → H1 dx = none → dx ≠ x →
  sp (.ref x :: vs) (upd (upd H1 dx (.own x)) x (.ins C dx [])) (fun v H2 => v = .non ∧ Q (.ref x) H2) (E σ)
theorem pe_makeS (M : Mk X.K C f) (F : FnOk X.prog X.w X.K X.mg X.base CX k f fd ps sp) (hr : Room (k + 1) X.A) (hg : Gl X x) (hm : X.mg x = some (.ref C)) (hb : Binds X.K fd ps []) (hx : ∀ σ, PassesAt CX X σ (E σ))
    (args : PA X (e :: es) t) (hdb : (x == ("__debug__" : Str)) = false := by decide) (he : starEach (e :: es) X.env = (false, eval e X.env) :: starEach es X.env := by rfl) (hpl : (backTo pos (starEach es X.env)).any (·.1) = false := by rfl) :
    PE X (.Call (.Name x p) (e :: es) [] pos) (tMakeS C sp E t) := by
  refine ⟨fun pins s σ H Q I h => ?_⟩
  refine wpAny_Call_Name_kw (ld_glob I hg hm (PySem.W.callWith_K (h₀ := X.base) I.ok.mod.kin M.kp (thn (args.run pos pins s σ H _ I h) fun us s1 ⟨vs, H1, I1, r, q⟩ => ⟨I1.kIn, ?_⟩) he hpl) hdb)
  have hq := q (s1.heap.objs.size + 1) s1.heap.objs.size (I1.hok.fresh (Nat.le_succ _)) (I1.hok.fresh (Nat.le_refl _)) (Nat.ne_of_lt (Nat.lt_succ_self _))
  have I2 := Inv.made (C := C) I1
  have r2 : Vals (V.ref (s1.heap.objs.size + 1) :: vs) (Value.ref (s1.heap.objs.size + 1) :: us) := .cons rfl r
  have hl : (Value.ref (s1.heap.objs.size + 1) :: us ++ []).length = ps.length := by
    have e := r2.length
    rw [F.len _ _ _ _ hq] at e
    rw [List.append_nil]
    exact e.symm
  refine wpAny_call (make_map (f := f) I1.kIn M.makes M.init (beq_iff_eq.mp M.fn) (codeAny_mono (F.run _ X.stack _ _ ⟨Value.ref (s1.heap.objs.size + 1) :: us, []⟩ (Value.ref (s1.heap.objs.size + 1) :: us) _ _ (E σ) (hr.make C us [])
    (I2.env0.make C us []) (by
      have := hb _ (Value.ref (s1.heap.objs.size + 1) :: us) I2.kIn hl
      rw [List.append_nil] at this
      exact this) r2 hq) fun r s' hq' => ?_))
  cases r with
  | error e => exact hx σ pins _ _ e s' I2 hq'
  | ok fl =>
    cases fl with
    | ret u =>
      obtain ⟨_, H', I3, rv, ev, q3⟩ := I2.after hq'
      subst ev
      exact ⟨rv, ⟨V.ref (s1.heap.objs.size + 1), H', I3, rfl, q3⟩⟩
    | next => exact hq'.elim
    | brk => exact False.elim hq'
    | cont => exact hq'.elim
end
end L2

set_option Elab.async false
set_option linter.all false
set_option maxRecDepth 100000
set_option maxHeartbeats 2000000
namespace L2
open PySem PySem.Spec PyProof.Rows
/-- what the written part says of an own error class -/
structure ErrC (K : PySem.W.Frag) (D : Addr) : Prop where
  ox : OexC K D
  xf : XfC K D
  cA : PySem.W.findIn K (.ref D) "__class__" = some (some (.builtin "object.__class__"))
  cG : PySem.W.specialIn K (.builtin "object.__class__") "__get__" = some (some (.builtin "getset_descriptor.__get__")) ∧ PySem.W.takesIn K (.builtin "object.__class__") = some true
  cM : PySem.W.mroIn K D (.type "object") = some true
theorem ErrC.kit {K : PySem.W.Frag} {D : Addr} (T : ErrC K D) {a : Addr} {ox : Obj} {od : Option Obj} : PySem.W.KitX K (.ref a) (.ref D) (fun h => PySem.W.InstAt h a ox D od) := by
  have some_ : (PySem.W.clsIn K D).isSome = true := by
    rcases T.ox.cls with ⟨_, _, _, _, _, _, _, _, _, _, _, _, _, _, _, look, _⟩
    unfold PySem.W.clsIn
    rw [look] <;> rfl
  exact PySem.W.kitx_exc some_ T.xf.ga T.xf.gg T.xf.exC T.cA T.cG.1 T.cG.2 T.cM
/-- isinstance(e, c), e the error that the suite holds, with a dict -/
def rIsES (K : PySem.W.Frag) (cls : Value) (d : Option Addr) (a : Addr) : List V → Hp → VK → Prop := fun vs G Q => ∃ (D dd : Addr) (fs : List (Str × V)) (c : V) (cv : Value) (b : Bool), vs = [.ref a, c] ∧ cls = .ref D ∧ d = some dd ∧ G dd = some (.xd fs) ∧ ClsV c cv ∧ ErrC K D ∧ PySem.W.kitOne K (.ref D) cv = some b ∧ Q (.bl b) G
theorem call_isES {X : Cx} {a : Addr} {cls : Value} {d : Option Addr} {oe : Obj} {pn : List (Addr × Obj)} (z : Zc cls d oe) (df : ∃ fv, oe.data = .fields fv) : CallR (X.suite a ((a, oe) :: pn)) (.builtin "isinstance") (rIsES X.K cls d a) := by
  rintro pins s σ G _ us Q I r ⟨D, dd, fs, c, cv, b, rfl, rfl, rfl, ed, k, T, ans, q⟩
  rcases vals2 r with ⟨v, v', rfl, rfl, rc⟩
  obtain rfl := k.eq rc
  have pin := (I.pin (a, oe) (List.mem_append_left _ List.mem_cons_self)).1
  obtain ⟨fv, f⟩ := df
  obtain ⟨mA, ns, _⟩ := (show ObjOk X.prog X.w G s.heap dd (.xd fs) from I.hok dd _ ed)
  obtain ⟨od, hod, _⟩ := lookIn_ns ns
  have inst : PySem.W.InstAt s.heap a oe D (some od) := ⟨pin, z.1, by unfold PySem.W.notCls; rw [f] <;> rfl, by rw [z.2]; exact hod⟩
  exact PySem.W.kia_one (T.kit (ox := oe) (od := some od)) I.kIn inst ans (fun z => nomatch z) fun tk => ⟨.bl b, G, I.tok tk, rfl, q⟩
end L2

namespace K03
open PySem L2
abbrev sBadInit : Stmt := inClass (top 7) 0
/-- the making of an error with a field -/
def spBad (K : PySem.W.Frag) (C : Addr) : Sp := fun vs H Q _ => ∃ (a : Addr) (y : V), vs = [.ref a, y] ∧ H a = some (exo a C none) ∧ ∀ dx, H dx = none → dx ≠ a → Q .non (upd (upd H dx (exd dx [(("part" : Str), y)])) a (exo a C (some dx)))
/-- BadLot as the text has it -/
structure BadT (K : PySem.W.Frag) (mg : Str → Option Value) (CB fB : Addr) (fdB : FuncData) : Prop where
  err : ErrC K CB
  no : PySem.W.findIn K (.ref CB) "part" = some none
  m : mg "BadLot" = some (.ref CB)
  F : Fun K "__init__" "BadLot.__init__" sBadInit fB fdB
  b : Binds K fdB ["self", "part"] []
  i : PySem.W.findIn K (.ref CB) "__init__" = some (some (.ref fB))
  t : PySem.W.typeIn K (.ref fB) = some (.type "function")
section
variable {P : Program} {w : World} {K : PySem.W.Frag} {mg : Str → Option Value} {base : Heap}
theorem scBad : FnScope ["self", "part"] ["self", "part"] (defScope sBadInit) := ⟨rfl, rfl, rfl, by decide +kernel, rfl, by decide +kernel, by decide +kernel⟩
theorem ok_bad {f C : Addr} {fd : FuncData} (F : Fun K "__init__" "BadLot.__init__" sBadInit f fd) (T : OexC K C) (hno : PySem.W.findIn K (.ref C) "part" = some none) : FnOk P w K mg base CX0 1 f fd ["self", "part"] (spBad K C) := by
  refine F.ok scBad (fun vs H Q E h => ?_) (fun cdv A outer s H vs Q E hr h => ?_)
  · obtain ⟨a, y, rfl, _⟩ := h
    rfl
  · obtain ⟨a, y, rfl, ha, k⟩ := h
    refine ⟨_, pss_one (ps_ost (pv 0) (pv 1)), ?_⟩
    exact ⟨_, rfl, _, rfl, a, C, rfl, T, hno, .inl ⟨ha, k⟩⟩
end
end K03

set_option Elab.async false
set_option linter.all false
namespace K03
/-! ### sums of numbers, each as often as one likes: mathematics alone -/
inductive Sm (M : List Nat) : Nat → Prop
  | zero : Sm M 0
  | add {n m : Nat} : Sm M n → m ∈ M → Sm M (n + m)
theorem Sm.mono {M M' : List Nat} (h : ∀ m ∈ M, m ∈ M') {n : Nat} (s : Sm M n) : Sm M' n := by
  induction s with
  | zero => exact .zero
  | add _ hm ih => exact .add ih (h _ hm)
theorem Sm.plus {M : List Nat} {x y : Nat} (hx : Sm M x) (hy : Sm M y) : Sm M (x + y) := by
  induction hy with
  | zero => exact hx
  | add _ hm ih => rw [← Nat.add_assoc]; exact .add ih hm
theorem Sm.one {M : List Nat} {m : Nat} (h : m ∈ M) : Sm M m := by
  have := Sm.add (.zero : Sm M 0) h
  rwa [Nat.zero_add] at this
/-! ### least sums, None for none -/
def leO (x y : Option Nat) : Prop := ∀ v, y = some v → ∃ u, x = some u ∧ u ≤ v
def addO (x : Option Nat) (m : Nat) : Option Nat := x.map (· + m)
def lesser : Option Nat → Option Nat → Option Nat
  | none, o => o
  | some t, some o => if o < t then some o else some t
  | some t, none => some t
theorem leO.refl (x : Option Nat) : leO x x := fun v h => ⟨v, h, Nat.le_refl _⟩
theorem leO.trans {x y z : Option Nat} (h : leO x y) (h' : leO y z) : leO x z := fun v e => by
  obtain ⟨u, eu, lu⟩ := h' v e
  obtain ⟨t, et, lt⟩ := h u eu
  exact ⟨t, et, Nat.le_trans lt lu⟩
theorem leO.add {x y : Option Nat} (h : leO x y) (m : Nat) : leO (addO x m) (addO y m) := fun v e => by
  cases y with
  | none => cases e
  | some y =>
    obtain ⟨u, eu, lu⟩ := h y rfl
    have e2 : y + m = v := Option.some.inj e
    exact ⟨u + m, by rw [eu]; rfl, by omega⟩
theorem addO_addO (x : Option Nat) (m n : Nat) : addO (addO x m) n = addO x (m + n) := by
  cases x with
  | none => rfl
  | some x => show some (x + m + n) = some (x + (m + n)); rw [Nat.add_assoc]
theorem leO_addO (x : Option Nat) (m : Nat) : leO x (addO x m) := fun v e => by
  cases x with
  | none => cases e
  | some x =>
    have e2 : x + m = v := Option.some.inj e
    exact ⟨x, rfl, by omega⟩
theorem addO_zero (x : Option Nat) : addO x 0 = x := by cases x <;> rfl
theorem lesser_l (t o : Option Nat) : leO (lesser t o) t := fun v e => by
  subst e
  cases o with
  | none => exact ⟨v, rfl, Nat.le_refl _⟩
  | some o =>
    by_cases h : o < v
    · exact ⟨o, by simp [lesser, h], Nat.le_of_lt h⟩
    · exact ⟨v, by simp [lesser, h], Nat.le_refl _⟩
theorem lesser_r (t o : Option Nat) : leO (lesser t o) o := fun v e => by
  cases t with
  | none => exact ⟨v, e, Nat.le_refl _⟩
  | some t =>
    cases e
    by_cases h : v < t
    · exact ⟨v, by simp [lesser, h], Nat.le_refl _⟩
    · exact ⟨t, by simp [lesser, h], by omega⟩
theorem lesser_or (t o : Option Nat) : lesser t o = t ∨ lesser t o = o := by
  cases t with
  | none => exact .inr rfl
  | some t =>
    cases o with
    | none => exact .inl rfl
    | some o =>
      by_cases h : o < t
      · exact .inr (by simp [lesser, h])
      · exact .inl (by simp [lesser, h])
theorem lesser_eq {t o : Option Nat} (h : leO o t) : lesser t o = o := by
  cases t with
  | none => rfl
  | some t =>
    obtain ⟨u, rfl, lu⟩ := h t rfl
    by_cases c : u < t
    · simp [lesser, c]
    · have : u = t := by omega
      simp [lesser, this]
/-! ### one ring -/
def updF (L : Nat → Option Nat) (k : Nat) (v : Option Nat) : Nat → Option Nat := fun j => if j = k then v else L j
theorem updF_same {L : Nat → Option Nat} {k : Nat} {v : Option Nat} : updF L k v k = v := by simp [updF]
theorem updF_ne {L : Nat → Option Nat} {k j : Nat} {v : Option Nat} (h : j ≠ k) : updF L k v j = L j := by simp [updF, h]
theorem updF_self {L : Nat → Option Nat} {k : Nat} : updF L k (L k) = L := by
  funext j
  by_cases h : j = k
  · rw [h, updF_same]
  · exact updF_ne h
def At (a m start i : Nat) : Nat := (start + i * m) % a
def run (a m start : Nat) (L : Nat → Option Nat) : Nat → (Nat → Option Nat) × Option Nat
  | 0 => (L, L start)
  | i + 1 => (updF (run a m start L i).1 (At a m start (i + 1)) (lesser (addO (run a m start L i).2 m) ((run a m start L i).1 (At a m start (i + 1)))), lesser (addO (run a m start L i).2 m) ((run a m start L i).1 (At a m start (i + 1))))
theorem at_next {a m start i : Nat} : (At a m start i + m) % a = At a m start (i + 1) := by
  unfold At
  rw [Nat.mod_add_mod, Nat.succ_mul, Nat.add_assoc]
section
variable {a m start : Nat} {L : Nat → Option Nat}
theorem run_cur (hs : start < a) : ∀ i, (run a m start L i).2 = (run a m start L i).1 (At a m start i)
  | 0 => by
    show L start = L ((start + 0 * m) % a)
    rw [Nat.zero_mul, Nat.add_zero, Nat.mod_eq_of_lt hs]
  | i + 1 => updF_same.symm
theorem run_le (k : Nat) : ∀ i, leO ((run a m start L i).1 k) (L k)
  | 0 => .refl _
  | i + 1 => by
    show leO (updF _ _ _ k) (L k)
    by_cases h : k = At a m start (i + 1)
    · rw [h, updF_same]
      rw [← h]
      exact (lesser_r _ _).trans (run_le k i)
    · rw [updF_ne h]
      exact run_le k i
theorem run_off {k : Nat} : ∀ i, (∀ j, 1 ≤ j → j ≤ i → At a m start j ≠ k) → (run a m start L i).1 k = L k
  | 0, _ => rfl
  | i + 1, h => by
    show updF _ _ _ k = L k
    rw [updF_ne fun z => h (i + 1) (by omega) (Nat.le_refl _) z.symm]
    exact run_off i fun j h1 h2 => h j h1 (by omega)
def Sound (a : Nat) (L : Nat → Option Nat) (M : List Nat) : Prop := ∀ k, k < a → ∀ v, L k = some v → v % a = k ∧ Sm M v
theorem run_sound {M : List Nat} (ha : 0 < a) (hm : m ∈ M) (hs : start < a) (h : Sound a L M) : ∀ i, Sound a (run a m start L i).1 M
  | 0 => h
  | i + 1 => fun k hk v e => by
    have ih := run_sound ha hm hs h i
    have e' : updF (run a m start L i).1 (At a m start (i + 1)) (lesser (addO (run a m start L i).2 m) ((run a m start L i).1 (At a m start (i + 1)))) k = some v := e
    by_cases hk2 : k = At a m start (i + 1)
    · rw [hk2, updF_same] at e'
      rcases lesser_or (addO (run a m start L i).2 m) ((run a m start L i).1 (At a m start (i + 1))) with q | q
      · rw [q, run_cur hs] at e'
        cases c : (run a m start L i).1 (At a m start i) with
        | none => rw [c] at e'; cases e'
        | some u =>
          rw [c] at e'
          have ev : u + m = v := Option.some.inj e'
          obtain ⟨h1, h2⟩ := ih (At a m start i) (Nat.mod_lt _ ha) u c
          subst ev
          refine ⟨?_, .add h2 hm⟩
          rw [hk2, ← at_next, ← h1, Nat.mod_add_mod]
      · rw [q] at e'
        rw [hk2]
        exact ih _ (Nat.mod_lt _ ha) v e'
    · rw [updF_ne hk2] at e'
      exact ih k hk v e'
/-- a step keeps a sum -/
def Tight (m : Nat) (S : Nat → Option Nat) (x y : Nat) : Prop := leO (S y) (addO (S x) m)
theorem run_first {len : Nat} (hs : start < a) (hinj : ∀ i j, 1 ≤ i → i ≤ len → 1 ≤ j → j ≤ len → At a m start i = At a m start j → i = j) : ∀ i, i ≤ len → ∀ j, 1 ≤ j → j < i → Tight m (run a m start L i).1 (At a m start j) (At a m start (j + 1))
  | 0, _, j, _, h => by omega
  | i + 1, hi, j, h1, h2 => by
    have ih := run_first hs hinj i (by omega)
    show leO (updF _ _ _ _) (addO (updF _ _ _ _) m)
    by_cases e : j = i
    · subst e
      rw [updF_same, updF_ne fun z => by have := hinj _ _ h1 (by omega) (by omega) hi z; omega, ← run_cur hs]
      exact lesser_l _ _
    · rw [updF_ne fun z => by have := hinj _ _ (by omega) (by omega) (by omega) hi z; omega, updF_ne fun z => by have := hinj _ _ h1 (by omega) (by omega) hi z; omega]
      exact ih j h1 (by omega)
/-- once round: the start is reached from each one of the ring -/
theorem run_back {len : Nat} (hs : start < a) (hinj : ∀ i j, 1 ≤ i → i ≤ len → 1 ≤ j → j ≤ len → At a m start i = At a m start j → i = j) : ∀ d j, 1 ≤ j → j + d = len → leO ((run a m start L len).1 (At a m start len)) (addO ((run a m start L len).1 (At a m start j)) (d * m))
  | 0, j, h1, h2 => by
    have : j = len := by omega
    subst this
    rw [Nat.zero_mul, addO_zero]
    exact .refl _
  | d + 1, j, h1, h2 => by
    have ih := run_back hs hinj d (j + 1) (by omega) (by omega)
    have t := run_first (L := L) hs hinj len (Nat.le_refl _) j h1 (by omega)
    refine ih.trans ?_
    have := t.add (d * m)
    rw [addO_addO] at this
    rwa [show m + d * m = (d + 1) * m by rw [Nat.succ_mul, Nat.add_comm]] at this
structure Second (a m start len : Nat) (W : Option Nat) (i : Nat) (S : Nat → Option Nat) : Prop where
  back : ∀ j, 1 ≤ j → j ≤ len → leO W (addO (S (At a m start j)) ((len - j) * m))
  end_ : S (At a m start len) = W
  done : ∀ j, j < i → Tight m S (At a m start j) (At a m start (j + 1))
  left : ∀ j, i < j → j < len → Tight m S (At a m start j) (At a m start (j + 1))
theorem run_second {len : Nat} (hs : start < a) (hl : 0 < len) (hinj : ∀ i j, 1 ≤ i → i ≤ len → 1 ≤ j → j ≤ len → At a m start i = At a m start j → i = j) (h0 : At a m start 0 = At a m start len) (hper : ∀ i, At a m start (len + i) = At a m start i) :
    ∀ i, i ≤ len → Second a m start len ((run a m start L len).1 (At a m start len)) i (run a m start L (len + i)).1
  | 0, _ => ⟨fun j h1 h2 => run_back hs hinj (len - j) j h1 (by omega), rfl, fun j h => by omega, fun j h1 h2 => run_first hs hinj len (Nat.le_refl _) j (by omega) h2⟩
  | i + 1, hi => by
    have ih := run_second hs hl hinj h0 hper i (by omega)
    have cur : (run a m start L (len + i)).2 = (run a m start L (len + i)).1 (At a m start i) := by rw [run_cur hs, hper]
    generalize hW : (run a m start L len).1 (At a m start len) = W at *
    have step : (run a m start L (len + (i + 1))).1 = updF (run a m start L (len + i)).1 (At a m start (i + 1)) (lesser (addO ((run a m start L (len + i)).1 (At a m start i)) m) ((run a m start L (len + i)).1 (At a m start (i + 1)))) := by
      show updF _ (At a m start (len + i + 1)) (lesser (addO (run a m start L (len + i)).2 m) ((run a m start L (len + i)).1 (At a m start (len + i + 1)))) = _
      rw [cur, Nat.add_assoc, hper]
      rfl
    rw [step]
    generalize (run a m start L (len + i)).1 = S at *
    -- from where one comes, the start is no lesser
    have low : leO W (addO (addO (S (At a m start i)) m) ((len - (i + 1)) * m)) := by
      rw [addO_addO]
      obtain z | z := Nat.eq_zero_or_pos i
      · subst z
        rw [h0, ih.end_]
        exact leO_addO _ _
      · have := ih.back i z (by omega)
        rwa [show m + (len - (i + 1)) * m = (len - i) * m by
          have : len - i = (len - (i + 1)) + 1 := by omega
          rw [this, Nat.succ_mul, Nat.add_comm]]
    by_cases c : i + 1 = len
    · have e1 : lesser (addO (S (At a m start i)) m) (S (At a m start (i + 1))) = S (At a m start (i + 1)) := by
        refine lesser_eq ?_
        rw [c, ih.end_]
        rw [c, Nat.sub_self, Nat.zero_mul, addO_zero] at low
        exact low
      rw [e1, updF_self]
      refine ⟨ih.back, ih.end_, fun j hj => ?_, fun j h1 h2 => by omega⟩
      by_cases e : j = i
      · subst e
        have := lesser_l (addO (S (At a m start j)) m) (S (At a m start (j + 1)))
        rwa [e1] at this
      · exact ih.done j (by omega)
    · have ne : ∀ j, 1 ≤ j → j ≤ len → j ≠ i + 1 → At a m start j ≠ At a m start (i + 1) := fun j h1 h2 h3 z => h3 (hinj _ _ h1 h2 (by omega) hi z)
      have n0 : At a m start 0 ≠ At a m start (i + 1) := by rw [h0]; exact ne len hl (Nat.le_refl _) (by omega)
      refine ⟨fun j h1 h2 => ?_, ?_, fun j hj => ?_, fun j h1 h2 => ?_⟩
      · by_cases e : j = i + 1
        · subst e
          rw [updF_same]
          rcases lesser_or (addO (S (At a m start i)) m) (S (At a m start (i + 1))) with q | q
          · rw [q]; exact low
          · rw [q]; exact ih.back _ h1 h2
        · rw [updF_ne (ne j h1 h2 e)]; exact ih.back j h1 h2
      · rw [updF_ne (ne len hl (Nat.le_refl _) (by omega))]; exact ih.end_
      · show leO (updF _ _ _ _) (addO (updF _ _ _ _) m)
        have nj : At a m start j ≠ At a m start (i + 1) := by
          rcases Nat.eq_zero_or_pos j with z | z
          · subst z; exact n0
          · exact ne j z (by omega) (by omega)
        rw [updF_ne nj]
        by_cases e : j = i
        · subst e
          rw [updF_same]
          exact lesser_l _ _
        · rw [updF_ne (ne (j + 1) (by omega) (by omega) (by omega))]
          exact ih.done j (by omega)
      · show leO (updF _ _ _ _) (addO (updF _ _ _ _) m)
        rw [updF_ne (ne j (by omega) (by omega) (by omega)), updF_ne (ne (j + 1) (by omega) (by omega) (by omega))]
        exact ih.left j (by omega) h2
end
/-! ### the rings of one number -/
theorem bezout : ∀ m n : Nat, ∃ u v : Int, u * (m : Int) + v * (n : Int) = ((Nat.gcd m n : Nat) : Int) := fun m n => by
  induction m, n using Nat.gcd.induction with
  | H0 n => exact ⟨0, 1, by simp⟩
  | H1 m n hm ih =>
    obtain ⟨u, v, e⟩ := ih
    refine ⟨v - u * ((n / m : Nat) : Int), u, ?_⟩
    rw [Nat.gcd_rec, ← e]
    have h : (n : Int) = (m : Int) * ((n / m : Nat) : Int) + ((n % m : Nat) : Int) := by
      have := Nat.div_add_mod n m
      omega
    generalize ((n / m : Nat) : Int) = d at *
    generalize ((n % m : Nat) : Int) = r at *
    rw [h, Int.sub_mul, Int.mul_add]
    have : u * d * (m : Int) = u * ((m : Int) * d) := by rw [Int.mul_assoc, Int.mul_comm d]
    omega
section
variable {a m : Nat}
/-- some number of times m leaves the greatest common divisor behind -/
theorem times_gcd (ha : 0 < a) : ∃ x : Nat, (x * m) % a = (Nat.gcd a m) % a := by
  obtain ⟨u, v, e⟩ := bezout a m
  refine ⟨(v % (a : Int)).toNat, ?_⟩
  have h0 : 0 ≤ v % (a : Int) := Int.emod_nonneg _ (by omega)
  have e1 : (((v % (a : Int)).toNat : Nat) : Int) = v % (a : Int) := Int.toNat_of_nonneg h0
  have : ((((v % (a : Int)).toNat * m) % a : Nat) : Int) = ((Nat.gcd a m % a : Nat) : Int) := by
    rw [Int.natCast_emod, Int.natCast_mul, e1, Int.natCast_emod, ← e, Int.add_comm, Int.mul_comm u, Int.add_mul_emod_self_left, Int.mul_emod, Int.emod_emod_of_dvd _ (Int.dvd_refl _), ← Int.mul_emod]
  exact Int.ofNat.inj this
variable {g len : Nat}
theorem at_shift (ha : a = g * len) (hm : g ∣ m) (start i : Nat) : At a m start (len + i) = At a m start i := by
  obtain ⟨k, rfl⟩ := hm
  unfold At
  rw [show start + (len + i) * (g * k) = start + i * (g * k) + k * (g * len) by
    rw [Nat.add_mul, Nat.mul_comm len, Nat.mul_assoc g, Nat.mul_comm k len, Nat.mul_left_comm k g len, Nat.mul_comm k len]; omega, ← ha, Nat.add_mul_mod_self_right]
theorem at_inj (hg : g = Nat.gcd a m) (ha0 : 0 < a) (ha : a = g * len) {start i j : Nat} (hi : i ≤ j) (hj : j < len + i) (h : At a m start i = At a m start j) : i = j := by
  have gp : 0 < g := by rw [hg]; exact Nat.gcd_pos_of_pos_left _ ha0
  obtain ⟨k, hk⟩ : g ∣ m := by rw [hg]; exact Nat.gcd_dvd_right _ _
  have d : a ∣ (start + j * m) - (start + i * m) := Nat.dvd_of_mod_eq_zero (Nat.sub_mod_eq_zero_of_mod_eq h.symm)
  have e : (start + j * m) - (start + i * m) = (j - i) * m := by rw [Nat.sub_mul]; omega
  rw [e] at d
  have cp : Nat.Coprime len k := by
    have := Nat.coprime_div_gcd_div_gcd (m := a) (n := m) (by rw [← hg]; exact gp)
    rw [← hg, ha, hk, Nat.mul_div_cancel_left _ gp, Nat.mul_div_cancel_left _ gp] at this
    exact this
  have d2 : len ∣ j - i := by
    refine Nat.Coprime.dvd_of_dvd_mul_right cp ?_
    rw [ha, hk, Nat.mul_left_comm] at d
    exact Nat.dvd_of_mul_dvd_mul_left gp d
  rcases Nat.eq_zero_or_pos (j - i) with z | z
  · omega
  · have := Nat.le_of_dvd z d2
    omega
theorem at_mod (hg : g = Nat.gcd a m) (start i : Nat) : At a m start i % g = start % g := by
  have h1 : g ∣ a := by rw [hg]; exact Nat.gcd_dvd_left _ _
  obtain ⟨k, hk⟩ : g ∣ m := by rw [hg]; exact Nat.gcd_dvd_right _ _
  unfold At
  rw [Nat.mod_mod_of_dvd _ h1, hk, Nat.mul_left_comm, Nat.add_mul_mod_self_left]
/-- each number stands in its ring -/
theorem at_onto (hg : g = Nat.gcd a m) (ha0 : 0 < a) (ha : a = g * len) {start k : Nat} (hs : start < g) (hk : k < a) (h : k % g = start) : ∃ j, j < len ∧ At a m start j = k := by
  have gp : 0 < g := by omega
  have hm : g ∣ m := by rw [hg]; exact Nat.gcd_dvd_right _ _
  have lp : 0 < len := by
    rcases Nat.eq_zero_or_pos len with z | z
    · rw [z, Nat.mul_zero] at ha; omega
    · exact z
  obtain ⟨x, hx⟩ := times_gcd (m := m) ha0
  rw [← hg] at hx
  have e1 : At a m start ((k / g) * x) = k := by
    unfold At
    rw [Nat.mul_assoc, Nat.add_mod, Nat.mul_mod, hx, ← Nat.mul_mod, ← Nat.add_mod]
    have := Nat.div_add_mod k g
    rw [h, Nat.mul_comm] at this
    rw [Nat.add_comm, this, Nat.mod_eq_of_lt hk]
  have red : ∀ n, At a m start n = At a m start (n % len) := fun n => by
    have := Nat.div_add_mod n len
    generalize n / len = q at this
    generalize n % len = r at *
    subst this
    induction q with
    | zero => rw [Nat.mul_zero, Nat.zero_add]
    | succ q ih => rw [Nat.mul_succ, Nat.add_comm (len * q), Nat.add_assoc, at_shift ha hm, ih]
  exact ⟨_, Nat.mod_lt _ lp, by rw [← red, e1]⟩
end
end K03

set_option Elab.async false
set_option linter.all false
namespace K03
/-! ### one maker more -/
def widen (a m len : Nat) (L : Nat → Option Nat) : Nat → Nat → Option Nat
  | 0 => L
  | r + 1 => (run a m r (widen a m len L r) (len + len)).1
structure Wide (a m g : Nat) (L : Nat → Option Nat) (r : Nat) (S : Nat → Option Nat) : Prop where
  le : ∀ k, leO (S k) (L k)
  tight : ∀ k, k < a → k % g < r → Tight m S k ((k + m) % a)
theorem widen_ok {a m g len : Nat} {L : Nat → Option Nat} (hg : g = Nat.gcd a m) (ha0 : 0 < a) (ha : a = g * len) : ∀ r, r ≤ g → Wide a m g L r (widen a m len L r)
  | 0, _ => ⟨fun k => .refl _, fun k _ h => by omega⟩
  | r + 1, hr => by
    have ih := widen_ok (L := L) hg ha0 ha r (by omega)
    have hm : g ∣ m := by rw [hg]; exact Nat.gcd_dvd_right _ _
    have lp : 0 < len := by
      rcases Nat.eq_zero_or_pos len with z | z
      · rw [z, Nat.mul_zero] at ha; omega
      · exact z
    have ga : g ≤ a := by rw [ha]; exact Nat.le_mul_of_pos_right _ lp
    have hs : r < a := by omega
    have hper : ∀ i, At a m r (len + i) = At a m r i := at_shift ha hm r
    have h0 : At a m r 0 = At a m r len := (hper 0).symm
    have hinj : ∀ i j, 1 ≤ i → i ≤ len → 1 ≤ j → j ≤ len → At a m r i = At a m r j → i = j := fun i j h1 h2 h3 h4 e => by
      rcases Nat.le_total i j with c | c
      · exact at_inj hg ha0 ha c (by omega) e
      · exact (at_inj hg ha0 ha c (by omega) e.symm).symm
    show Wide a m g L (r + 1) (run a m r (widen a m len L r) (len + len)).1
    have sec := run_second (L := widen a m len L r) hs lp hinj h0 hper len (Nat.le_refl _)
    refine ⟨fun k => (run_le k _).trans (ih.le k), fun k hk h => ?_⟩
    have gp : 0 < g := by omega
    by_cases c : k % g = r
    · obtain ⟨j, hj, e⟩ := at_onto hg ha0 ha (by omega) hk c
      have := sec.done j hj
      rw [← at_next, e] at this
      exact this
    · have off : ∀ x, x % g = k % g → (run a m r (widen a m len L r) (len + len)).1 x = widen a m len L r x := fun x hx => by
        refine run_off _ fun j _ _ z => c ?_
        rw [← hx, ← z, at_mod hg, Nat.mod_eq_of_lt (by omega)]
      have h1 : g ∣ a := by rw [hg]; exact Nat.gcd_dvd_left _ _
      have e2 : ((k + m) % a) % g = k % g := by
        obtain ⟨q, hq⟩ := hm
        rw [Nat.mod_mod_of_dvd _ h1, hq, Nat.add_mul_mod_self_left]
      show leO _ (addO _ m)
      rw [off _ e2, off _ rfl]
      exact ih.tight k hk (by omega)
theorem widen_sound {a m len : Nat} {L : Nat → Option Nat} {M : List Nat} (ha0 : 0 < a) (hm : m ∈ M) (h : Sound a L M) : ∀ r, r ≤ a → Sound a (widen a m len L r) M
  | 0, _ => h
  | r + 1, hr => run_sound ha0 hm (by omega) (widen_sound ha0 hm h r (by omega)) _
/-! ### what is a sum -/
def hasB (a : Nat) (L : Nat → Option Nat) (n : Nat) : Bool := match L (n % a) with
  | none => false
  | some v => decide (v ≤ n)
theorem hasB_iff {a : Nat} {L : Nat → Option Nat} {n : Nat} : hasB a L n = true ↔ ∃ v, L (n % a) = some v ∧ v ≤ n := by
  unfold hasB
  cases h : L (n % a) with
  | none => simp
  | some v => simp
structure SumsOk (a : Nat) (L : Nat → Option Nat) (M : List Nat) : Prop where
  pos : 0 < a
  mem : a ∈ M
  sound : Sound a L M
  full : ∀ n, Sm M n → hasB a L n = true
theorem Sm.times {M : List Nat} {m : Nat} (h : m ∈ M) : ∀ j, Sm M (j * m)
  | 0 => by rw [Nat.zero_mul]; exact .zero
  | j + 1 => by rw [Nat.succ_mul]; exact .add (Sm.times h j) h
theorem SumsOk.has {a : Nat} {L : Nat → Option Nat} {M : List Nat} (h : SumsOk a L M) (n : Nat) : hasB a L n = true ↔ Sm M n := by
  refine ⟨fun e => ?_, h.full n⟩
  obtain ⟨v, e1, l⟩ := hasB_iff.mp e
  obtain ⟨h1, h2⟩ := h.sound _ (Nat.mod_lt _ h.pos) v e1
  have d : a ∣ n - v := Nat.dvd_of_mod_eq_zero (Nat.sub_mod_eq_zero_of_mod_eq h1.symm)
  obtain ⟨q, hq⟩ := d
  have : n = v + q * a := by rw [Nat.mul_comm]; omega
  rw [this]
  exact h2.plus (.times h.mem q)
theorem sm_cons {M : List Nat} {m n : Nat} (h : Sm (m :: M) n) : ∃ k j, n = k + j * m ∧ Sm M k := by
  induction h with
  | zero => exact ⟨0, 0, by omega, .zero⟩
  | @add n x _ hx ih =>
    obtain ⟨k, j, e, hk⟩ := ih
    obtain rfl | hx := List.mem_cons.mp hx
    · exact ⟨k, j + 1, by rw [e, Nat.succ_mul, Nat.add_assoc], hk⟩
    · exact ⟨k + x, j, by omega, .add hk hx⟩
/-- one maker more -/
theorem SumsOk.widen {a m g len : Nat} {L : Nat → Option Nat} {M : List Nat} (h : SumsOk a L M) (hg : g = Nat.gcd a m) (ha : a = g * len) : SumsOk a (widen a m len L g) (m :: M) := by
  have w := widen_ok (L := L) hg h.pos ha g (Nat.le_refl _)
  have gp : 0 < g := by rw [hg]; exact Nat.gcd_pos_of_pos_left _ h.pos
  have ga : g ≤ a := by rw [hg]; exact Nat.gcd_le_left _ h.pos
  refine ⟨h.pos, List.mem_cons_of_mem _ h.mem, ?_, fun n hn => ?_⟩
  · exact widen_sound h.pos List.mem_cons_self (fun k hk v e => ⟨(h.sound k hk v e).1, (h.sound k hk v e).2.mono fun x hx => List.mem_cons_of_mem _ hx⟩) g ga
  · obtain ⟨k, j, rfl, hk⟩ := sm_cons hn
    have h0 : ∃ v, K03.widen a m len L g (k % a) = some v ∧ v ≤ k := by
      obtain ⟨v, e, l⟩ := hasB_iff.mp (h.full k hk)
      obtain ⟨u, e2, l2⟩ := w.le _ v e
      exact ⟨u, e2, by omega⟩
    rw [hasB_iff]
    clear hn hk
    induction j with
    | zero => rw [Nat.zero_mul, Nat.add_zero]; exact h0
    | succ j ih =>
      obtain ⟨v, e, l⟩ := ih
      have t := w.tight ((k + j * m) % a) (Nat.mod_lt _ h.pos) (Nat.mod_lt _ gp)
      rw [Nat.mod_add_mod] at t
      obtain ⟨u, e2, l2⟩ := t (v + m) (by rw [e]; rfl)
      refine ⟨u, ?_, ?_⟩
      · rw [Nat.succ_mul, ← Nat.add_assoc]; exact e2
      · rw [Nat.succ_mul]; omega
theorem sums_one {a : Nat} (ha : 0 < a) : SumsOk a (fun k => if k = 0 then some 0 else none) [a] := by
  refine ⟨ha, List.mem_cons_self, fun k hk v e => ?_, fun n hn => ?_⟩
  · by_cases c : k = 0
    · subst c
      have : (0 : Nat) = v := Option.some.inj e
      subst this
      exact ⟨Nat.zero_mod _, .zero⟩
    · rw [if_neg c] at e; cases e
  · obtain ⟨k, j, rfl, hk⟩ := sm_cons hn
    have k0 : k = 0 := by
      cases hk with
      | zero => rfl
      | add _ h => cases h
    subst k0
    rw [hasB_iff, Nat.zero_add, Nat.mul_mod_left]
    exact ⟨0, rfl, Nat.zero_le _⟩
end K03

set_option Elab.async false
set_option linter.all false
set_option maxRecDepth 100000
set_option maxHeartbeats 2100000
namespace K03
open PySem L2
abbrev sLesser : Stmt := top 10
abbrev sSHas : Stmt := inClass (top 9) 1
abbrev sSWiden : Stmt := inClass (top 9) 2
abbrev sSRound : Stmt := inClass (top 9) 3
structure Fn (K : PySem.W.Frag) (mg : Str → Option Value) (x : Str) (st : Stmt) (ps : List Str) (f : Addr) (fd : FuncData) : Prop where
  F : Fun K x x st f fd
  b : Binds K fd ps []
  m : mg x = some (.ref f)
theorem ifT {c : Bool} {A B : Prop} (hc : c = true) (h : A) : if c = true then A else B := by
  rw [if_pos hc]
  exact h
theorem ifF {c : Bool} {A B : Prop} (hc : c = false) (h : B) : if c = true then A else B := by
  rw [hc, if_neg Bool.false_ne_true]
  exact h
/-- a least sum as the program keeps it -/
def oV : Option Nat → V
  | none => .non
  | some n => .int (n : Int)
def spLesser : Sp := fun vs H Q _ => ∃ t o : Option Nat, vs = [oV t, oV o] ∧ Q (oV (lesser t o)) H
section
variable {P : Program} {w : World} {K : PySem.W.Frag} {mg : Str → Option Value} {base : Heap} {CS : Addr}
theorem scLes : FnScope ["total", "other"] ["total", "other"] (defScope sLesser) := ⟨rfl, rfl, rfl, by decide +kernel, rfl, by decide +kernel, by decide +kernel⟩
theorem ok_lesser {f : Addr} {fd : FuncData} (F : Fn K mg "_lesser" sLesser ["total", "other"] f fd) : FnOk P w K mg base CX0 1 f fd ["total", "other"] spLesser := by
  refine F.F.ok scLes (fun vs H Q E h => ?_) (fun cdv A outer s H vs Q E hr h => ?_)
  · obtain ⟨t, o, rfl, _⟩ := h
    rfl
  · obtain ⟨t, o, rfl, k⟩ := h
    refine ⟨_, pss_cons (ps_if (PW.pt (pw_or (pt_cmpR op_isN (pv 0) pe_non (nomark _)) (pw_or1 (PW.pt (pw_and (pt_cmpR op_notN (pv 1) pe_non (nomark _)) (pw_and1 (pt_cmpR op_lt (pv 1) (pv 0) (nomark _)))))))) (pss_one (ps_ret (pv 1))) pss_nil)
      (pss_one (ps_ret (pv 0))), ?_⟩
    have fin : ∀ z, lesser t o = z → Q (oV z) H := fun z e => by rw [← e]; exact k
    cases t with
    | none =>
      refine ⟨_, rfl, rfl, _, rfl, ?_⟩
      refine ifT (by decide) ?_
      refine ifT (by decide) ?_
      exact ⟨_, rfl, fin o rfl⟩
    | some t =>
      refine ⟨_, rfl, rfl, _, rfl, ?_⟩
      refine ifF (by rfl) ?_
      cases o with
      | none =>
        refine ⟨_, rfl, rfl, _, rfl, ?_⟩
        refine ifF (by decide) ?_
        refine ifF (by decide) ?_
        exact ⟨_, rfl, fin (some t) rfl⟩
      | some o =>
        refine ⟨_, rfl, rfl, _, rfl, ?_⟩
        refine ifT (by rfl) ?_
        refine ⟨_, rfl, _, rfl, _, _, rfl, rfl, _, rfl, ?_⟩
        refine ite2 (fun c => ?_) (fun c => ?_)
        · have c2 : o < t := by have := of_decide_eq_true c; omega
          exact ⟨_, rfl, fin (some o) (by simp [lesser, c2])⟩
        · have c2 : ¬ o < t := fun z => c (decide_eq_true (by omega))
          exact ⟨_, rfl, fin (some t) (by simp [lesser, c2])⟩
/-- a Sums object: its least sums are those of L -/
structure SumAt (H : Hp) (x la : Addr) (CS : Addr) (a : Nat) (L : Nat → Option Nat) : Prop where
  ob : ∃ dx fs, H x = some (.ins CS dx fs) ∧ fs.lookup ("_least" : Str) = some (.ref la)
  ls : H la = some (.lst ((List.range a).map fun k => oV (L k)))
/-- what the written part says of Sums -/
structure SumT (K : PySem.W.Frag) (CS : Addr) : Prop where
  cl : Cls K CS
  nL : NoAttr K CS "_least"
  nS : NoAttr K CS "step"
  nM : NoAttr K CS "makers"
  nF : NoAttr K CS "far"
def hasZ (a : Nat) (L : Nat → Option Nat) (n : Int) : Bool := match L (n % (a : Int)).toNat with
  | none => false
  | some v => decide ((v : Int) ≤ n)
theorem hasZ_nat {a : Nat} {L : Nat → Option Nat} {n : Nat} : hasZ a L (n : Int) = hasB a L n := by
  unfold hasZ hasB
  have e : ((n : Int) % (a : Int)).toNat = n % a := by rw [← Int.natCast_emod]; rfl
  rw [e]
  cases L (n % a) with
  | none => rfl
  | some v => simp
def spSHas (CS : Addr) : Sp := fun vs H Q _ => ∃ (x la : Addr) (a : Nat) (L : Nat → Option Nat) (n : Int), vs = [.ref x, .int n] ∧ SumAt H x la CS a L ∧ 0 < a ∧ Q (.bl (hasZ a L n)) H
theorem SumAt.get {H : Hp} {x la : Addr} {a : Nat} {L : Nat → Option Nat} (h : SumAt H x la CS a L) {k : Nat} (hk : k < a) : atI ((List.range a).map fun k => oV (L k)) (k : Int) = some (oV (L k)) :=
  atI_nat (by rw [List.getElem?_map, List.getElem?_range hk]; rfl)
theorem scSHas : FnScope ["self", "number", "least"] ["self", "number"] (defScope sSHas) := ⟨rfl, rfl, rfl, by decide +kernel, rfl, by decide +kernel, by decide +kernel⟩
theorem ok_shas {f : Addr} {fd : FuncData} (F : Fun K "has" "Sums.has" sSHas f fd) (T : TxB mg) (S : SumT K CS) : FnOk P w K mg base CX0 1 f fd ["self", "number"] (spSHas CS) := by
  refine F.ok scSHas (fun vs H Q E h => ?_) (fun cdv A outer s H vs Q E hr h => ?_)
  · obtain ⟨x, la, a, L, n, rfl, _⟩ := h
    rfl
  · obtain ⟨x, la, a, L, n, rfl, hs, ha, k⟩ := h
    have nd := scSHas.nd
    obtain ⟨dx, fs, hx, hf⟩ := hs.ob
    refine ⟨_, pss_cons (ps_set (i := 2) nd rfl (Or.inl rfl) (pe_ix ix_list (pe_fld (pv 0) rfl) (pe_op op_mod (pv 1) (pe_callB call_len (by rfl) T.len PySem.boot_len (pa_cons (pe_fld (pv 0) rfl) pa_nil))) (fun _ _ => rfl)))
      (pss_one (ps_ret (pe_and (pe_cmpR op_notN (pv 2) pe_non (nomark _)) (pe_one (pe_cmpR op_le (pv 2) (pv 1) (nomark _)))))), ?_⟩
    have h0 : 0 ≤ n % (a : Int) := Int.emod_nonneg _ (by omega)
    have h1 : n % (a : Int) < (a : Int) := Int.emod_lt_of_pos _ (by omega)
    have e1 : (((n % (a : Int)).toNat : Nat) : Int) = n % (a : Int) := Int.toNat_of_nonneg h0
    have hat := hs.get (k := (n % (a : Int)).toNat) (by omega)
    rw [e1] at hat
    refine ⟨_, rfl, x, CS, dx, _, _, rfl, hx, S.cl, S.nL, hf, ?_⟩
    refine ⟨_, rfl, _, rfl, x, CS, dx, _, _, rfl, hx, S.cl, S.nL, hf, _, _, rfl, .inl ⟨_, SqL.of hs.ls, rfl⟩, ?_⟩
    simp only [List.length_range, List.length_map]
    refine ⟨_, _, rfl, rfl, (by show (0 : Int) < (a : Int); omega), la, _, _, _, rfl, rfl, SqL.of hs.ls, hat, ?_⟩
    have fin : ∀ z, hasZ a L n = z → Q (.bl z) H := fun z e => by rw [← e]; exact k
    cases c : L (n % (a : Int)).toNat with
    | none =>
      refine ⟨_, rfl, rfl, _, rfl, ?_⟩
      refine ifF (by decide) ?_
      exact fin false (by unfold hasZ; rw [c])
    | some v =>
      refine ⟨_, rfl, rfl, _, rfl, ?_⟩
      refine ifT (by rfl) ?_
      refine ⟨_, rfl, _, rfl, _, _, rfl, rfl, ?_⟩
      exact fin (decide ((v : Int) ≤ n)) (by unfold hasZ; rw [c])
/-- a walk round: from start, so many steps -/
def spRound (K : PySem.W.Frag) (CS : Addr) : Sp := fun vs H Q _ => ∃ (x la : Addr) (a : Nat) (L : Nat → Option Nat) (start m len : Nat), vs = [.ref x, .int (start : Int), .int (m : Int), .int (len : Int)] ∧ SumAt H x la CS a L ∧ start < a ∧ len ≤ 1000 ∧ x ≠ la ∧
  ∀ H', (∀ b, b ≠ la → H' b = H b) → H' la = some (.lst ((List.range a).map fun k => oV ((run a m start L (len + len)).1 k))) → Q .non H'
theorem map_set {a k : Nat} {f : Nat → Option Nat} {v : Option Nat} : ((List.range a).map fun j => oV (f j)).set k (oV v) = (List.range a).map fun j => oV (updF f k v j) := by
  apply List.ext_getElem?; intro j
  rw [List.getElem?_set, List.getElem?_map, List.getElem?_map, List.length_map, List.length_range]
  by_cases h : k = j
  · subst h
    rw [if_pos rfl]
    by_cases hk : k < a
    · rw [if_pos hk, List.getElem?_range hk]
      show _ = some (oV (updF f k v k))
      rw [updF_same]
    · rw [if_neg hk, List.getElem?_eq_none (by rw [List.length_range]; omega)]
      rfl
  · rw [if_neg h]
    cases e : (List.range a)[j]? with
    | none => rfl
    | some i =>
      have : i = j := by
        have h2 := (List.getElem?_eq_some_iff.mp e).1
        rw [List.length_range] at h2
        rw [List.getElem?_range h2] at e
        exact (Option.some.inj e).symm
      subst this
      show some (oV (f i)) = some (oV (updF f k v i))
      rw [updF_ne fun z => h z.symm]
theorem ixN_nat {n j : Nat} (h : j < n) : ixN n (j : Int) = some j := by
  unfold ixN
  rw [if_pos (by omega), if_pos (by omega), Int.toNat_natCast]
theorem scSRound : FnScope ["self", "start", "maker", "length", "at", "least", "_"] ["self", "start", "maker", "length"] (defScope sSRound) := ⟨rfl, rfl, rfl, by decide +kernel, rfl, by decide +kernel, by decide +kernel⟩
theorem ok_round {f fL : Addr} {fd fdL : FuncData} (F : Fun K "_go_round" "Sums._go_round" sSRound f fd) (NL : Fn K mg "_lesser" sLesser ["total", "other"] fL fdL) (T : TxB mg) (S : SumT K CS) : FnOk P w K mg base CX0 2 f fd ["self", "start", "maker", "length"] (spRound K CS) := by
  have GL : FnOk P w K mg base CX0 1 fL fdL ["total", "other"] spLesser := ok_lesser NL
  refine F.ok scSRound (fun vs H Q E h => ?_) (fun cdv A outer s H vs Q E hr h => ?_)
  · obtain ⟨x, la, a, L, start, m, len, rfl, _⟩ := h
    rfl
  · obtain ⟨x, la, a, L, start, m, len, rfl, hs, hst, hl, hxl, k⟩ := h
    have nd := scSRound.nd
    obtain ⟨dx, fs, hx, hf⟩ := hs.ob
    refine ⟨_, pss_cons (ps_set (i := 4) nd rfl (Or.inl rfl) (pv 1))
      (pss_cons (ps_set (i := 5) nd rfl (Or.inl rfl) (pe_ix ix_list (pe_fld (pv 0) rfl) (pv 4) (fun _ _ => rfl)))
      (pss_one (ps_for PassesOwn.never rfl (pi_range1 (by rfl) T.range (pa_cons (pe_op op_mul pe_int (pv 3)) pa_nil)) (pg_name (i := 6) nd rfl (Or.inl rfl))
        (pss_cons (ps_set (i := 4) nd rfl (Or.inl rfl) (pe_op op_mod (pe_op op_add (pv 4) (pv 2)) (pe_callB call_len (by rfl) T.len PySem.boot_len (pa_cons (pe_fld (pv 0) rfl) pa_nil))))
        (Evl.pss_cut (ps_if (pt_cmpR op_notN (pv 5) pe_non (nomark _)) (pss_one (ps_set (i := 5) nd rfl (Or.inl rfl) (pe_op op_add (pv 5) (pv 2)))) pss_nil)
        (pss_cons (ps_set (i := 5) nd rfl (Or.inl rfl) (pe_call GL hr (by rfl) NL.m NL.F.kp NL.b .nil pass0 (pa_cons (pv 5) (pa_cons (pe_ix ix_list (pe_fld (pv 0) rfl) (pv 4) (fun _ _ => rfl)) pa_nil))))
        (pss_one (ps_asg (pv 5) (pg_sub (pe_fld (pv 0) rfl) (pv 4) set_list))))))))), ?_⟩
    have ha : 0 < a := by omega
    refine ⟨_, rfl, ?_⟩
    refine ⟨_, rfl, x, CS, dx, _, _, rfl, hx, S.cl, S.nL, hf, _, rfl, la, _, _, _, rfl, rfl, SqL.of hs.ls, hs.get hst, ?_⟩
    refine ⟨_, rfl, _, _, rfl, rfl, ?_⟩
    have e2 : (2 * (len : Int)).toNat = len + len := by omega
    refine ⟨.inl ⟨by omega, by omega⟩, _, rfl, by omega, by omega, for_range (lo := 0) (n := (2 * (len : Int)).toNat) (fun i σ H' => ∃ t6 : Option V, σ = [some (.ref x), some (.int (start : Int)), some (.int (m : Int)), some (.int (len : Int)), some (.int (At a m start i : Nat)), some (oV (run a m start L i).2), t6] ∧
      (∀ b, b ≠ la → H' b = H b) ∧ H' la = some (.lst ((List.range a).map fun k => oV ((run a m start L i).1 k)))) ⟨none, ?_, fun _ _ => rfl, hs.ls⟩ ?_ ?_⟩
    · have e0 : At a m start 0 = start := by unfold At; rw [Nat.zero_mul, Nat.add_zero, Nat.mod_eq_of_lt hst]
      rw [e0]
      rfl
    · rintro i σ H' hi ⟨t6, rfl, hk, hl'⟩
      have hx' : H' x = some (.ins CS dx fs) := (hk x hxl).trans hx
      have sA : SumAt H' x la CS a (run a m start L i).1 := ⟨⟨dx, fs, hx', hf⟩, hl'⟩
      have hat : At a m start (i + 1) < a := Nat.mod_lt _ ha
      refine ⟨_, rfl, _, rfl, _, _, rfl, rfl, _, rfl, x, CS, dx, _, _, rfl, hx', S.cl, S.nL, hf, _, _, rfl, .inl ⟨_, SqL.of hl', rfl⟩, ?_⟩
      simp only [List.length_range, List.length_map]
      refine ⟨_, _, rfl, rfl, (by show (0 : Int) < (a : Int); omega), ?_⟩
      have eA : ((At a m start i : Nat) + (m : Int)) % (a : Int) = ((At a m start (i + 1) : Nat) : Int) := by
        rw [← at_next, Int.natCast_emod, Int.natCast_add]
      refine ⟨fun σ' H2 => σ' = [some (.ref x), some (.int (start : Int)), some (.int (m : Int)), some (.int (len : Int)), some (.int (At a m start (i + 1) : Nat)), some (oV (addO (run a m start L i).2 m)), some (.int (0 + (i : Int)))] ∧ H2 = H', ?_, ?_⟩
      · cases c : (run a m start L i).2 with
        | none =>
          refine ⟨_, rfl, rfl, _, rfl, ?_⟩
          refine ifF (by decide) ?_
          exact ⟨by rw [← eA]; rfl, rfl⟩
        | some u =>
          refine ⟨_, rfl, rfl, _, rfl, ?_⟩
          refine ifT (by rfl) ?_
          refine ⟨_, rfl, _, rfl, _, _, rfl, rfl, ?_⟩
          exact ⟨by rw [← eA]; rfl, rfl⟩
      · rintro _ _ ⟨rfl, rfl⟩
        refine ⟨_, rfl, _, rfl, x, CS, dx, _, _, rfl, hx', S.cl, S.nL, hf, _, rfl, la, _, _, _, rfl, rfl, SqL.of hl', sA.get hat, ?_⟩
        refine ⟨_, _, rfl, ?_⟩
        refine ⟨_, rfl, _, rfl, x, CS, dx, _, _, rfl, hx', S.cl, S.nL, hf, _, rfl, la, _, _, At a m start (i + 1), rfl, rfl, hl', ixN_nat (by rw [List.length_map, List.length_range]; exact hat), ?_⟩
        rw [map_set]
        exact ⟨_, rfl, fun b hb => (upd_ne hb).trans (hk b hb), upd_same⟩
    · rintro σ H' ⟨t6, rfl, hk, hl'⟩
      rw [e2] at hl'
      exact k H' hk hl'
end
end K03

set_option Elab.async false
set_option linter.all false
set_option maxRecDepth 100000
set_option maxHeartbeats 2100000
namespace K03
open PySem L2
/-- one maker more -/
def spWiden (CS : Addr) : Sp := fun vs H Q _ => ∃ (x la dx : Addr) (fs : List (Str × V)) (a : Nat) (L : Nat → Option Nat) (m g len : Nat), vs = [.ref x, .int (m : Int)] ∧ H x = some (.ins CS dx fs) ∧ fs.lookup ("_least" : Str) = some (.ref la) ∧ fs.lookup ("_go_round" : Str) = none ∧ SumAt H x la CS a L ∧ 0 < a ∧ a ≤ 1000 ∧ x ≠ la ∧ g = Nat.gcd a m ∧ a = g * len ∧
  ∀ H', (∀ b, b ≠ la → H' b = H b) → H' la = some (.lst ((List.range a).map fun k => oV (widen a m len L g k))) → Q .non H'
section
variable {P : Program} {w : World} {K : PySem.W.Frag} {mg : Str → Option Value} {base : Heap} {CS : Addr}
theorem scSWiden : FnScope ["self", "maker", "rings", "start"] ["self", "maker"] (defScope sSWiden) := ⟨rfl, rfl, rfl, by decide +kernel, rfl, by decide +kernel, by decide +kernel⟩
theorem ok_widen {f fR fL : Addr} {fd fdR fdL : FuncData} (F : Fun K "_widen" "Sums._widen" sSWiden f fd) (FR : Fun K "_go_round" "Sums._go_round" sSRound fR fdR) (bR : Binds K fdR ["self", "start", "maker", "length"] []) (mR : Meth K CS "_go_round" fR)
    (NL : Fn K mg "_lesser" sLesser ["total", "other"] fL fdL) (T : TxB mg) (S : SumT K CS) (mG : mg "gcd" = some (.builtin "math.gcd")) : FnOk P w K mg base CX0 3 f fd ["self", "maker"] (spWiden CS) := by
  have GR : FnOk P w K mg base CX0 2 fR fdR ["self", "start", "maker", "length"] (spRound K CS) := ok_round FR NL T S
  refine F.ok scSWiden (fun vs H Q E h => ?_) (fun cdv A outer s H vs Q E hr h => ?_)
  · obtain ⟨x, la, dx, fs, a, L, m, g, len, rfl, _⟩ := h
    rfl
  · obtain ⟨x, la, dx, fs, a, L, m, g, len, rfl, hx, hf, hno, hs, ha, hab, hxl, hg, hal, k⟩ := h
    have nd := scSWiden.nd
    refine ⟨_, pss_cons (ps_set (i := 2) nd rfl (Or.inl rfl) (pe_callBfun cr_gcd (by rfl) mG (pa_cons (pe_callB call_len (by rfl) T.len PySem.boot_len (pa_cons (pe_fld (pv 0) rfl) pa_nil)) (pa_cons (pv 1) pa_nil))))
      (pss_one (ps_for PassesOwn.never rfl (pi_range1 (by rfl) T.range (pa_cons (pv 2) pa_nil)) (pg_name (i := 3) nd rfl (Or.inl rfl))
        (pss_one (ps_expr (pe_meth (pv 0) S.cl mR GR hr bR .nil pass0 (pa_cons (pv 3) (pa_cons (pv 1) (pa_cons (pe_op op_fdivN (pe_callB call_len (by rfl) T.len PySem.boot_len (pa_cons (pe_fld (pv 0) rfl) pa_nil)) (pv 2)) pa_nil)))))))), ?_⟩
    have gp : 0 < g := by rw [hg]; exact Nat.gcd_pos_of_pos_left _ ha
    have ga : g ≤ a := by rw [hg]; exact Nat.gcd_le_left _ ha
    have eg : (Nat.gcd ((a : Int)).natAbs ((m : Int)).natAbs) = g := by rw [hg]; rfl
    have nl : x ≠ la := hxl
    refine ⟨_, rfl, x, CS, dx, _, _, rfl, hx, S.cl, S.nL, hf, _, _, rfl, .inl ⟨_, SqL.of hs.ls, rfl⟩, _, rfl, ?_⟩
    simp only [List.length_range, List.length_map]
    refine ⟨_, _, rfl, ?_⟩
    rw [eg]
    refine ⟨_, rfl, _, rfl, by omega, by omega, for_range (lo := 0) (n := ((g : Nat) : Int).toNat) (fun i σ H' => ∃ t3 : Option V, σ = [some (.ref x), some (.int (m : Int)), some (.int (g : Int)), t3] ∧
      (∀ b, b ≠ la → H' b = H b) ∧ H' la = some (.lst ((List.range a).map fun k => oV (widen a m len L i k)))) ⟨none, rfl, fun _ _ => rfl, hs.ls⟩ ?_ ?_⟩
    · rintro i σ H' hi ⟨t3, rfl, hk, hl'⟩
      have hx' : H' x = some (.ins CS dx fs) := (hk x nl).trans hx
      have ed : ((a : Int)).fdiv (g : Int) = (len : Int) := by
        rw [Int.fdiv_eq_ediv_of_nonneg _ (by omega), hal, Int.natCast_mul, Int.mul_ediv_cancel_left _ (by omega)]
      have lena : len ≤ a := by rw [hal]; exact Nat.le_mul_of_pos_left _ gp
      refine ⟨_, rfl, x, dx, fs, rfl, hx', hno, ?_⟩
      refine ⟨_, rfl, _, rfl, _, rfl, x, CS, dx, _, _, rfl, hx', S.cl, S.nL, hf, _, _, rfl, .inl ⟨_, SqL.of hl', rfl⟩, _, rfl, _, _, rfl, rfl, ?_, ?_⟩
      · simp only [List.length_range, List.length_map]
        exact ⟨by omega, by rw [Int.natAbs_natCast]; omega⟩
      · simp only [List.length_range, List.length_map]
        refine ⟨x, la, a, widen a m len L i, i, m, len, ?_, ⟨⟨dx, fs, hx', hf⟩, hl'⟩, by omega, by omega, nl, fun H2 hk2 hl2 => ?_⟩
        · show [V.ref x, V.int (0 + (i : Int)), V.int (m : Int), V.int ((a : Int).fdiv (g : Int))] = _
          rw [Int.zero_add, ed]
        · exact ⟨_, rfl, fun b hb => (hk2 b hb).trans (hk b hb), hl2⟩
    · rintro σ H' ⟨t3, rfl, hk, hl'⟩
      exact k H' hk hl'
end
end K03

set_option Elab.async false
set_option linter.all false
namespace K03
/-! ### all numbers, one behind another -/
theorem SumsOk.congr {a : Nat} {L : Nat → Option Nat} {M M' : List Nat} (h : SumsOk a L M) (e : ∀ x, x ∈ M ↔ x ∈ M') : SumsOk a L M' :=
  ⟨h.pos, (e a).mp h.mem, fun k hk v q => ⟨(h.sound k hk v q).1, (h.sound k hk v q).2.mono fun x hx => (e x).mp hx⟩, fun n hn => h.full n (hn.mono fun x hx => (e x).mpr hx)⟩
def feed (a : Nat) (st : List Nat × (Nat → Option Nat)) (x : Nat) : List Nat × (Nat → Option Nat) :=
  if hasB a st.2 x = true then st else (st.1 ++ [x], widen a x (a / Nat.gcd a x) st.2 (Nat.gcd a x))
/-- what is kept of the numbers of xs makes the same sums; what is kept is no sum of what was kept ahead of it -/
structure FeedOk (a : Nat) (st : List Nat × (Nat → Option Nat)) (xs : List Nat) : Prop where
  ok : SumsOk a st.2 st.1
  sub : ∀ x ∈ st.1, x ∈ xs
  all : ∀ x ∈ xs, Sm st.1 x
  new : ∀ (i : Nat) (hi : i < st.1.length), 0 < i → ¬ Sm (st.1.take i) st.1[i]
theorem FeedOk.same {a : Nat} {st : List Nat × (Nat → Option Nat)} {xs : List Nat} (h : FeedOk a st xs) (n : Nat) : Sm st.1 n ↔ Sm xs n := by
  refine ⟨fun s => s.mono h.sub, fun s => ?_⟩
  induction s with
  | zero => exact .zero
  | add _ hm ih => exact ih.plus (h.all _ hm)
theorem feed_one {a : Nat} (ha : 0 < a) : FeedOk a ([a], fun k => if k = 0 then some 0 else none) [a] :=
  ⟨sums_one ha, fun x hx => hx, fun x hx => .one hx, fun i hi h0 => by
    have : i < 1 := hi
    omega⟩
theorem feed_ok {a x : Nat} {st : List Nat × (Nat → Option Nat)} {xs : List Nat} (h : FeedOk a st xs) : FeedOk a (feed a st x) (xs ++ [x]) := by
  unfold feed
  by_cases c : hasB a st.2 x = true
  · rw [if_pos c]
    refine ⟨h.ok, fun y hy => List.mem_append_left _ (h.sub y hy), fun y hy => ?_, h.new⟩
    obtain hy | hy := List.mem_append.mp hy
    · exact h.all y hy
    · rw [List.mem_singleton] at hy
      subst hy
      exact (h.ok.has y).mp c
  · rw [if_neg c]
    have gp : 0 < Nat.gcd a x := Nat.gcd_pos_of_pos_left _ h.ok.pos
    have e : a = Nat.gcd a x * (a / Nat.gcd a x) := (Nat.mul_div_cancel' (Nat.gcd_dvd_left a x)).symm
    refine ⟨(h.ok.widen rfl e).congr fun y => by rw [List.mem_append, List.mem_singleton, List.mem_cons, or_comm], fun y hy => ?_, fun y hy => ?_, fun i hi h0 => ?_⟩
    · rcases List.mem_append.mp hy with hy | hy
      · exact List.mem_append_left _ (h.sub y hy)
      · exact List.mem_append_right _ hy
    · rcases List.mem_append.mp hy with hy | hy
      · exact (h.all y hy).mono fun z hz => List.mem_append_left _ hz
      · exact .one (List.mem_append_right _ hy)
    · have hi' : i < (st.1 ++ [x]).length := hi
      rw [List.length_append, List.length_singleton] at hi'
      show ¬ Sm ((st.1 ++ [x]).take i) (st.1 ++ [x])[i]
      by_cases l : i < st.1.length
      · rw [List.take_append_of_le_length (Nat.le_of_lt l), List.getElem_append_left l]
        exact h.new i l h0
      · have ei : i = st.1.length := by omega
        subst ei
        rw [List.take_append_of_le_length (Nat.le_refl _), List.take_length, List.getElem_append_right (Nat.le_refl _)]
        simp only [Nat.sub_self, List.getElem_singleton]
        exact fun s => c ((h.ok.has x).mpr s)
theorem feed_all {a : Nat} : ∀ (ys : List Nat) {st : List Nat × (Nat → Option Nat)} {xs : List Nat}, FeedOk a st xs → FeedOk a (ys.foldl (feed a) st) (xs ++ ys)
  | [], st, xs, h => by rw [List.append_nil]; exact h
  | y :: ys, st, xs, h => by
    have := feed_all ys (feed_ok (x := y) h)
    rwa [List.append_assoc] at this
/-- the first number is taken twice, and kept once -/
theorem feed_first {a : Nat} (ha : 0 < a) : feed a ([a], fun k => if k = 0 then some 0 else none) a = ([a], fun k => if k = 0 then some 0 else none) := by
  unfold feed
  rw [if_pos ((sums_one ha).full a (.one List.mem_cons_self))]
/-! ### from where on all that the step divides is a sum -/
theorem sm_dvd {M : List Nat} {d : Nat} (h : ∀ m ∈ M, d ∣ m) {n : Nat} (s : Sm M n) : d ∣ n := by
  induction s with
  | zero => exact Nat.dvd_zero _
  | add _ hm ih => exact Nat.dvd_add ih (h _ hm)
end K03

set_option Elab.async false
set_option linter.all false
namespace K03
theorem times_two {a : Nat} (ha : 0 < a) (d m : Nat) : ∃ x y : Nat, (x * d + y * m) % a = (Nat.gcd d m) % a := by
  obtain ⟨u, v, e⟩ := bezout d m
  have h1 : 0 ≤ u % (a : Int) := Int.emod_nonneg _ (by omega)
  have h2 : 0 ≤ v % (a : Int) := Int.emod_nonneg _ (by omega)
  refine ⟨(u % (a : Int)).toNat, (v % (a : Int)).toNat, ?_⟩
  have e1 : (((u % (a : Int)).toNat : Nat) : Int) = u % (a : Int) := Int.toNat_of_nonneg h1
  have e2 : (((v % (a : Int)).toNat : Nat) : Int) = v % (a : Int) := Int.toNat_of_nonneg h2
  have : ((((u % (a : Int)).toNat * d + (v % (a : Int)).toNat * m) % a : Nat) : Int) = ((Nat.gcd d m % a : Nat) : Int) := by
    rw [Int.natCast_emod, Int.natCast_add, Int.natCast_mul, Int.natCast_mul, e1, e2, Int.natCast_emod, ← e, Int.add_emod, Int.mul_emod (u % (a : Int)), Int.emod_emod_of_dvd _ (Int.dvd_refl _), ← Int.mul_emod, Int.mul_emod (v % (a : Int)), Int.emod_emod_of_dvd _ (Int.dvd_refl _), ← Int.mul_emod, ← Int.add_emod]
  exact Int.ofNat.inj this
theorem Sm.mul {M : List Nat} {n : Nat} (h : Sm M n) : ∀ j, Sm M (j * n)
  | 0 => by rw [Nat.zero_mul]; exact .zero
  | j + 1 => by rw [Nat.succ_mul]; exact (Sm.mul h j).plus h
/-- the greatest number that divides all -/
def gcdL (M : List Nat) : Nat := M.foldl Nat.gcd 0
theorem gcdL_snoc (M : List Nat) (x : Nat) : gcdL (M ++ [x]) = Nat.gcd (gcdL M) x := by
  unfold gcdL
  rw [List.foldl_append]
  rfl
theorem foldl_dvd : ∀ (M : List Nat) (d : Nat), M.foldl Nat.gcd d ∣ d ∧ ∀ m ∈ M, M.foldl Nat.gcd d ∣ m
  | [], d => ⟨Nat.dvd_refl _, fun m h => by cases h⟩
  | x :: M, d => by
    have h := foldl_dvd M (Nat.gcd d x)
    refine ⟨Nat.dvd_trans h.1 (Nat.gcd_dvd_left _ _), fun m hm => ?_⟩
    obtain e | hm := List.mem_cons.mp hm
    · rw [e]; exact Nat.dvd_trans h.1 (Nat.gcd_dvd_right _ _)
    · exact h.2 m hm
theorem gcdL_dvd {M : List Nat} {m : Nat} (h : m ∈ M) : gcdL M ∣ m := (foldl_dvd M 0).2 m h
theorem reach {a : Nat} (ha : 0 < a) {M' : List Nat} : ∀ (M : List Nat) (d : Nat), (∃ n, Sm M' n ∧ n % a = d % a) → (∀ m ∈ M, m ∈ M') → ∃ n, Sm M' n ∧ n % a = (M.foldl Nat.gcd d) % a
  | [], d, h, _ => h
  | x :: M, d, ⟨n, hn, e⟩, hM => by
    refine reach ha M (Nat.gcd d x) ?_ fun m hm => hM m (List.mem_cons_of_mem _ hm)
    obtain ⟨u, v, q⟩ := times_two ha d x
    refine ⟨u * n + v * x, (hn.mul u).plus (.times (hM x List.mem_cons_self) v), ?_⟩
    rw [← q, Nat.add_mod, Nat.mul_mod u n, e, ← Nat.mul_mod, ← Nat.add_mod]
/-- from far on, all that the step divides is a sum -/
theorem SumsOk.far {a far : Nat} {L : Nat → Option Nat} {M : List Nat} (h : SumsOk a L M) (hf : ∀ k, k < a → ∀ v, L k = some v → v ≤ far) {n : Nat} (hn : far ≤ n) (hd : gcdL M ∣ n) : Sm M n := by
  obtain ⟨t, e⟩ := hd
  obtain ⟨r, hr, er⟩ := reach h.pos (M' := M) M 0 ⟨0, .zero, rfl⟩ fun m hm => hm
  have er2 : r % a = gcdL M % a := er
  have h1 := h.full _ (hr.mul t)
  have e2 : (t * r) % a = n % a := by rw [e, Nat.mul_mod, er2, ← Nat.mul_mod, Nat.mul_comm]
  obtain ⟨v, ev, _⟩ := hasB_iff.mp h1
  rw [e2] at ev
  refine (h.has n).mp (hasB_iff.mpr ⟨v, ev, ?_⟩)
  have := hf _ (Nat.mod_lt _ h.pos) v ev
  omega
end K03

set_option Elab.async false
set_option linter.all false
namespace K03
/-! ### what is no sum of lesser ones -/
def IsGen (M : List Nat) (n : Nat) : Prop := 0 < n ∧ Sm M n ∧ ¬ Sm (M.filter (· < n)) n
theorem Sm.bel {M : List Nat} {n : Nat} (h : Sm M n) : ∀ {k}, n < k → Sm (M.filter (· < k)) n := by
  induction h with
  | zero => intro k _; exact .zero
  | @add n m _ hm ih =>
    intro k hk
    exact .add (ih (by omega)) (List.mem_filter.mpr ⟨hm, decide_eq_true (by omega)⟩)
theorem Sm.trans {M M' : List Nat} {n : Nat} (h : Sm M n) (hs : ∀ m ∈ M, Sm M' m) : Sm M' n := by
  induction h with
  | zero => exact .zero
  | add _ hm ih => exact ih.plus (hs _ hm)
/-- a sum is nothing, or one of those and a sum -/
theorem Sm.last {M : List Nat} {n : Nat} (h : Sm M n) (h0 : 0 < n) (hp : ∀ m ∈ M, 0 < m) : ∃ m ∈ M, m ≤ n ∧ Sm M (n - m) := by
  cases h with
  | zero => omega
  | @add k m hk hm => exact ⟨m, hm, by omega, by rw [Nat.add_sub_cancel]; exact hk⟩
theorem sm_iff {M : List Nat} {n : Nat} (hp : ∀ m ∈ M, 0 < m) (h0 : 0 < n) : Sm M n ↔ ∃ m ∈ M, m ≤ n ∧ Sm M (n - m) :=
  ⟨fun h => h.last h0 hp, fun ⟨m, hm, l, h⟩ => by
    have := Sm.add h hm
    rwa [Nat.sub_add_cancel l] at this⟩
theorem gen_in {M : List Nat} (hp : ∀ m ∈ M, 0 < m) : ∀ {n : Nat}, Sm M n → 0 < n → ∃ g, IsGen M g ∧ g ≤ n ∧ Sm M (n - g) := by
  intro n
  induction n using Nat.strongRecOn with | _ n ih =>
    intro h h0
    by_cases c : Sm (M.filter (· < n)) n
    · obtain ⟨m, hm, l, k⟩ := c.last h0 (fun m hm => hp m (List.mem_filter.mp hm).1)
      have hm2 := List.mem_filter.mp hm
      have lt : m < n := of_decide_eq_true hm2.2
      obtain ⟨g, hg, gl, gs⟩ := ih m lt (.one hm2.1) (hp m hm2.1)
      refine ⟨g, hg, by omega, ?_⟩
      have := (k.mono fun x hx => (List.mem_filter.mp hx).1).plus gs
      rwa [show n - m + (m - g) = n - g by omega] at this
    · exact ⟨n, ⟨h0, h, c⟩, Nat.le_refl _, by rw [Nat.sub_self]; exact .zero⟩
theorem gen_not {M : List Nat} {n g : Nat} (hg : IsGen M g) (l : g < n) (h : Sm M (n - g)) : Sm M n ∧ ¬ IsGen M n := by
  have h0 := hg.1
  refine ⟨?_, fun z => z.2.2 ?_⟩
  · have := hg.2.1.plus h
    rwa [show g + (n - g) = n by omega] at this
  · have := (hg.2.1.bel l).plus (h.bel (k := n) (by omega))
    rwa [show g + (n - g) = n by omega] at this
/-! ### ascending lists of the same members -/
theorem asc_eq : ∀ {xs ys : List Nat}, xs.Pairwise (· < ·) → ys.Pairwise (· < ·) → (∀ x, x ∈ xs ↔ x ∈ ys) → xs = ys
  | [], [], _, _, _ => rfl
  | [], y :: ys, _, _, h => by have := (h y).mpr List.mem_cons_self; cases this
  | x :: xs, [], _, _, h => by have := (h x).mp List.mem_cons_self; cases this
  | x :: xs, y :: ys, hx, hy, h => by
    have hx' := List.pairwise_cons.mp hx
    have hy' := List.pairwise_cons.mp hy
    have e : x = y := by
      rcases List.mem_cons.mp ((h x).mp List.mem_cons_self) with e | e
      · exact e
      · rcases List.mem_cons.mp ((h y).mpr List.mem_cons_self) with e2 | e2
        · exact e2.symm
        · have := hy'.1 x e
          have := hx'.1 y e2
          omega
    subst e
    rw [asc_eq hx'.2 hy'.2 fun z => ?_]
    refine ⟨fun hz => ?_, fun hz => ?_⟩
    · rcases List.mem_cons.mp ((h z).mp (List.mem_cons_of_mem _ hz)) with e | e
      · have := hx'.1 z hz; omega
      · exact e
    · rcases List.mem_cons.mp ((h z).mpr (List.mem_cons_of_mem _ hz)) with e | e
      · have := hy'.1 z hz; omega
      · exact e
/-! ### what is kept -/
/-- kept of the numbers seen, these in ascending order -/
structure Kept (kept seen : List Nat) : Prop where
  asc : kept.Pairwise (· < ·)
  sub : ∀ x ∈ kept, x ∈ seen
  all : ∀ x ∈ seen, Sm kept x
  new : ∀ x ∈ kept, ¬ Sm (kept.filter (· < x)) x
theorem Kept.more {kept seen : List Nat} {x : Nat} (h : Kept kept seen) (hx : ∀ y ∈ seen, y ≤ x) (n : ¬ Sm kept x) : Kept (kept ++ [x]) (seen ++ [x]) := by
  have lt : ∀ y ∈ kept, y < x := fun y hy => by
    have := hx y (h.sub y hy)
    rcases Nat.lt_or_eq_of_le this with l | e
    · exact l
    · exact absurd (e ▸ Sm.one hy) n
  refine ⟨?_, fun y hy => ?_, fun y hy => ?_, fun y hy => ?_⟩
  · rw [List.pairwise_append]
    refine ⟨h.asc, List.pairwise_singleton _ _, fun a ha b hb => ?_⟩
    rw [List.mem_singleton] at hb
    rw [hb]; exact lt a ha
  · rcases List.mem_append.mp hy with hy | hy
    · exact List.mem_append_left _ (h.sub y hy)
    · exact List.mem_append_right _ hy
  · rcases List.mem_append.mp hy with hy | hy
    · exact (h.all y hy).mono fun z hz => List.mem_append_left _ hz
    · exact .one (List.mem_append_right _ hy)
  · rw [List.filter_append]
    obtain hy | hy := List.mem_append.mp hy
    · have e : [x].filter (· < y) = [] := by
        rw [List.filter_cons_of_neg (by have := lt y hy; simp; omega)]; rfl
      rw [e, List.append_nil]
      exact h.new y hy
    · rw [List.mem_singleton] at hy
      subst hy
      have e : [y].filter (· < y) = [] := by rw [List.filter_cons_of_neg (by simp)]; rfl
      have e2 : kept.filter (· < y) = kept := List.filter_eq_self.mpr fun z hz => decide_eq_true (lt z hz)
      rw [e, e2, List.append_nil]
      exact n
theorem Kept.skip {kept seen : List Nat} {x : Nat} (h : Kept kept seen) (n : Sm kept x) : Kept kept (seen ++ [x]) :=
  ⟨h.asc, fun y hy => List.mem_append_left _ (h.sub y hy), fun y hy => by
    obtain hy | hy := List.mem_append.mp hy
    · exact h.all y hy
    · rw [List.mem_singleton] at hy; rw [hy]; exact n, h.new⟩
theorem Kept.gen {kept seen : List Nat} (h : Kept kept seen) (hp : ∀ x ∈ seen, 0 < x) (x : Nat) : x ∈ kept ↔ IsGen seen x := by
  refine ⟨fun hx => ⟨hp x (h.sub x hx), .one (h.sub x hx), fun z => h.new x hx (z.trans fun y hy => ?_)⟩, fun hg => ?_⟩
  · have hy2 := List.mem_filter.mp hy
    exact (h.all y hy2.1).bel (of_decide_eq_true hy2.2)
  · refine Classical.byContradiction fun c => hg.2.2 ?_
    have s : Sm kept x := hg.2.1.trans h.all
    have : ∀ {n}, Sm kept n → n ≤ x → Sm (seen.filter (· < x)) n := by
      intro n hn
      induction hn with
      | zero => intro _; exact .zero
      | @add k m _ hm ih =>
        intro l
        refine .add (ih (by omega)) (List.mem_filter.mpr ⟨h.sub m hm, decide_eq_true ?_⟩)
        have : m ≠ x := fun e => c (e ▸ hm)
        omega
    exact this s (Nat.le_refl _)
theorem Kept.same {kept seen : List Nat} (h : Kept kept seen) (n : Nat) : Sm kept n ↔ Sm seen n := ⟨fun s => s.mono h.sub, fun s => s.trans h.all⟩
/-! ### the law's own search for makers -/
noncomputable def smB (M : List Nat) (n : Nat) : Bool := @decide (Sm M n) (Classical.propDecidable _)
theorem smB_iff {M : List Nat} {n : Nat} : smB M n = true ↔ Sm M n := @decide_eq_true_iff _ (Classical.propDecidable _)
def toldB (found : List Nat) (sums : List Bool) (n : Nat) : Bool := found.any fun m => decide (m ≤ n) && sums.getD (n - m) false
/-- behind so many numbers -/
structure Gens (M found : List Nat) (sums : List Bool) (n : Nat) : Prop where
  asc : found.Pairwise (· < ·)
  mem : ∀ x, x ∈ found ↔ IsGen M x ∧ x ≤ n
  len : sums.length = n + 1
  val : ∀ k, k ≤ n → sums.getD k false = smB M k
theorem gens_zero {M : List Nat} : Gens M [] [true] 0 := by
  refine ⟨.nil, fun x => ⟨fun h => (by cases h), fun ⟨h, l⟩ => by have := h.1; omega⟩, rfl, fun k hk => ?_⟩
  have : k = 0 := by omega
  subst this
  exact (smB_iff.mpr .zero).symm
theorem Gens.told {M found : List Nat} {sums : List Bool} {n : Nat} (h : Gens M found sums n) (hp : ∀ m ∈ M, 0 < m) : toldB found sums (n + 1) = true ↔ Sm M (n + 1) ∧ ¬ IsGen M (n + 1) := by
  unfold toldB
  rw [List.any_eq_true]
  refine ⟨fun ⟨g, hg, e⟩ => ?_, fun ⟨hs, hn⟩ => ?_⟩
  · rw [Bool.and_eq_true] at e
    obtain ⟨g1, g2⟩ := (h.mem g).mp hg
    have g0 := g1.1
    rw [h.val _ (by omega), smB_iff] at e
    exact gen_not g1 (by omega) e.2
  · obtain ⟨g, hg, gl, gs⟩ := gen_in hp hs (by omega)
    have gl2 : g ≤ n := by
      rcases Nat.lt_or_eq_of_le gl with l | e
      · omega
      · exact absurd (e ▸ hg) hn
    refine ⟨g, (h.mem g).mpr ⟨hg, gl2⟩, ?_⟩
    have g0 := hg.1
    rw [Bool.and_eq_true]
    exact ⟨decide_eq_true gl, by rw [h.val _ (by omega)]; exact smB_iff.mpr gs⟩
theorem getD_snoc {l : List Bool} {b : Bool} {k : Nat} (h : k ≤ l.length) : (l ++ [b]).getD k false = if k = l.length then b else l.getD k false := by
  by_cases e : k = l.length
  · rw [if_pos e, e]; simp [List.getD]
  · rw [if_neg e]
    simp only [List.getD]
    rw [List.getElem?_append_left (by omega)]
theorem Gens.next {M found : List Nat} {sums : List Bool} {n : Nat} (h : Gens M found sums n) (hp : ∀ m ∈ M, 0 < m) :
    Gens M (if smB M (n + 1) && !toldB found sums (n + 1) then found ++ [n + 1] else found) (sums ++ [smB M (n + 1)]) (n + 1) := by
  have key : (smB M (n + 1) && !toldB found sums (n + 1)) = true ↔ IsGen M (n + 1) := by
    rw [Bool.and_eq_true, smB_iff, Bool.not_eq_true']
    refine ⟨fun ⟨a, b⟩ => Classical.byContradiction fun c => ?_, fun g => ⟨g.2.1, ?_⟩⟩
    · rw [(h.told hp).mpr ⟨a, c⟩] at b; cases b
    · cases e : toldB found sums (n + 1) with
      | false => rfl
      | true => exact absurd g ((h.told hp).mp e).2
  have sums_ok : ∀ k, k ≤ n + 1 → (sums ++ [smB M (n + 1)]).getD k false = smB M k := fun k hk => by
    rw [getD_snoc (by rw [h.len]; exact hk), h.len]
    by_cases e : k = n + 1
    · rw [if_pos e, e]
    · rw [if_neg e]; exact h.val k (by omega)
  by_cases c : (smB M (n + 1) && !toldB found sums (n + 1)) = true
  · rw [if_pos c]
    refine ⟨?_, fun x => ⟨fun hx => ?_, fun ⟨hx, l⟩ => ?_⟩, by rw [List.length_append, h.len]; rfl, sums_ok⟩
    · rw [List.pairwise_append]
      refine ⟨h.asc, List.pairwise_singleton _ _, fun a ha b hb => ?_⟩
      rw [List.mem_singleton] at hb
      have := ((h.mem a).mp ha).2
      omega
    · obtain hx | hx := List.mem_append.mp hx
      · have := (h.mem x).mp hx; exact ⟨this.1, by omega⟩
      · rw [List.mem_singleton] at hx; rw [hx]; exact ⟨key.mp c, Nat.le_refl _⟩
    · by_cases e : x = n + 1
      · rw [e]; exact List.mem_append_right _ List.mem_cons_self
      · exact List.mem_append_left _ ((h.mem x).mpr ⟨hx, by omega⟩)
  · rw [if_neg c]
    refine ⟨h.asc, fun x => ⟨fun hx => ?_, fun ⟨hx, l⟩ => ?_⟩, by rw [List.length_append, h.len]; rfl, sums_ok⟩
    · have := (h.mem x).mp hx; exact ⟨this.1, by omega⟩
    · refine (h.mem x).mpr ⟨hx, ?_⟩
      by_cases e : x = n + 1
      · exact absurd (key.mpr (e ▸ hx)) c
      · omega
/-- both find the same -/
theorem Gens.kept {M found kept : List Nat} {sums : List Bool} {n : Nat} (h : Gens M found sums n) (k : Kept kept M) (hp : ∀ x ∈ M, 0 < x) (hl : ∀ x ∈ M, x ≤ n) : found = kept :=
  asc_eq h.asc k.asc fun x => by
    rw [h.mem, k.gen hp]
    exact ⟨fun z => z.1, fun z => ⟨z, hl x (k.sub x ((k.gen hp x).mpr z))⟩⟩
theorem IsGen.congr {M M' : List Nat} (hp : ∀ x ∈ M, 0 < x) (hp' : ∀ x ∈ M', 0 < x) (h : ∀ n, Sm M n ↔ Sm M' n) (n : Nat) : IsGen M n → IsGen M' n := fun g => by
  refine ⟨g.1, (h n).mp g.2.1, fun z => g.2.2 (z.trans fun m hm => ?_)⟩
  have hm2 := List.mem_filter.mp hm
  exact ((h m).mpr (.one hm2.1)).bel (of_decide_eq_true hm2.2)
/-! ### of so many numbers below a limit two are one -/
theorem pigeon : ∀ (a : Nat) (f : Nat → Nat), (∀ i, i ≤ a → f i < a) → ∃ i j, i < j ∧ j ≤ a ∧ f i = f j
  | 0, f, h => by have := h 0 (Nat.le_refl _); omega
  | a + 1, f, h => by
    by_cases c : ∃ i, i ≤ a ∧ f i = f (a + 1)
    · obtain ⟨i, hi, e⟩ := c
      exact ⟨i, a + 1, by omega, Nat.le_refl _, e⟩
    · have ne : ∀ i, i ≤ a → f i ≠ f (a + 1) := fun i hi e => c ⟨i, hi, e⟩
      obtain ⟨i, j, hij, hj, e⟩ := pigeon a (fun i => if f i < f (a + 1) then f i else f i - 1) fun i hi => by
        have h1 := h i (by omega)
        have h2 := h (a + 1) (Nat.le_refl _)
        have h3 := ne i hi
        show (if f i < f (a + 1) then f i else f i - 1) < a
        split <;> omega
      refine ⟨i, j, hij, by omega, ?_⟩
      have h1 := ne i (by omega)
      have h2 := ne j hj
      have e' : (if f i < f (a + 1) then f i else f i - 1) = (if f j < f (a + 1) then f j else f j - 1) := e
      split at e' <;> split at e' <;> omega
theorem Sm.list {M : List Nat} {v : Nat} (h : Sm M v) : ∃ xs : List Nat, (∀ x ∈ xs, x ∈ M) ∧ xs.sum = v := by
  induction h with
  | zero => exact ⟨[], fun x hx => (by cases hx), rfl⟩
  | @add n m _ hm ih =>
    obtain ⟨xs, h1, h2⟩ := ih
    refine ⟨m :: xs, fun x hx => ?_, by rw [List.sum_cons, h2, Nat.add_comm]⟩
    obtain e | hx := List.mem_cons.mp hx
    · rw [e]; exact hm
    · exact h1 x hx
theorem Sm.of_list {M : List Nat} : ∀ {xs : List Nat}, (∀ x ∈ xs, x ∈ M) → Sm M xs.sum
  | [], _ => .zero
  | x :: xs, h => by
    rw [List.sum_cons, Nat.add_comm]
    exact .add (Sm.of_list fun y hy => h y (List.mem_cons_of_mem _ hy)) (h x List.mem_cons_self)
theorem sum_le {B : Nat} : ∀ {xs : List Nat}, (∀ x ∈ xs, x ≤ B) → xs.sum ≤ xs.length * B
  | [], _ => Nat.zero_le _
  | x :: xs, h => by
    have h1 := sum_le fun y hy => h y (List.mem_cons_of_mem _ hy)
    have h2 := h x List.mem_cons_self
    rw [List.sum_cons, List.length_cons, Nat.succ_mul]
    omega
theorem sum_pos {xs : List Nat} (h : ∀ x ∈ xs, 0 < x) (h0 : 0 < xs.length) : 0 < xs.sum := by
  cases xs with
  | nil => cases h0
  | cons x xs =>
    have := h x List.mem_cons_self
    rw [List.sum_cons]; omega
/-- the least sums stay below a limit -/
theorem SumsOk.small {a B : Nat} {L : Nat → Option Nat} {M : List Nat} (h : SumsOk a L M) (hp : ∀ m ∈ M, 0 < m) (hB : ∀ m ∈ M, m ≤ B) {k v : Nat} (hk : k < a) (e : L k = some v) : v ≤ (a - 1) * B := by
  obtain ⟨h1, h2⟩ := h.sound k hk v e
  obtain ⟨xs, hx, hs⟩ := h2.list
  have short : xs.length < a := by
    refine Nat.lt_of_not_le fun c => ?_
    obtain ⟨i, j, hij, hj, q⟩ := pigeon a (fun i => (xs.take i).sum % a) fun i _ => Nat.mod_lt _ h.pos
    have q' : (xs.take i).sum % a = (xs.take j).sum % a := q
    have cut : xs = xs.take j ++ xs.drop j := (List.take_append_drop j xs).symm
    have cut2 : xs.take j = xs.take i ++ (xs.take j).drop i := by
      have : xs.take i = (xs.take j).take i := by rw [List.take_take, Nat.min_eq_left (by omega)]
      rw [this]; exact (List.take_append_drop i _).symm
    have s1 : xs.sum = (xs.take j).sum + (xs.drop j).sum := by
      have := congrArg List.sum cut
      rw [List.sum_append] at this
      exact this
    have s2 : (xs.take j).sum = (xs.take i).sum + ((xs.take j).drop i).sum := by
      have := congrArg List.sum cut2
      rw [List.sum_append] at this
      exact this
    have pos : 0 < ((xs.take j).drop i).sum := by
      refine sum_pos (fun x hx' => hp x (hx x (List.mem_of_mem_take (List.mem_of_mem_drop hx')))) ?_
      rw [List.length_drop, List.length_take]; omega
    have less : Sm M ((xs.take i).sum + (xs.drop j).sum) := by
      have := Sm.of_list (M := M) (xs := xs.take i ++ xs.drop j) fun x hx' => by
        obtain hx' | hx' := List.mem_append.mp hx'
        · exact hx x (List.mem_of_mem_take hx')
        · exact hx x (List.mem_of_mem_drop hx')
      rwa [List.sum_append] at this
    have em : ((xs.take i).sum + (xs.drop j).sum) % a = k := by
      rw [← h1, ← hs, s1, Nat.add_mod, q', ← Nat.add_mod]
    obtain ⟨u, e2, l2⟩ := hasB_iff.mp (h.full _ less)
    rw [em, e] at e2
    cases e2
    omega
  have := sum_le (B := B) fun x hx' => hB x (hx x hx')
  rw [← hs]
  exact Nat.le_trans this (Nat.mul_le_mul_right _ (by omega))
end K03

set_option Elab.async false
set_option linter.all false
set_option maxRecDepth 100000
set_option maxHeartbeats 2000000
namespace K03
open PySem L2
theorem tyx_same {K : PySem.W.Frag} {H H' : Hp} {v : V} {t : Value} (s : Same H H') (h : TyX K H v t) : TyX K H' v t := by
  cases h with
  | base b =>
    cases b with
    | non => exact .base .non
    | bl x => exact .base (.bl x)
    | int i => exact .base (.int i)
    | str x => exact .base (.str x)
    | flt x => exact .base (.flt x)
    | lst e => exact .base (.lst (s _ _ e))
    | frz e => exact .base (.frz (s _ _ e))
    | tup e => exact .base (.tup (s _ _ e))
    | dK e => exact .base (.dK (s _ _ e))
    | dT e => exact .base (.dT (s _ _ e))
    | ins e cl ha hn htk hm => exact .base (.ins (s _ _ e) cl ha hn htk hm)
  | byt b => exact .byt b
  | set e => exact .set (s _ _ e)
  | kList e c => exact .kList e c
  | kTuple e c => exact .kTuple e c
  | kDict e c => exact .kDict e c
  | fTuple e => exact .fTuple (s _ _ e)
  | fDict e => exact .fDict (s _ _ e)
theorem same_refl (H : Hp) : Same H H := fun _ _ e => e
theorem same_trans {H H' H'' : Hp} (a : Same H H') (b : Same H' H'') : Same H H'' := fun c o e => b c o (a c o e)
theorem same_new {H H' : Hp} {p : Addr} {o : HO} (s : Same H H') (hp : H' p = none) : Same H (upd H' p o) := fun b u e => by rw [upd_ne (ne_of_none (s b u e) hp)]; exact s b u e
theorem same_none {H H' : Hp} {p : Addr} (s : Same H H') (hp : H' p = none) : H p = none := by
  cases e : H p with
  | none => rfl
  | some o => have := s p o e; rw [hp] at this; cases this

/-- what is none of a built-in class -/
def Nt (K : PySem.W.Frag) (H : Hp) (v : V) (T : String) : Prop := ∃ tv, TyX K H v tv ∧ PySem.W.kitOne K tv (.type T) = some false
theorem Nt.same {K : PySem.W.Frag} {H H' : Hp} {v : V} {T : String} (h : Nt K H v T) (s : Same H H') : Nt K H' v T := by
  obtain ⟨tv, a, b⟩ := h
  exact ⟨tv, tyx_same s a, b⟩
/-- a word: a text, or none -/
def WdAt (K : PySem.W.Frag) (H : Hp) : Option Str → V → Prop
  | some z, v => v = .str z
  | none, v => Nt K H v "str"
theorem WdAt.same {K : PySem.W.Frag} {H H' : Hp} {o : Option Str} {v : V} (h : WdAt K H o v) (s : Same H H') : WdAt K H' o v := by
  cases o with
  | some z => exact h
  | none => exact Nt.same h s
/-- an item of the makers: an integer, or none -/
def ItAt (K : PySem.W.Frag) (H : Hp) : Option Int → V → Prop
  | some i, v => v = .int i
  | none, v => ∃ tv b, TyX K H v tv ∧ PySem.W.kitOne K tv (.type "int") = some b ∧ (b = true → PySem.W.kitOne K tv (.type "bool") = some true)
theorem ItAt.same {K : PySem.W.Frag} {H H' : Hp} {o : Option Int} {v : V} (h : ItAt K H o v) (s : Same H H') : ItAt K H' o v := by
  cases o with
  | some z => exact h
  | none =>
    obtain ⟨tv, b, a, c⟩ := h
    exact ⟨tv, b, tyx_same s a, c⟩
theorem ItAt.ty {K : PySem.W.Frag} {H : Hp} {o : Option Int} {v : V} (h : ItAt K H o v) : ∃ tv b, TyX K H v tv ∧ PySem.W.kitOne K tv (.type "int") = some b ∧ (b = true → PySem.W.kitOne K tv (.type "bool") = some (!o.isSome)) ∧ (o.isSome = true → b = true) := by
  cases o with
  | some i =>
    have e : v = .int i := h
    subst e
    exact ⟨_, true, .base (.int i), kit_ty (r := true) (by decide +kernel), fun _ => kit_ty (r := false) (by decide +kernel), fun _ => rfl⟩
  | none =>
    obtain ⟨tv, b, a, c, d⟩ := h
    exact ⟨tv, b, a, c, d, fun z => nomatch z⟩
/-- the makers: a tuple, or none -/
def MkAt (K : PySem.W.Frag) (H : Hp) : Option (List (Option Int)) → V → Prop
  | some os, v => ∃ a ys, v = .ref a ∧ SqT K H a ys ∧ ys.length = os.length ∧ os.length ≤ 100 ∧ ∀ (i : Nat) o y, os[i]? = some o → ys[i]? = some y → ItAt K H o y
  | none, v => Nt K H v "tuple"
theorem sqt_same {K : PySem.W.Frag} {H H' : Hp} {a : Addr} {xs : List V} (h : SqT K H a xs) (e : Same H H') : SqT K H' a xs := h.ext e
theorem MkAt.same {K : PySem.W.Frag} {H H' : Hp} {o : Option (List (Option Int))} {v : V} (h : MkAt K H o v) (s : Same H H') : MkAt K H' o v := by
  cases o with
  | some z =>
    obtain ⟨a, ys, e, t, l, l2, k⟩ := h
    exact ⟨a, ys, e, sqt_same t s, l, l2, fun i o y h1 h2 => (k i o y h1 h2).same s⟩
  | none => exact Nt.same h s
theorem mk_ty {K : PySem.W.Frag} {H : Hp} {o : Option (List (Option Int))} {v : V} (h : MkAt K H o v) (ht : ∀ a ys, v = .ref a → SqT K H a ys → TyX K H v (.type "tuple")) : ∃ tv, TyX K H v tv ∧ PySem.W.kitOne K tv (.type "tuple") = some o.isSome := by
  cases o with
  | some os =>
    obtain ⟨a, ys, e, t, _⟩ := h
    exact ⟨_, ht a ys e t, kit_ty (r := true) (by decide +kernel)⟩
  | none => exact h
def words : List Str := ["once", "loan", "free", "more"]
def itOk (o : Option Int) : Bool := match o with
  | some i => decide (1 ≤ i) && decide (i ≤ 12)
  | none => false
def mkOk (z : Str) (o : Option (List (Option Int))) : Bool := match o with
  | some os => if z = "more" then decide (1 ≤ os.length) && decide (os.length ≤ 4) && os.all itOk else decide (os.length = 0)
  | none => false
/-- the first part that is not as told -/
def duePart (wd : Option Str) (mk : Option (List (Option Int))) : Option Str := match wd with
  | some z => if words.contains z = true then (if mkOk z mk = true then none else some "makers") else some "word"
  | none => some "word"
end K03

set_option Elab.async false
set_option linter.all false
set_option maxRecDepth 100000
set_option maxHeartbeats 2000000
namespace K03
open PySem L2
abbrev sSInit : Stmt := inClass (top 9) 0
theorem sqt_ty {K : PySem.W.Frag} {H : Hp} {a : Addr} {ys : List V} (h : SqT K H a ys) : TyX K H (.ref a) (.type "tuple") := by
  rcases h with h | ⟨o, its, n, hk, hc, _⟩
  · rcases h with h | ⟨o, h⟩
    · exact .base (.tup h)
    · exact .fTuple h
  · exact .kTuple hk hc
theorem MkAt.ty {K : PySem.W.Frag} {H : Hp} {o : Option (List (Option Int))} {v : V} (h : MkAt K H o v) : ∃ tv, TyX K H v tv ∧ PySem.W.kitOne K tv (.type "tuple") = some o.isSome :=
  mk_ty h fun a ys e t => e ▸ sqt_ty t
def nI (m : Nat) : V := .int (m : Int)
/-- the attributes of a Sums object on the way, and whole -/
def SF (la : Addr) (g : Nat) : List (Str × V) := [(("_least" : Str), .ref la), (("step" : Str), nI g)]
def SFull (la tk : Addr) (g far : Nat) : List (Str × V) := [(("_least" : Str), .ref la), (("step" : Str), nI g), (("makers" : Str), .ref tk), (("far" : Str), nI far)]
theorem sf_1 {la : Addr} {g : Nat} : putF "step" (nI g) (putF "_least" (.ref la) []) = SF la g := by
  have h1 : ¬ (("_least" : Str) = "step") := by decide +kernel
  simp only [putF, if_neg h1, SF]
theorem sf_2 {la : Addr} {g g' : Nat} : putF "step" (nI g') (SF la g) = SF la g' := by
  have h1 : ¬ (("_least" : Str) = "step") := by decide +kernel
  simp only [putF, SF, if_neg h1, if_true]
theorem sf_3 {la tk : Addr} {g far : Nat} : putF "far" (nI far) (putF "makers" (.ref tk) (SF la g)) = SFull la tk g far := by
  have h1 : ¬ (("_least" : Str) = "makers") := by decide +kernel
  have h2 : ¬ (("step" : Str) = "makers") := by decide +kernel
  have h3 : ¬ (("_least" : Str) = "far") := by decide +kernel
  have h4 : ¬ (("step" : Str) = "far") := by decide +kernel
  have h5 : ¬ (("makers" : Str) = "far") := by decide +kernel
  simp only [putF, SF, SFull, if_neg h1, if_neg h2, if_neg h3, if_neg h4, if_neg h5]
theorem sf_least {la : Addr} {g : Nat} : (SF la g).lookup ("_least" : Str) = some (.ref la) := rfl
theorem sf_step {la : Addr} {g : Nat} : (SF la g).lookup ("step" : Str) = some (nI g) := rfl
theorem sf_has {la : Addr} {g : Nat} : (SF la g).lookup ("has" : Str) = none := rfl
theorem sf_widen {la : Addr} {g : Nat} : (SF la g).lookup ("_widen" : Str) = none := rfl
theorem sf_round {la : Addr} {g : Nat} : (SF la g).lookup ("_go_round" : Str) = none := rfl
/-- a Sums object that is whole -/
structure SumOb (CS : Addr) (H : Hp) (s tk : Addr) (M : List Nat) (la : Addr) (a : Nat) (L : Nat → Option Nat) (kept : List Nat) (far : Nat) : Prop where
  ob : ∃ dx, H s = some (.ins CS dx (SFull la tk (gcdL kept) far))
  ls : H la = some (.lst ((List.range a).map fun k => oV (L k)))
  mkr : H tk = some (.tup (kept.map nI))
  ok : SumsOk a L kept
  kp : Kept kept M
  ab : a ≤ 1000
  fr : ∀ k, k < a → ∀ v, L k = some v → v ≤ far
  fe : ∃ k, k < a ∧ L k = some far
theorem SumOb.same {CS : Addr} {H H' : Hp} {s tk : Addr} {M : List Nat} {la : Addr} {a : Nat} {L : Nat → Option Nat} {kept : List Nat} {far : Nat} (h : SumOb CS H s tk M la a L kept far) (e : Same H H') : SumOb CS H' s tk M la a L kept far := by
  obtain ⟨dx, h1⟩ := h.ob
  exact ⟨⟨dx, e _ _ h1⟩, e _ _ h.ls, e _ _ h.mkr, h.ok, h.kp, h.ab, h.fr, h.fe⟩
theorem Kept.congr {kept M M' : List Nat} (h : Kept kept M) (e : ∀ x, x ∈ M ↔ x ∈ M') : Kept kept M' :=
  ⟨h.asc, fun x hx => (e x).mp (h.sub x hx), fun x hx => h.all x ((e x).mpr hx), h.new⟩
def L0 : Nat → Option Nat := fun k => if k = 0 then some 0 else none
theorem l0_map {a : Nat} (h : 0 < a) : (List.range a).map (fun k => oV (L0 k)) = .int 0 :: List.replicate (a - 1) .non := by
  apply List.ext_getElem?; intro j
  cases j with
  | zero => rw [List.getElem?_map, List.getElem?_range h]; rfl
  | succ j =>
    rw [List.getElem?_map, List.getElem?_cons_succ, List.getElem?_replicate]
    by_cases c : j + 1 < a
    · rw [List.getElem?_range c, if_pos (by omega)]
      rfl
    · rw [List.getElem?_eq_none (by rw [List.length_range]; omega), if_neg (by omega)]
      rfl
/-- so far in the walk over the ascending numbers -/
structure Walk (a : Nat) (st : List Nat × (Nat → Option Nat)) (seen : List Nat) : Prop where
  f : FeedOk a st seen
  k : Kept st.1 seen
theorem walk_one {a : Nat} (ha : 0 < a) : Walk a ([a], L0) [a] := by
  refine ⟨feed_one ha, List.pairwise_singleton _ _, fun x hx => hx, fun x hx => .one hx, fun x hx z => ?_⟩
  rw [List.mem_singleton] at hx
  subst hx
  have e : [x].filter (· < x) = [] := by rw [List.filter_cons_of_neg (by simp)]; rfl
  rw [e] at z
  have : 0 < x := ha
  cases z with
  | zero => omega
  | add _ hm => cases hm
theorem Walk.next {a x : Nat} {st : List Nat × (Nat → Option Nat)} {seen : List Nat} (h : Walk a st seen) (hx : ∀ y ∈ seen, y ≤ x) : Walk a (feed a st x) (seen ++ [x]) := by
  refine ⟨feed_ok h.f, ?_⟩
  unfold feed
  by_cases c : hasB a st.2 x = true
  · rw [if_pos c]; exact h.k.skip ((h.f.ok.has x).mp c)
  · rw [if_neg c]; exact h.k.more hx fun z => c ((h.f.ok.has x).mpr z)
/-- the number of this turn -/
theorem walk_turn {asc : List Nat} {a i n : Nat} {st : List Nat × (Nat → Option Nat)} (ha : asc[0]? = some a) (hs : asc.Pairwise (· ≤ ·)) (hi : asc[i]? = some n) (h : Walk a st (a :: asc.take i)) : Walk a (feed a st n) (a :: asc.take (i + 1)) := by
  have hi2 : i < asc.length := (List.getElem?_eq_some_iff.mp hi).1
  have en : asc[i] = n := (List.getElem?_eq_some_iff.mp hi).2
  have h0 : 0 < asc.length := by omega
  have e0 : asc[0] = a := (List.getElem?_eq_some_iff.mp ha).2
  have le : ∀ j (hj : j < asc.length), j ≤ i → asc[j] ≤ n := fun j hj l => by
    rcases Nat.lt_or_eq_of_le l with l | l
    · have := List.pairwise_iff_getElem.mp hs j i hj hi2 l
      rw [en] at this; exact this
    · subst l; rw [en]; exact Nat.le_refl _
  rw [List.take_add_one, hi]
  show Walk a _ ((a :: asc.take i) ++ [n])
  refine h.next fun y hy => ?_
  obtain e | hy := List.mem_cons.mp hy
  · rw [e, ← e0]; exact le 0 h0 (Nat.zero_le _)
  · obtain ⟨j, hj, e⟩ := List.mem_iff_getElem.mp hy
    rw [List.length_take] at hj
    rw [List.getElem_take] at e
    rw [← e]
    exact le j (by omega) (by omega)
theorem feed_gcd {a n : Nat} {st : List Nat × (Nat → Option Nat)} : gcdL (feed a st n).1 = if hasB a st.2 n = true then gcdL st.1 else Nat.gcd (gcdL st.1) n := by
  unfold feed
  by_cases c : hasB a st.2 n = true
  · rw [if_pos c, if_pos c]
  · rw [if_neg c, if_neg c, gcdL_snoc]
/-- the least sums that are there, up to the k-th -/
def leasts (L : Nat → Option Nat) (k : Nat) : List Nat := (List.range k).filterMap L
theorem leasts_succ {L : Nat → Option Nat} {k : Nat} : leasts L (k + 1) = leasts L k ++ (L k).toList := by
  unfold leasts
  rw [List.range_succ, List.filterMap_append]
  cases h : L k <;> simp [h]
theorem mem_leasts {L : Nat → Option Nat} {k v : Nat} : v ∈ leasts L k ↔ ∃ j, j < k ∧ L j = some v := by
  unfold leasts
  rw [List.mem_filterMap]
  simp
theorem len_leasts {L : Nat → Option Nat} {k : Nat} : (leasts L k).length ≤ k := by
  unfold leasts
  have := List.length_filterMap_le L (List.range k)
  rwa [List.length_range] at this
def spSInit (K : PySem.W.Frag) (CS : Addr) : Sp := fun vs H Q _ => ∃ (x t dx : Addr) (ms : List Nat), vs = [.ref x, .ref t] ∧ H x = some (.ins CS dx []) ∧ (SqT K H t (ms.map nI) ∨ SqL K H t (ms.map nI)) ∧ 0 < ms.length ∧ ms.length ≤ 100 ∧ (∀ m ∈ ms, 1 ≤ m ∧ m ≤ 1000) ∧
  ∀ H' tk la a L kept far, (∀ b o, b ≠ x → H b = some o → H' b = some o) → SumOb CS H' x tk ms la a L kept far → Q .non H'
end K03

set_option Elab.async false
set_option linter.all false
set_option maxRecDepth 100000
set_option maxHeartbeats 2000000
namespace L2
open PySem PySem.Spec PyProof.Rows
/-- sorted(t), t a tuple of ints -/
def rSortTI (K : PySem.W.Frag) : List V → Hp → VK → Prop := fun vs H Q => ∃ (tp : Addr) (zs : List Int), vs = [.ref tp] ∧ SqT K H tp (zs.map V.int) ∧ ∀ (up : List Int) (p : Addr), up.Perm zs → up.Pairwise (· ≤ ·) → H p = none → Q (.ref p) (upd H p (.lst (up.map V.int)))
theorem cr_sortTI {X : Cx} : CallR X (.builtin "sorted") (rSortTI X.K) := by
  rintro pins s σ H _ us Q I r ⟨tp, zs, rfl, at_, q⟩
  obtain ⟨its, rv, ⟨o, here, isT, n, dat⟩, small⟩ := I.tuple at_
  cases Vals.ref1 r
  have few : its.length ≤ sizeLine := rv.length ▸ small
  have isI := rv.ints
  refine GQ.sortedTup SrtO.swo_int here isT dat few (fun two h₁ _ _ _ => SrtO.ints_sortable isI two) fun out o1 o2 => ?_
  obtain ⟨e1, perm, asc⟩ := SrtO.ints_out isI o1 o2
  obtain ⟨ep, there⟩ := PyProof.Rows.sortedAll_at (s.heap) its (out.toArray)
  have len : ((out.map SrtO.iv).map V.int).length ≤ sizeLine := by
    simp only [List.length_map, perm.length_eq] at small ⊢; exact small
  have J := I.laid (t' := s.toks) (o := .lst ((out.map SrtO.iv).map V.int)) (fun _ _ => PyProof.Rows.sortedAll_old) (Nat.le_succ _) ⟨len, out, ep, vals_of_ints e1, there⟩
  exact ⟨.ref (s.heap.objs.size + 1), _, J, rfl, q _ _ perm asc (I.hok.fresh (Nat.le_succ _))⟩
/-- sorted(t), t a tuple or a list of ints -/
def rSortTL (K : PySem.W.Frag) : List V → Hp → VK → Prop := fun vs H Q => ∃ (tp : Addr) (zs : List Int), vs = [.ref tp] ∧ (SqT K H tp (zs.map V.int) ∨ SqL K H tp (zs.map V.int)) ∧ ∀ (up : List Int) (p : Addr), up.Perm zs → up.Pairwise (· ≤ ·) → H p = none → Q (.ref p) (upd H p (.lst (up.map V.int)))
theorem cr_sortTL {X : Cx} : CallR X (.builtin "sorted") (rSortTL X.K) := by
  rintro pins s σ H vs us Q I r ⟨tp, zs, e, at_, q⟩
  rcases at_ with at_ | at_
  · exact cr_sortTI pins s σ H vs us Q I r ⟨tp, zs, e, at_, q⟩
  · exact cr_sortedI pins s σ H vs us Q I r ⟨tp, zs, e, at_, q⟩
end L2
namespace K03
open PySem L2
/-- ascending naturals of the ascending ints -/
theorem nats_of {ms : List Nat} {ns : List Int} (h : ns.Perm (ms.map fun m : Nat => (m : Int))) (hs : ns.Pairwise (· ≤ ·)) : ∃ asc : List Nat, ns = asc.map (fun m : Nat => (m : Int)) ∧ asc.Perm ms ∧ asc.Pairwise (· ≤ ·) := by
  have all : ∀ n ∈ ns, 0 ≤ n := fun n hn => by
    obtain ⟨m, _, e⟩ := List.mem_map.mp (h.mem_iff.mp hn)
    rw [← e]; exact Int.natCast_nonneg m
  have e : ns = (ns.map Int.toNat).map (fun m : Nat => (m : Int)) := by
    rw [List.map_map]
    have : ∀ l : List Int, (∀ n ∈ l, 0 ≤ n) → l = l.map ((fun m : Nat => (m : Int)) ∘ Int.toNat) := fun l => by
      induction l with
      | nil => intro _; rfl
      | cons a l ih =>
        intro hl
        rw [List.map_cons, ← ih fun n hn => hl n (List.mem_cons_of_mem _ hn)]
        show a :: l = ((a.toNat : Nat) : Int) :: l
        rw [Int.toNat_of_nonneg (hl a List.mem_cons_self)]
    exact this ns all
  refine ⟨ns.map Int.toNat, e, ?_, ?_⟩
  · have := h.map Int.toNat
    rw [List.map_map] at this
    have e2 : (ms.map (Int.toNat ∘ fun m : Nat => (m : Int))) = ms := by
      have : (Int.toNat ∘ fun m : Nat => (m : Int)) = id := by funext m; simp
      rw [this, List.map_id]
    rwa [e2] at this
  · rw [List.pairwise_map]
    exact hs.imp fun {a b} h => Int.toNat_le_toNat h
section
variable {P : Program} {w : World} {K : PySem.W.Frag} {mg : Str → Option Value} {base : Heap} {CS : Addr}
/-- further names of the text -/
structure TxD (mg : Str → Option Value) : Prop where
  tuple : mg "tuple" = none
  list : mg "list" = none
  dict : mg "dict" = none
  bool : mg "bool" = none
  str : mg "str" = none
  sorted : mg "sorted" = none
  max : mg "max" = none
  any : mg "any" = none
  gcd : mg "gcd" = some (.builtin "math.gcd")
theorem scSInit : FnScope ["self", "numbers", "ascending", "kept", "number", "least"] ["self", "numbers"] (defScope sSInit) := ⟨rfl, rfl, rfl, by decide +kernel, rfl, by decide +kernel, by decide +kernel⟩
theorem ok_sinit {f fH fW fR fL : Addr} {fd fdH fdW fdR fdL : FuncData} (F : Fun K "__init__" "Sums.__init__" sSInit f fd) (FH : Fun K "has" "Sums.has" sSHas fH fdH) (bH : Binds K fdH ["self", "number"] []) (mH : Meth K CS "has" fH)
    (FW : Fun K "_widen" "Sums._widen" sSWiden fW fdW) (bW : Binds K fdW ["self", "maker"] []) (mW : Meth K CS "_widen" fW) (FR : Fun K "_go_round" "Sums._go_round" sSRound fR fdR) (bR : Binds K fdR ["self", "start", "maker", "length"] []) (mR : Meth K CS "_go_round" fR)
    (NL : Fn K mg "_lesser" sLesser ["total", "other"] fL fdL) (T : TxB mg) (T2 : TxD mg) (S : SumT K CS) : FnOk P w K mg base CX0 4 f fd ["self", "numbers"] (spSInit K CS) := by
  have GH : FnOk P w K mg base CX0 1 fH fdH ["self", "number"] (spSHas CS) := ok_shas FH T S
  have GW : FnOk P w K mg base CX0 3 fW fdW ["self", "maker"] (spWiden CS) := ok_widen FW FR bR mR NL T S T2.gcd
  refine F.ok scSInit (fun vs H Q E h => ?_) (fun cdv A outer s H vs Q E hr h => ?_)
  · obtain ⟨x, t, dx, ms, rfl, _⟩ := h
    rfl
  · obtain ⟨x, t, dx, ms, rfl, hx, ht, h0, h60, hms, k⟩ := h
    have nd := scSInit.nd
    have hu := hu_of hr
    have hr1 := hr.mono (show 1 ≤ 3 by decide)
    refine ⟨_, pss_cons (ps_set (i := 2) nd rfl (Or.inl rfl) (pe_callB cr_sortTL (by rfl) T2.sorted (by decide +kernel) (pa_cons (pv 1) pa_nil)))
      (pss_cons (ps_fld (pv 0) (pe_op op_cat (pe_lst (pa_cons pe_int pa_nil)) (pe_op op_rep (pe_lst (pa_cons pe_non pa_nil)) (pe_op op_sub (pe_ix ix_list (pv 2) pe_int (fun _ _ => rfl)) pe_int))) rfl)
      (pss_cons (ps_fld (pv 0) (pe_ix ix_list (pv 2) pe_int (fun _ _ => rfl)) rfl)
      (pss_cons (ps_set (i := 3) nd rfl (Or.inl rfl) (pe_lst (pa_cons (pe_ix ix_list (pv 2) pe_int (fun _ _ => rfl)) pa_nil)))
      (pss_cons (ps_for PassesOwn.never rfl (pi_list (pv 2)) (pg_name (i := 4) nd rfl (Or.inl rfl))
        (pss_one (ps_if (pt_not (pt_val (pe_meth (pv 0) S.cl mH GH hr1 bH .nil pass0 (pa_cons (pv 4) pa_nil))))
          (pss_cons (ps_expr (pe_bm PySem.F.plainAttrs_list PySem.F.slot_list_append PySem.F.type_list_append mt_append (pv 3) (pa_cons (pv 4) pa_nil)))
          (pss_cons (ps_fld (pv 0) (pe_callBfun cr_gcd (by rfl) T2.gcd (pa_cons (pe_fld (pv 0) rfl) (pa_cons (pv 4) pa_nil))) rfl)
          (pss_one (ps_expr (pe_meth (pv 0) S.cl mW GW hr bW .nil pass0 (pa_cons (pv 4) pa_nil)))))) pss_nil)))
      (pss_cons (ps_fld (pv 0) (pe_callTy call_tuple_of (by rfl) T2.tuple (by decide +kernel) (pa_cons (pv 3) pa_nil)) rfl)
      (pss_one (ps_fld (pv 0) (pe_callB (cr_max rfl) (by rfl) T2.max (by decide +kernel) (pa_cons (pe_lc (own := [("least", 5)]) (g := gName 5) (tt := _) rfl nd (pi_list (pe_fld (pv 0) rfl))
        (blkOk_by (N := ["self", "numbers", "ascending", "kept", "number", "least"]) (sc := defScope sSInit) (by decide +kernel)) (fun _ _ _ _ _ => pg_name (i := 5) nd rfl (Or.inl rfl)) (fun _ _ _ _ _ => pts_one (pt_cmpR op_notN (pv 5) pe_non (nomark _)))
        (fun _ _ _ _ _ => pv 5)) pa_nil)) rfl))))))), ?_⟩
    have emap : ms.map nI = (ms.map fun m : Nat => (m : Int)).map V.int := by rw [List.map_map]; rfl
    refine ⟨_, rfl, t, ms.map (fun m : Nat => (m : Int)), rfl, (by rw [← emap]; exact ht), fun ns as pm srt has => ?_⟩
    obtain ⟨asc, rfl, pa, ps⟩ := nats_of pm srt
    have easc : (asc.map fun m : Nat => (m : Int)).map V.int = asc.map nI := by rw [List.map_map]; rfl
    rw [easc]
    have lasc : asc.length = ms.length := pa.length_eq
    obtain ⟨a, ha⟩ : ∃ a, asc[0]? = some a := ⟨_, List.getElem?_eq_getElem (by omega)⟩
    have ham : a ∈ ms := pa.mem_iff.mp (List.mem_of_getElem? ha)
    have ha1 := hms a ham
    have hat : atI (asc.map nI) (0 : Int) = some (nI a) := atI_nat (j := 0) (by rw [List.getElem?_map, ha]; rfl)
    -- the heap's way up to the first store
    have big : ∀ n, n ≤ 2000 → n ≤ sizeLine := fun n h => Nat.le_of_lt (Nat.lt_of_le_of_lt (m := 2000) h (by decide))
    have s1 := same_new (o := .lst (asc.map nI)) (same_refl H) has
    have fa : upd H as (.lst (asc.map nI)) as = some (.lst (asc.map nI)) := upd_same
    generalize upd H as (.lst (asc.map nI)) = G1 at *
    refine ⟨(by show 1 ≤ sizeLine; decide), fun l0 hl0 => ?_⟩
    have s2 := same_new (o := .lst [.int 0]) (same_refl G1) hl0
    have f2 : upd G1 l0 (.lst [.int 0]) l0 = some (.lst [.int 0]) := upd_same
    generalize upd G1 l0 (.lst [.int 0]) = G2 at *
    refine ⟨(by show 1 ≤ sizeLine; decide), fun l1 hl1 => ?_⟩
    have s3 := same_new (o := .lst [.non]) (same_refl G2) hl1
    have f3 : upd G2 l1 (.lst [.non]) l1 = some (.lst [.non]) := upd_same
    generalize upd G2 l1 (.lst [.non]) = G3 at *
    have a3 := s3 _ _ (s2 _ _ fa)
    refine ⟨_, rfl, as, _, _, _, rfl, rfl, SqL.of a3, hat, _, _, rfl, rfl, ?_⟩
    refine ⟨l1, (a : Int) - 1, _, rfl, rfl, f3, by omega, by omega, (by show 1 * _ ≤ sizeLine; rw [Nat.one_mul]; exact big _ (by omega)), fun l2 hl2 => ?_⟩
    have er : (List.replicate ((a : Int) - 1).toNat [V.non]).flatten = List.replicate (a - 1) V.non := by
      rw [show ((a : Int) - 1).toNat = a - 1 by omega, List.flatten_replicate_singleton]
    rw [er]
    have s4 := same_new (o := .lst (List.replicate (a - 1) V.non)) (same_refl G3) hl2
    have f4 : upd G3 l2 (.lst (List.replicate (a - 1) V.non)) l2 = some (.lst (List.replicate (a - 1) V.non)) := upd_same
    generalize upd G3 l2 (.lst (List.replicate (a - 1) V.non)) = G4 at *
    refine ⟨l0, l2, _, _, rfl, rfl, s4 _ _ (s3 _ _ f2), f4, (by rw [List.length_replicate]; exact big _ (by show 1 + (a - 1) ≤ 2000; omega)), fun la hla => ?_⟩
    have el : ([V.int 0] ++ List.replicate (a - 1) V.non) = (List.range a).map fun k => oV (L0 k) := (l0_map (by omega)).symm
    rw [el]
    have s5 := same_new (o := .lst ((List.range a).map fun k => oV (L0 k))) (same_refl G4) hla
    have f5 : upd G4 la (.lst ((List.range a).map fun k => oV (L0 k))) la = some (.lst ((List.range a).map fun k => oV (L0 k))) := upd_same
    generalize upd G4 la (.lst ((List.range a).map fun k => oV (L0 k))) = G5 at *
    have s15 := same_trans s1 (same_trans s2 (same_trans s3 (same_trans s4 s5)))
    have nla : H la = none := same_none (same_trans s1 (same_trans s2 (same_trans s3 s4))) hla
    have a5 := s5 _ _ (s4 _ _ a3)
    have x5 := s15 _ _ hx
    have xla : x ≠ la := ne_of_none hx nla
    have xas : x ≠ as := ne_of_none hx has
    have las : la ≠ as := (ne_of_none (s4 _ _ a3) hla).symm
    clear s1 s2 s3 s4 s5 f2 f3 f4 hl0 hl1 hl2 hla a3
    refine ⟨_, rfl, x, CS, dx, _, rfl, x5, S.cl, S.nL, (by show 0 < 1000; decide), ?_⟩
    refine ⟨_, rfl, as, _, _, _, rfl, rfl, SqL.of (by rw [upd_ne xas.symm]; exact a5), hat, _, rfl, x, CS, dx, _, rfl, upd_same, S.cl, S.nS, (by show 1 < 1000; decide), ?_⟩
    rw [sf_1]
    have off6 : ∀ b o, b ≠ x → H b = some o → upd (upd G5 x (.ins CS dx (putF "_least" (.ref la) []))) x (.ins CS dx (SF la a)) b = some o := fun b o hb e => by rw [upd_ne hb, upd_ne hb]; exact s15 _ _ e
    have a6 : upd (upd G5 x (.ins CS dx (putF "_least" (.ref la) []))) x (.ins CS dx (SF la a)) as = some (.lst (asc.map nI)) := by rw [upd_ne xas.symm, upd_ne xas.symm]; exact a5
    have l6 : upd (upd G5 x (.ins CS dx (putF "_least" (.ref la) []))) x (.ins CS dx (SF la a)) la = some (.lst ((List.range a).map fun k => oV (L0 k))) := by rw [upd_ne xla.symm, upd_ne xla.symm]; exact f5
    have x6 : upd (upd G5 x (.ins CS dx (putF "_least" (.ref la) []))) x (.ins CS dx (SF la a)) x = some (.ins CS dx (SF la a)) := upd_same
    generalize upd (upd G5 x (.ins CS dx (putF "_least" (.ref la) []))) x (.ins CS dx (SF la a)) = G6 at *
    refine ⟨_, rfl, as, _, _, _, rfl, rfl, SqL.of a6, hat, (by show 1 ≤ sizeLine; decide), fun kp hkp => ?_⟩
    have nkp : H kp = none ∨ kp = x := by
      by_cases c : kp = x
      · exact .inr c
      · cases e : H kp with
        | none => exact .inl rfl
        | some o => have := off6 kp o c e; rw [hkp] at this; cases this
    have kpx : kp ≠ x := (ne_of_none x6 hkp).symm
    have nkp2 : H kp = none := nkp.resolve_right kpx
    have kpla : kp ≠ la := (ne_of_none l6 hkp).symm
    have kpas : kp ≠ as := (ne_of_none a6 hkp).symm
    refine ⟨_, rfl, as, rfl, ⟨_, SqL.of (by rw [upd_ne kpas.symm]; exact a6)⟩, for_list (xs := asc.map nI) (fun i σ H' => ∃ (st : List Nat × (Nat → Option Nat)) (t4 : Option V), σ = [some (.ref x), some (.ref t), some (.ref as), some (.ref kp), t4, none] ∧ Walk a st (a :: asc.take i) ∧
      (∀ b o, b ≠ x → H b = some o → H' b = some o) ∧ H' x = some (.ins CS dx (SF la (gcdL st.1))) ∧ H' la = some (.lst ((List.range a).map fun k => oV (st.2 k))) ∧ H' kp = some (.lst (st.1.map nI)) ∧ H' as = some (.lst (asc.map nI)) ∧ st.1.length ≤ i + 1)
      ⟨([a], L0), none, rfl, walk_one (by omega), fun b o hb e => ?_, ?_, ?_, upd_same, ?_, Nat.le_refl _⟩ (fun i σ H' _ h => by
        obtain ⟨_, _, _, _, _, _, _, _, q, _⟩ := h
        exact SqL.of q) ?_ ?_⟩
    · rw [upd_ne (ne_of_none e nkp2)]; exact off6 b o hb e
    · rw [upd_ne kpx.symm, x6]
      have : gcdL [a] = a := by unfold gcdL; simp
      show _ = some (HO.ins CS dx (SF la (gcdL [a])))
      rw [this]
    · rw [upd_ne kpla.symm]; exact l6
    · rw [upd_ne kpas.symm]; exact a6
    · rintro i v σ H' hv ⟨st, t4, rfl, wk, off, hx', hla', hkp', has', hlen⟩
      obtain ⟨n, hn, rfl⟩ : ∃ n, asc[i]? = some n ∧ v = nI n := by
        rw [List.getElem?_map] at hv
        cases e : asc[i]? with
        | none => rw [e] at hv; cases hv
        | some n => rw [e] at hv; exact ⟨n, rfl, (Option.some.inj hv).symm⟩
      have hi : i < asc.length := (List.getElem?_eq_some_iff.mp hn).1
      have wk' := walk_turn ha ps hn wk
      have sA : SumAt H' x la CS a st.2 := ⟨⟨dx, _, hx', sf_least⟩, hla'⟩
      refine ⟨_, rfl, x, dx, _, rfl, hx', sf_has, _, rfl, x, la, a, st.2, (n : Int), rfl, sA, by omega, _, rfl, ?_⟩
      rw [hasZ_nat]
      refine ite2 (fun c => ?_) (fun c => ?_)
      · have c2 : ¬ hasB a st.2 n = true := by simpa using c
        have ef : feed a st n = (st.1 ++ [n], K03.widen a n (a / Nat.gcd a n) st.2 (Nat.gcd a n)) := by unfold feed; rw [if_neg c2]
        have nas : H' kp = some (.lst (st.1.map nI)) := hkp'
        refine ⟨_, rfl, .inl ⟨rfl, _, SqL.of hkp'⟩, _, rfl, kp, _, _, rfl, rfl, hkp', (by rw [List.length_map]; exact small1000 (by omega)), ?_⟩
        have x1 : upd H' kp (.lst (st.1.map nI ++ [nI n])) x = some (.ins CS dx (SF la (gcdL st.1))) := by rw [upd_ne kpx.symm]; exact hx'
        refine ⟨_, rfl, x, CS, dx, _, _, rfl, x1, S.cl, S.nS, sf_step, _, rfl, _, _, rfl, _, rfl, x, CS, dx, _, rfl, x1, S.cl, S.nS, (by show 2 < 1000; decide), ?_⟩
        have e2 : putF "step" (V.int ((Nat.gcd ((gcdL st.1 : Nat) : Int).natAbs ((n : Nat) : Int).natAbs : Nat) : Int)) (SF la (gcdL st.1)) = SF la (gcdL (st.1 ++ [n])) := by
          rw [gcdL_snoc]
          exact sf_2 (g' := Nat.gcd (gcdL st.1) n)
        rw [e2]
        have x2 : upd (upd H' kp (.lst (st.1.map nI ++ [nI n]))) x (.ins CS dx (SF la (gcdL (st.1 ++ [n])))) x = some (.ins CS dx (SF la (gcdL (st.1 ++ [n])))) := upd_same
        have la2 : upd (upd H' kp (.lst (st.1.map nI ++ [nI n]))) x (.ins CS dx (SF la (gcdL (st.1 ++ [n])))) la = some (.lst ((List.range a).map fun k => oV (st.2 k))) := by rw [upd_ne xla.symm, upd_ne kpla.symm]; exact hla'
        have kp2 : upd (upd H' kp (.lst (st.1.map nI ++ [nI n]))) x (.ins CS dx (SF la (gcdL (st.1 ++ [n])))) kp = some (.lst ((st.1 ++ [n]).map nI)) := by rw [upd_ne kpx, upd_same, List.map_append]; rfl
        have as2 : upd (upd H' kp (.lst (st.1.map nI ++ [nI n]))) x (.ins CS dx (SF la (gcdL (st.1 ++ [n])))) as = some (.lst (asc.map nI)) := by rw [upd_ne xas.symm, upd_ne kpas.symm]; exact has'
        have off2 : ∀ b o, b ≠ x → H b = some o → upd (upd H' kp (.lst (st.1.map nI ++ [nI n]))) x (.ins CS dx (SF la (gcdL (st.1 ++ [n])))) b = some o := fun b o hb e => by rw [upd_ne hb, upd_ne (ne_of_none e nkp2)]; exact off b o hb e
        generalize upd (upd H' kp (.lst (st.1.map nI ++ [nI n]))) x (.ins CS dx (SF la (gcdL (st.1 ++ [n])))) = G7 at *
        refine ⟨_, rfl, x, dx, _, rfl, x2, sf_widen, _, rfl, x, la, dx, _, a, st.2, n, Nat.gcd a n, a / Nat.gcd a n, rfl, x2, sf_least, sf_round, ⟨⟨dx, _, x2, sf_least⟩, la2⟩, by omega, by omega, xla, rfl, (Nat.mul_div_cancel' (Nat.gcd_dvd_left a n)).symm, fun H2 o2 hl2 => ?_⟩
        refine ⟨feed a st n, _, rfl, wk', fun b o hb e => (o2 b (ne_of_none e nla)).trans (off2 b o hb e), ?_, ?_, ?_, ?_, ?_⟩
        · rw [o2 x xla, ef]; exact x2
        · rw [ef]; exact hl2
        · rw [o2 kp kpla, ef]; exact kp2
        · rw [o2 as las.symm]; exact as2
        · rw [ef]; show (st.1 ++ [n]).length ≤ _; rw [List.length_append]; show st.1.length + 1 ≤ _; omega
      · have c2 : hasB a st.2 n = true := by simpa using c
        have ef : feed a st n = st := by unfold feed; rw [if_pos c2]
        rw [ef] at wk'
        exact ⟨st, _, rfl, wk', off, hx', hla', hkp', has', by omega⟩
    · rintro σ H' ⟨st, t4, rfl, wk, off, hx', hla', hkp', has', hlen⟩
      rw [List.length_map, List.take_length] at wk
      rw [List.length_map] at hlen
      refine ⟨_, rfl, kp, _, rfl, .inl ⟨SqL.of hkp', fun tk htk => ?_⟩⟩
      have tkx : tk ≠ x := (ne_of_none hx' htk).symm
      have tkla : tk ≠ la := (ne_of_none hla' htk).symm
      have x1 : upd H' tk (.tup (st.1.map nI)) x = some (.ins CS dx (SF la (gcdL st.1))) := by rw [upd_ne tkx.symm]; exact hx'
      refine ⟨_, rfl, x, CS, dx, _, rfl, x1, S.cl, S.nM, (by show 2 < 1000; decide), ?_⟩
      have x2 : upd (upd H' tk (.tup (st.1.map nI))) x (.ins CS dx (putF "makers" (.ref tk) (SF la (gcdL st.1)))) x = some (.ins CS dx (putF "makers" (.ref tk) (SF la (gcdL st.1)))) := upd_same
      have la2 : upd (upd H' tk (.tup (st.1.map nI))) x (.ins CS dx (putF "makers" (.ref tk) (SF la (gcdL st.1)))) la = some (.lst ((List.range a).map fun k => oV (st.2 k))) := by rw [upd_ne xla.symm, upd_ne tkla.symm]; exact hla'
      have tk2 : upd (upd H' tk (.tup (st.1.map nI))) x (.ins CS dx (putF "makers" (.ref tk) (SF la (gcdL st.1)))) tk = some (.tup (st.1.map nI)) := by rw [upd_ne tkx, upd_same]
      have off2 : ∀ b o, b ≠ x → H b = some o → upd (upd H' tk (.tup (st.1.map nI))) x (.ins CS dx (putF "makers" (.ref tk) (SF la (gcdL st.1)))) b = some o := fun b o hb e => by
        rw [upd_ne hb, upd_ne (ne_of_none (off b o hb e) htk)]; exact off b o hb e
      generalize upd (upd H' tk (.tup (st.1.map nI))) x (.ins CS dx (putF "makers" (.ref tk) (SF la (gcdL st.1)))) = G8 at *
      have lk : (putF "makers" (.ref tk) (SF la (gcdL st.1))).lookup ("_least" : Str) = some (.ref la) := by
        rw [lookup_putF, if_neg (by decide +kernel)]; rfl
      refine ⟨_, rfl, x, CS, dx, _, _, rfl, x2, S.cl, S.nL, lk, la, rfl, ⟨_, SqL.of la2⟩, fun D hD => ?_⟩
      refine lc_list (K := K) (a := la) (xs := (List.range a).map fun k => oV (st.2 k)) (fun i H2 => (∀ b, b ≠ D → H2 b = G8 b) ∧ H2 D = some (.lst ((leasts st.2 i).map nI))) ⟨fun b hb => upd_ne hb, upd_same⟩ (fun i H2 _ p => SqL.of (by
        have : la ≠ D := ne_of_none la2 hD
        rw [p.1 la this]; exact la2)) ?_ ?_
      · rintro i v H2 hv ⟨h1, h2⟩
        have hi : i < a := by
          have := (List.getElem?_eq_some_iff.mp hv).1
          rwa [List.length_map, List.length_range] at this
        have ev : v = oV (st.2 i) := by
          rw [List.getElem?_map, List.getElem?_range hi] at hv
          exact (Option.some.inj hv).symm
        subst ev
        refine ⟨rfl, ?_⟩
        have ll := len_leasts (L := st.2) (k := i)
        cases c : st.2 i with
        | none =>
          refine ⟨_, rfl, rfl, _, rfl, ?_⟩
          refine ifF (by decide) ?_
          refine ⟨h1, ?_⟩
          rw [leasts_succ, c]
          show _ = some (HO.lst (List.map nI (leasts st.2 i ++ [])))
          rw [List.append_nil]
          exact h2
        | some u =>
          refine ⟨_, rfl, rfl, _, rfl, ?_⟩
          refine ifT (by rfl) ?_
          refine ⟨_, rfl, _, h2, (by rw [List.length_map]; exact small1000 (by omega)), fun b hb => (upd_ne hb).trans (h1 b hb), ?_⟩
          rw [upd_same, leasts_succ, c, List.map_append]
          rfl
      · rintro H2 ⟨h1, h2⟩
        rw [List.length_map, List.length_range] at h2
        have hD0 : G8 D = none := hD
        have xD : x ≠ D := ne_of_none x2 hD
        have eI : ∀ l : List Nat, l.map nI = (l.map fun m : Nat => (m : Int)).map V.int := fun l => by rw [List.map_map]; rfl
        have ok := wk.f.ok
        have have0 : ∃ v, st.2 0 = some v := by
          have := ok.full 0 .zero
          obtain ⟨v, e, _⟩ := hasB_iff.mp this
          rw [Nat.zero_mod] at e
          exact ⟨v, e⟩
        obtain ⟨v0, hv0⟩ := have0
        have m0 : v0 ∈ leasts st.2 a := mem_leasts.mpr ⟨0, by omega, hv0⟩
        refine ⟨D, (leasts st.2 a).map (fun m : Nat => (m : Int)), rfl, SqL.of (by rw [← eI]; exact h2), by rw [List.length_map]; exact List.length_pos_of_mem m0, fun m hm hmax => ?_⟩
        obtain ⟨far, hfar, rfl⟩ := List.mem_map.mp hm
        refine ⟨_, rfl, x, CS, dx, _, rfl, (by rw [h1 x xD]; exact x2), S.cl, S.nF, (by show 3 < 1000; decide), ?_⟩
        have ex : putF "far" (V.int ((far : Nat) : Int)) (putF "makers" (.ref tk) (SF la (gcdL st.1))) = SFull la tk (gcdL st.1) far := sf_3
        rw [ex]
        have offD : ∀ b o, b ≠ x → G8 b = some o → upd H2 x (.ins CS dx (SFull la tk (gcdL st.1) far)) b = some o := fun b o hb e => by
          rw [upd_ne hb, h1 b (ne_of_none e hD)]; exact e
        refine k _ tk la a st.2 st.1 far (fun b o hb e => offD b o hb (off2 b o hb e)) ⟨⟨dx, upd_same⟩, offD la _ xla.symm la2, offD tk _ tkx tk2, ok, wk.k.congr fun y => ?_, by omega, fun j hj v e => ?_, ?_⟩
        · rw [List.mem_cons, pa.mem_iff]
          exact ⟨fun z => z.elim (fun z => z ▸ ham) id, .inr⟩
        · have := hmax (v : Int) (List.mem_map.mpr ⟨v, mem_leasts.mpr ⟨j, hj, e⟩, rfl⟩)
          omega
        · obtain ⟨j, hj, e⟩ := mem_leasts.mp hfar
          exact ⟨j, hj, e⟩
end
end K03

set_option Elab.async false
set_option linter.all false
set_option maxRecDepth 100000
set_option maxHeartbeats 2000000
namespace K03
open PySem L2
abbrev sInteger : Stmt := top 2
abbrev sWithin : Stmt := top 3
abbrev sMk : Stmt := top 20
abbrev sLInit : Stmt := inClass (top 18) 0
abbrev sTake : Stmt := inClass (top 18) 1
abbrev sLEq : Stmt := inClass (top 18) 2
abbrev sLHas : Stmt := inClass (top 18) 3
def inB (lo hi : Int) (o : Option Int) : Bool := match o with
  | some i => decide (lo ≤ i) && decide (i ≤ hi)
  | none => false
def spInteger (K : PySem.W.Frag) : Sp := fun vs H Q _ => ∃ (v : V) (o : Option Int), vs = [v] ∧ ItAt K H o v ∧ Q (.bl o.isSome) H
def spWithin (K : PySem.W.Frag) : Sp := fun vs H Q _ => ∃ (lo hi : Int) (v : V) (o : Option Int), vs = [.int lo, .int hi, v] ∧ ItAt K H o v ∧ Q (.bl (inB lo hi o)) H
def spMk (K : PySem.W.Frag) : Sp := fun vs H Q _ => ∃ (z : Str) (v : V) (o : Option (List (Option Int))), vs = [.str z, v] ∧ MkAt K H o v ∧ ∀ H', Same H H' → Q (.bl (mkOk z o)) H'
theorem mkOk_more (os : List (Option Int)) : mkOk "more" (some os) = (decide (1 ≤ os.length) && decide (os.length ≤ 4) && os.all itOk) := by simp [mkOk]
theorem mkOk_else {z : Str} (h : z ≠ "more") (os : List (Option Int)) : mkOk z (some os) = decide (os.length = 0) := by simp [mkOk, h]
/-- numbers of the module -/
structure TxN (mg : Str → Option Value) : Prop where
  most : ∃ u, mg "MOST_MAKERS" = some (.int 4 u)
  great : ∃ u, mg "GREATEST_MAKER" = some (.int 12 u)
section
variable {P : Program} {w : World} {K : PySem.W.Frag} {mg : Str → Option Value} {base : Heap}
theorem scInteger : FnScope ["thing"] ["thing"] (defScope sInteger) := ⟨rfl, rfl, rfl, by decide +kernel, rfl, by decide +kernel, by decide +kernel⟩
theorem ok_integer {f : Addr} {fd : FuncData} (F : Fn K mg "is_integer" sInteger ["thing"] f fd) (T : TxB mg) (T2 : TxD mg) : FnOk P w K mg base CX0 1 f fd ["thing"] (spInteger K) := by
  refine F.F.ok scInteger (fun vs H Q E h => ?_) (fun cdv A outer s H vs Q E hr h => ?_)
  · obtain ⟨v, t, rfl, _⟩ := h
    rfl
  · obtain ⟨v, o, rfl, hv, k⟩ := h
    obtain ⟨tv, b, ty, k1, k2, k3⟩ := hv.ty
    refine ⟨_, pss_one (ps_ret (pe_and (pe_callB call_isi (by rfl) T.isinstance (by decide +kernel) (pa_cons (pv 0) (pa_cons (pe_bltn (v := .ty "int") (by rfl) T.int (by decide +kernel) rfl) pa_nil)))
      (pe_one (pe_not (pe_callB call_isi (by rfl) T.isinstance (by decide +kernel) (pa_cons (pv 0) (pa_cons (pe_bltn (v := .ty "bool") (by rfl) T2.bool (by decide +kernel) rfl) pa_nil))))))), ?_⟩
    refine ⟨_, rfl, _, _, _, _, _, rfl, .ty _, ty, k1, _, rfl, ?_⟩
    refine ite2 (fun c => ?_) (fun c => ?_)
    · refine ⟨_, rfl, _, _, _, _, _, rfl, .ty _, ty, k2 c, _, rfl, ?_⟩
      rw [Bool.not_not]
      exact k
    · have e : o.isSome = false := by
        cases h : o.isSome with
        | false => rfl
        | true => exact absurd (k3 h) c
      rw [e] at k
      exact k
theorem scWithin : FnScope ["low", "high", "thing"] ["low", "high", "thing"] (defScope sWithin) := ⟨rfl, rfl, rfl, by decide +kernel, rfl, by decide +kernel, by decide +kernel⟩
theorem ok_within {f f1 : Addr} {fd fd1 : FuncData} (F : Fn K mg "is_integer_within" sWithin ["low", "high", "thing"] f fd) (N1 : Fn K mg "is_integer" sInteger ["thing"] f1 fd1) (T : TxB mg) (T2 : TxD mg) : FnOk P w K mg base CX0 2 f fd ["low", "high", "thing"] (spWithin K) := by
  have G1 : FnOk P w K mg base CX0 1 f1 fd1 ["thing"] (spInteger K) := ok_integer N1 T T2
  refine F.F.ok scWithin (fun vs H Q E h => ?_) (fun cdv A outer s H vs Q E hr h => ?_)
  · obtain ⟨lo, hi, v, t, rfl, _⟩ := h
    rfl
  · obtain ⟨lo, hi, v, o, rfl, hv, k⟩ := h
    refine ⟨_, pss_one (ps_ret (pe_and (pe_call G1 hr (by rfl) N1.m N1.F.kp N1.b .nil pass0 (pa_cons (pv 2) pa_nil)) (pe_one (pe_chain op_le op_le (pv 0) (pv 2) (pv 1))))), ?_⟩
    refine ⟨_, rfl, v, o, rfl, hv, _, rfl, ?_⟩
    refine ite2 (fun c => ?_) (fun c => ?_)
    · obtain ⟨i, rfl⟩ := Option.isSome_iff_exists.mp c
      obtain rfl : v = .int i := hv
      refine ⟨_, rfl, _, rfl, _, _, rfl, rfl, _, rfl, ?_⟩
      refine ite2 (fun c2 => ?_) (fun c2 => ?_)
      · refine ⟨_, rfl, _, _, rfl, rfl, ?_⟩
        have e : inB lo hi (some i) = decide (i ≤ hi) := by show (decide (lo ≤ i) && decide (i ≤ hi)) = _; rw [c2, Bool.true_and]
        rw [e] at k
        exact k
      · have e : inB lo hi (some i) = false := by show (decide (lo ≤ i) && decide (i ≤ hi)) = _; rw [Bool.eq_false_iff.mpr c2, Bool.false_and]
        rw [e] at k
        exact k
    · have e : o = none := by
        cases o with
        | none => rfl
        | some i => exact absurd rfl c
      rw [e] at k
      exact k
theorem inB_it (o : Option Int) : inB 1 12 o = itOk o := by cases o <;> rfl
theorem scMk : FnScope ["word", "thing", "maker"] ["word", "thing"] (defScope sMk) := ⟨rfl, rfl, rfl, by decide +kernel, rfl, by decide +kernel, by decide +kernel⟩
theorem ok_mk {f f2 f1 : Addr} {fd fd2 fd1 : FuncData} (F : Fn K mg "_is_makers" sMk ["word", "thing"] f fd) (N2 : Fn K mg "is_integer_within" sWithin ["low", "high", "thing"] f2 fd2) (N1 : Fn K mg "is_integer" sInteger ["thing"] f1 fd1) (T : TxB mg) (T2 : TxD mg) (TN : TxN mg) : FnOk P w K mg base CX0 3 f fd ["word", "thing"] (spMk K) := by
  have G2 : FnOk P w K mg base CX0 2 f2 fd2 ["low", "high", "thing"] (spWithin K) := ok_within N2 N1 T T2
  obtain ⟨u4, h4⟩ := TN.most
  obtain ⟨u12, h12⟩ := TN.great
  refine F.F.ok scMk (fun vs H Q E h => ?_) (fun cdv A outer s H vs Q E hr h => ?_)
  · obtain ⟨z, v, o, rfl, _⟩ := h
    rfl
  · obtain ⟨z, v, o, rfl, hv, k⟩ := h
    have nd := scMk.nd
    refine ⟨_, pss_cons (ps_if (pt_not (pt_val (pe_callB call_isi (by rfl) T.isinstance (by decide +kernel) (pa_cons (pv 1) (pa_cons (pe_bltn (v := .ty "tuple") (by rfl) T2.tuple (by decide +kernel) rfl) pa_nil))))) (pss_one (ps_ret pe_bl)) pss_nil)
      (pss_cons (ps_if (pt_cmpR op_ne (pv 0) pe_str (nomark _)) (pss_one (ps_ret (pe_cmpR op_eq (pe_callB call_len (by rfl) T.len PySem.boot_len (pa_cons (pv 1) pa_nil)) pe_int (nomark _)))) pss_nil)
      (pss_cons (ps_if (pt_not (pt_chain op_le op_le pe_int (pe_callB call_len (by rfl) T.len PySem.boot_len (pa_cons (pv 1) pa_nil)) (pe_glob (v := .int 4) (by rfl) h4 ⟨_, rfl⟩))) (pss_one (ps_ret pe_bl)) pss_nil)
      (pss_one (ps_ret (pe_callB (cr_all rfl) (by rfl) T.all (by decide +kernel) (pa_cons (pe_lc (own := [("maker", 2)]) (g := gName 2) (tt := tYes) rfl nd (pi_tup (pv 1))
        (blkOk_by (N := ["word", "thing", "maker"]) (sc := defScope sMk) (by decide +kernel)) (fun _ _ _ _ _ => pg_name (i := 2) nd rfl (Or.inl rfl)) (fun _ _ _ _ _ => pts_nil)
        (fun _ _ _ _ _ => pe_call G2 hr (by rfl) N2.m N2.F.kp N2.b .nil pass0 (pa_cons pe_int (pa_cons (pe_glob (v := .int 12) (by rfl) h12 ⟨_, rfl⟩) (pa_cons (pv 2) pa_nil))))) pa_nil)))))), ?_⟩
    obtain ⟨tv, ty, kt⟩ := hv.ty
    refine ⟨_, rfl, _, _, _, _, _, rfl, .ty _, ty, kt, _, rfl, ?_⟩
    cases o with
    | none =>
      refine ifT rfl ?_
      exact k H (same_refl H)
    | some os =>
      refine ifF rfl ?_
      obtain ⟨a, ys, rfl, ht, hly, hlo, hit⟩ := hv
      refine ⟨_, rfl, rfl, _, rfl, ?_⟩
      refine ite2 (fun c => ?_) (fun c => ?_)
      · have c2 : z ≠ "more" := fun e => by subst e; revert c; simp
        refine ⟨_, rfl, _, _, rfl, .inr ⟨_, ht, rfl⟩, rfl, ?_⟩
        have e : mkOk z (some os) = decide (V.int (ys.length : Int) = V.int 0) := by
          have q0 : mkOk z (some os) = decide (os.length = 0) := mkOk_else c2 os
          rw [q0, hly]
          by_cases q : os.length = 0
          · rw [decide_eq_true q, decide_eq_true (by rw [q]; rfl)]
          · rw [decide_eq_false q, decide_eq_false fun h => q (by have := V.int.inj h; omega)]
        have k2 := k H (same_refl H)
        rw [e] at k2
        exact k2
      · have c2 : z = "more" := by
          have : ¬ ((!decide (V.str z = V.str "more")) = true) := c
          simp at this
          exact this
        subst c2
        have em : mkOk "more" (some os) = (decide (1 ≤ os.length) && decide (os.length ≤ 4) && os.all itOk) := mkOk_more os
        refine ⟨_, rfl, _, _, rfl, .inr ⟨_, ht, rfl⟩, _, _, rfl, rfl, _, rfl, ?_⟩
        refine ite2 (fun d1 => ?_) (fun d1 => ?_)
        · have d1' : 1 ≤ os.length := by have := of_decide_eq_true d1; omega
          refine ⟨_, _, rfl, rfl, _, rfl, ?_⟩
          refine ite2 (fun d2 => ?_) (fun d2 => ?_)
          · have d2' : ¬ os.length ≤ 4 := fun z => by
              have : decide ((ys.length : Int) ≤ 4) = true := decide_eq_true (by omega)
              rw [this] at d2; cases d2
            have k2 := k H (same_refl H)
            rw [em, decide_eq_false d2', Bool.and_false, Bool.false_and] at k2
            exact k2
          · have d2' : os.length ≤ 4 := by
              refine Classical.byContradiction fun z => d2 ?_
              have : decide ((ys.length : Int) ≤ 4) = false := decide_eq_false (by omega)
              rw [this]; rfl
            refine ⟨_, rfl, a, rfl, ⟨_, ht⟩, fun D hD => ?_⟩
            refine lc_tup (K := K) (a := a) (xs := ys) (fun i H' => Same H H' ∧ H' D = some (.lst ((os.take i).map fun o => V.bl (itOk o)))) ⟨same_new (same_refl H) hD, upd_same⟩ (fun i H' _ p => sqt_same ht p.1) ?_ ?_
            · rintro i y H' hy ⟨h1, h2⟩
              have hi : i < os.length := by rw [← hly]; exact (List.getElem?_eq_some_iff.mp hy).1
              refine ⟨rfl, ?_⟩
              refine yes_kept ?_
              refine ⟨_, rfl, 1, 12, y, os[i], rfl, (hit i _ _ (List.getElem?_eq_getElem hi) hy).same h1, ?_⟩
              refine ⟨_, h2, (by rw [List.length_map, List.length_take]; exact small1000 (by omega)), fun b u e => ?_, ?_⟩
              · rw [upd_ne (ne_of_none e hD)]; exact h1 b u e
              · rw [upd_same, List.take_add_one, List.getElem?_eq_getElem hi, List.map_append, inB_it]; rfl
            · rintro H' ⟨h1, h2⟩
              rw [hly, List.take_length] at h2
              refine ⟨D, os.map itOk, rfl, SqL.of (by rw [List.map_map]; exact h2), ?_⟩
              have k2 := k H' h1
              rw [em, decide_eq_true d1', decide_eq_true d2', Bool.and_self, Bool.true_and] at k2
              rw [List.all_map]
              exact k2
        · have d1' : ¬ 1 ≤ os.length := fun z => d1 (decide_eq_true (by omega))
          refine ⟨_, rfl, ?_⟩
          refine ifT rfl ?_
          have k2 := k H (same_refl H)
          rw [em, decide_eq_false d1', Bool.false_and, Bool.false_and] at k2
          exact k2
end
end K03

set_option Elab.async false
set_option linter.all false
set_option maxRecDepth 100000
set_option maxHeartbeats 2000000
namespace K03
open PySem L2
/-! ### flat lists as data -/
theorem dp_nats {K : PySem.W.Frag} {H : Hp} : ∀ l : List Nat, DpAll K H (l.map nI) (l.map fun m : Nat => PyData.int (m : Int))
  | [] => .nil
  | m :: l => .cons (.int _) (dp_nats l)
theorem dp_bools {K : PySem.W.Frag} {H : Hp} : ∀ l : List Bool, DpAll K H (l.map V.bl) (l.map PyData.bool)
  | [] => .nil
  | m :: l => .cons (.bl _) (dp_bools l)
theorem flat_ok : ∀ {l : List PyData}, (∀ d ∈ l, PyData.canLay0 d = true ∧ PyData.depth d = 0) → PyData.canLayAll0 l = true ∧ PyData.depthAll l = 0
  | [], _ => ⟨rfl, rfl⟩
  | d :: l, h => by
    have h1 := h d List.mem_cons_self
    have h2 := flat_ok fun e he => h e (List.mem_cons_of_mem _ he)
    refine ⟨?_, ?_⟩
    · show (PyData.canLay0 d && PyData.canLayAll0 l) = true
      rw [h1.1, h2.1]; rfl
    · show max (PyData.depth d) (PyData.depthAll l) = 0
      rw [h1.2, h2.2]; rfl
theorem shaped_tup {l : List PyData} (h : ∀ d ∈ l, PyData.canLay0 d = true ∧ PyData.depth d = 0) : SeqAt.shaped (.tuple l) = true := by
  obtain ⟨h1, h2⟩ := flat_ok h
  show (PyData.canLayAll0 l && decide (PyData.depthAll l + 1 ≤ 64)) = true
  rw [h1, h2]; rfl
theorem shaped_lst {l : List PyData} (h : ∀ d ∈ l, PyData.canLay0 d = true ∧ PyData.depth d = 0) : SeqAt.shaped (.list l) = true := by
  obtain ⟨h1, h2⟩ := flat_ok h
  show (PyData.canLayAll0 l && decide (PyData.depthAll l + 1 ≤ 64)) = true
  rw [h1, h2]; rfl
theorem nats_flat {l : List Nat} : ∀ d ∈ l.map (fun m : Nat => PyData.int (m : Int)), PyData.canLay0 d = true ∧ PyData.depth d = 0 := fun d hd => by
  obtain ⟨m, _, rfl⟩ := List.mem_map.mp hd
  exact ⟨rfl, rfl⟩
theorem bools_flat {l : List Bool} : ∀ d ∈ l.map PyData.bool, PyData.canLay0 d = true ∧ PyData.depth d = 0 := fun d hd => by
  obtain ⟨m, _, rfl⟩ := List.mem_map.mp hd
  exact ⟨rfl, rfl⟩
theorem eqv_nats : ∀ l l' : List Nat, PyData.eqvAll (l.map fun m : Nat => PyData.int (m : Int)) (l'.map fun m : Nat => PyData.int (m : Int)) = decide (l = l')
  | [], [] => rfl
  | [], _ :: _ => rfl
  | _ :: _, [] => rfl
  | a :: l, b :: l' => by
    show (((a : Int) == (b : Int)) && PyData.eqvAll (l.map fun m : Nat => PyData.int (m : Int)) (l'.map fun m : Nat => PyData.int (m : Int))) = _
    rw [eqv_nats l l', Bool.eq_iff_iff, Bool.and_eq_true, decide_eq_true_eq, decide_eq_true_eq, beq_iff_eq, List.cons.injEq]
    constructor
    · rintro ⟨h1, h2⟩; exact ⟨by omega, h2⟩
    · rintro ⟨h1, h2⟩; exact ⟨by omega, h2⟩
theorem eqv_bools : ∀ l l' : List Bool, PyData.eqvAll (l.map PyData.bool) (l'.map PyData.bool) = decide (l = l')
  | [], [] => rfl
  | [], _ :: _ => rfl
  | _ :: _, [] => rfl
  | a :: l, b :: l' => by
    show ((a == b) && PyData.eqvAll (l.map PyData.bool) (l'.map PyData.bool)) = _
    rw [eqv_bools l l', Bool.eq_iff_iff, Bool.and_eq_true, decide_eq_true_eq, decide_eq_true_eq, beq_iff_eq, List.cons.injEq]
/-! ### lots -/
def LF3 (z : Str) (t : Addr) (sv : V) : List (Str × V) := [(("word" : Str), .str z), (("makers" : Str), .ref t), (("_sums" : Str), sv)]
theorem lf_1 {z : Str} {t : Addr} {sv : V} : putF "_sums" sv (putF "makers" (.ref t) (putF "word" (.str z) [])) = LF3 z t sv := by
  have h1 : ¬ (("word" : Str) = "makers") := by decide +kernel
  have h2 : ¬ (("word" : Str) = "_sums") := by decide +kernel
  have h3 : ¬ (("makers" : Str) = "_sums") := by decide +kernel
  simp only [putF, if_neg h1, if_neg h2, if_neg h3, LF3]
theorem lf_2 {z : Str} {t t' : Addr} {sv sv' : V} : putF "makers" (.ref t') (putF "_sums" sv' (LF3 z t sv)) = LF3 z t' sv' := by
  have h1 : ¬ (("word" : Str) = "makers") := by decide +kernel
  have h2 : ¬ (("word" : Str) = "_sums") := by decide +kernel
  have h3 : ¬ (("makers" : Str) = "_sums") := by decide +kernel
  simp only [putF, if_neg h1, if_neg h2, if_neg h3, LF3, if_true]
theorem lf_word {z : Str} {t : Addr} {sv : V} : (LF3 z t sv).lookup ("word" : Str) = some (.str z) := rfl
theorem lf_makers {z : Str} {t : Addr} {sv : V} : (LF3 z t sv).lookup ("makers" : Str) = some (.ref t) := rfl
theorem lf_sums {z : Str} {t : Addr} {sv : V} : (LF3 z t sv).lookup ("_sums" : Str) = some sv := rfl
theorem lf_take {z : Str} {t : Addr} {sv : V} : (LF3 z t sv).lookup ("_take" : Str) = none := rfl
theorem lf_has {z : Str} {t : Addr} {sv : V} : (LF3 z t sv).lookup ("has" : Str) = none := rfl
theorem sfull_makers {la tk : Addr} {g far : Nat} : (SFull la tk g far).lookup ("makers" : Str) = some (.ref tk) := rfl
theorem sfull_least {la tk : Addr} {g far : Nat} : (SFull la tk g far).lookup ("_least" : Str) = some (.ref la) := rfl
theorem sfull_step {la tk : Addr} {g far : Nat} : (SFull la tk g far).lookup ("step" : Str) = some (nI g) := rfl
theorem sfull_far {la tk : Addr} {g far : Nat} : (SFull la tk g far).lookup ("far" : Str) = some (nI far) := rfl
theorem sfull_has {la tk : Addr} {g far : Nat} : (SFull la tk g far).lookup ("has" : Str) = none := rfl
/-- a lot: its word, its makers as told, the makers that are kept at t -/
inductive LotAt (CL CS : Addr) (H : Hp) (x : Addr) (z : Str) (M : List Nat) (t : Addr) (kept : List Nat) : Prop
  | plain (dx : Addr) (n : z ≠ "more") (ob : H x = some (.ins CL dx (LF3 z t .non))) (mk : H t = some (.tup [])) (k0 : kept = []) (m0 : M = [])
  | more (dx s la a : Addr) (L : Nat → Option Nat) (far : Nat) (n : z = "more") (ob : H x = some (.ins CL dx (LF3 z t (.ref s)))) (so : SumOb CS H s t M la a L kept far) (p : ∀ m ∈ M, 1 ≤ m ∧ m ≤ 100) (M0 : 0 < M.length)
theorem LotAt.same {CL CS : Addr} {H H' : Hp} {x : Addr} {z : Str} {M : List Nat} {t : Addr} {kept : List Nat} (h : LotAt CL CS H x z M t kept) (e : Same H H') : LotAt CL CS H' x z M t kept := by
  cases h with
  | plain dx n ob mk k0 m0 => exact .plain dx n (e _ _ ob) (e _ _ mk) k0 m0
  | more dx s la a L far n ob so p M0 => exact .more dx s la a L far n (e _ _ ob) (so.same e) p M0
theorem LotAt.fields {CL CS : Addr} {H : Hp} {x : Addr} {z : Str} {M : List Nat} {t : Addr} {kept : List Nat} (h : LotAt CL CS H x z M t kept) : ∃ dx sv, H x = some (.ins CL dx (LF3 z t sv)) ∧ H t = some (.tup (kept.map nI)) := by
  cases h with
  | plain dx n ob mk k0 m0 => exact ⟨dx, _, ob, by rw [k0]; exact mk⟩
  | more dx s la a L far n ob so p M0 => exact ⟨dx, _, ob, so.mkr⟩
/-- whether the lot holds a number -/
noncomputable def flagOf (z : Str) (M : List Nat) (n : Nat) : Bool := if z = "free" then true else if z = "more" then decide (1 ≤ n) && smB M (n - 1) else if z = "loan" then decide (n ≤ 1) else decide (n = 1)
theorem SumOb.has {CS : Addr} {H : Hp} {s tk : Addr} {M : List Nat} {la : Addr} {a : Nat} {L : Nat → Option Nat} {kept : List Nat} {far : Nat} (h : SumOb CS H s tk M la a L kept far) (n : Nat) : hasB a L n = smB M n := by
  rw [Bool.eq_iff_iff, h.ok.has, smB_iff, h.kp.same]
theorem SumOb.hasN {CS : Addr} {H : Hp} {s tk : Addr} {M : List Nat} {la : Addr} {a : Nat} {L : Nat → Option Nat} {kept : List Nat} {far : Nat} (h : SumOb CS H s tk M la a L kept far) (n : Nat) : hasZ a L ((n : Int) - 1) = (decide (1 ≤ n) && smB M (n - 1)) := by
  cases n with
  | zero =>
    show hasZ a L (-1) = false
    unfold hasZ
    cases L ((-1 : Int) % (a : Int)).toNat with
    | none => rfl
    | some v => exact decide_eq_false (by omega)
  | succ n =>
    rw [show ((n + 1 : Nat) : Int) - 1 = (n : Int) by omega, hasZ_nat, h.has]
    simp
/-- what the written part says of Lot -/
structure LotT (K : PySem.W.Frag) (mg : Str → Option Value) (CL aW fE : Addr) : Prop where
  cl : Cls K CL
  nW : NoAttr K CL "word"
  nM : NoAttr K CL "makers"
  nS : NoAttr K CL "_sums"
  mgL : mg "Lot" = some (.ref CL)
  mgW : mg "WORDS" = some (.ref aW)
  words : ∀ H : Hp, SqT K H aW [.str "once", .str "loan", .str "free", .str "more"]
  ha : PySem.W.findIn K (.ref CL) "__class__" = some (some (.builtin "object.__class__"))
  cg : PySem.W.specialIn K (.builtin "object.__class__") "__get__" = some (some (.builtin "getset_descriptor.__get__"))
  cTk : PySem.W.takesIn K (.builtin "object.__class__") = some true
  ow : OwnE K CL fE
def spTake (CL CS : Addr) : Sp := fun vs H Q _ => ∃ (x s dx dy t tk la : Addr) (z : Str) (g far : Nat), vs = [.ref x, .ref s] ∧ H x = some (.ins CL dx (LF3 z t .non)) ∧ H s = some (.ins CS dy (SFull la tk g far)) ∧ x ≠ s ∧
  ∀ H', (∀ b, b ≠ x → H' b = H b) → H' x = some (.ins CL dx (LF3 z tk (.ref s))) → Q .non H'
noncomputable def lotHasZ (z : Str) (M : List Nat) (n : Nat) : Bool := flagOf z M n
noncomputable def spLHas (CL CS : Addr) : Sp := fun vs H Q _ => ∃ (x : Addr) (n : Nat) (z : Str) (M : List Nat) (t : Addr) (kept : List Nat), vs = [.ref x, .int (n : Int)] ∧ LotAt CL CS H x z M t kept ∧ words.contains z = true ∧ Q (.bl (flagOf z M n)) H
section
variable {P : Program} {w : World} {K : PySem.W.Frag} {mg : Str → Option Value} {base : Heap} {CL CS aW fE : Addr}
theorem scTake : FnScope ["self", "sums"] ["self", "sums"] (defScope sTake) := ⟨rfl, rfl, rfl, by decide +kernel, rfl, by decide +kernel, by decide +kernel⟩
theorem ok_take {f : Addr} {fd : FuncData} (F : Fun K "_take" "Lot._take" sTake f fd) (L : LotT K mg CL aW fE) (S : SumT K CS) : FnOk P w K mg base CX0 1 f fd ["self", "sums"] (spTake CL CS) := by
  refine F.ok scTake (fun vs H Q E h => ?_) (fun cdv A outer s H vs Q E hr h => ?_)
  · obtain ⟨_, _, _, _, _, _, _, _, _, _, rfl, _⟩ := h
    rfl
  · obtain ⟨x, s, dx, dy, t, tk, la, z, g, far, rfl, hx, hs, xs, k⟩ := h
    refine ⟨_, pss_cons (ps_fld (pv 0) (pv 1) rfl) (pss_one (ps_fld (pv 0) (pe_fld (pv 1) rfl) rfl)), ?_⟩
    refine ⟨_, rfl, _, rfl, x, CL, dx, _, rfl, hx, L.cl, L.nS, (by show 3 < 1000; decide), ?_⟩
    refine ⟨_, rfl, s, CS, dy, _, _, rfl, (by rw [upd_ne xs.symm]; exact hs), S.cl, S.nM, sfull_makers, _, rfl, x, CL, dx, _, rfl, upd_same, L.cl, L.nM, (by have e : (putF "_sums" (.ref s) (LF3 z t .non)).length ≤ 4 := length_putF _ _ _; omega), ?_⟩
    rw [lf_2]
    exact k _ (fun b hb => by rw [upd_ne hb, upd_ne hb]) upd_same
theorem scLHas : FnScope ["self", "number"] ["self", "number"] (defScope sLHas) := ⟨rfl, rfl, rfl, by decide +kernel, rfl, by decide +kernel, by decide +kernel⟩
theorem ok_lhas {f fH : Addr} {fd fdH : FuncData} (F : Fun K "has" "Lot.has" sLHas f fd) (FH : Fun K "has" "Sums.has" sSHas fH fdH) (bH : Binds K fdH ["self", "number"] []) (mH : Meth K CS "has" fH) (T : TxB mg) (L : LotT K mg CL aW fE) (S : SumT K CS) : FnOk P w K mg base CX0 2 f fd ["self", "number"] (spLHas CL CS) := by
  have GH : FnOk P w K mg base CX0 1 fH fdH ["self", "number"] (spSHas CS) := ok_shas FH T S
  refine F.ok scLHas (fun vs H Q E h => ?_) (fun cdv A outer s H vs Q E hr h => ?_)
  · obtain ⟨_, _, _, _, _, _, rfl, _⟩ := h
    rfl
  · obtain ⟨x, n, z, M, t, kept, rfl, hl, hz, k⟩ := h
    refine ⟨_, pss_cons (ps_if (pt_cmpR op_eq (pe_fld (pv 0) rfl) pe_str (nomark _)) (pss_one (ps_ret pe_bl)) pss_nil)
      (pss_cons (ps_if (pt_cmpR op_eq (pe_fld (pv 0) rfl) pe_str (nomark _)) (pss_one (ps_ret (pe_meth (pe_fld (pv 0) rfl) S.cl mH GH hr bH .nil pass0 (pa_cons (pe_op op_sub (pv 1) pe_int) pa_nil)))) pss_nil)
      (pss_cons (ps_if (pt_cmpR op_eq (pe_fld (pv 0) rfl) pe_str (nomark _)) (pss_one (ps_ret (pe_cmpR op_le (pv 1) pe_int (nomark _)))) pss_nil)
      (pss_one (ps_ret (pe_cmpR op_eq (pv 1) pe_int (nomark _)))))), ?_⟩
    obtain ⟨dx, sv, ob, _⟩ := hl.fields
    unfold flagOf at k
    refine ⟨_, rfl, x, CL, dx, _, _, rfl, ob, L.cl, L.nW, lf_word, rfl, _, rfl, ?_⟩
    refine ite2 (fun c => ?_) (fun c => ?_)
    · have c2 : z = "free" := V.str.inj (of_decide_eq_true c)
      rw [if_pos c2] at k
      exact k
    · have c2 : z ≠ "free" := fun e => c (decide_eq_true (by rw [e]))
      rw [if_neg c2] at k
      refine ⟨_, rfl, x, CL, dx, _, _, rfl, ob, L.cl, L.nW, lf_word, rfl, _, rfl, ?_⟩
      refine ite2 (fun d => ?_) (fun d => ?_)
      · have d2 : z = "more" := V.str.inj (of_decide_eq_true d)
        rw [if_pos d2] at k
        cases hl with
        | plain dx n ob mk k0 m0 => exact absurd d2 n
        | more dx' s la a L' far n' ob' so p M0 =>
          obtain ⟨dy, hs⟩ := so.ob
          refine ⟨_, rfl, x, CL, dx', _, _, rfl, ob', L.cl, L.nS, lf_sums, s, dy, _, rfl, hs, sfull_has, _, rfl, _, _, rfl, rfl, s, la, a, L', (n : Int) - 1, rfl, ⟨⟨dy, _, hs, sfull_least⟩, so.ls⟩, so.ok.pos, ?_⟩
          rw [so.hasN]
          exact k
      · have d2 : z ≠ "more" := fun e => d (decide_eq_true (by rw [e]))
        rw [if_neg d2] at k
        refine ⟨_, rfl, x, CL, dx, _, _, rfl, ob, L.cl, L.nW, lf_word, rfl, _, rfl, ?_⟩
        refine ite2 (fun e => ?_) (fun e => ?_)
        · have e2 : z = "loan" := V.str.inj (of_decide_eq_true e)
          rw [if_pos e2] at k
          refine ⟨_, rfl, _, _, rfl, rfl, ?_⟩
          have q : decide ((n : Int) ≤ 1) = decide (n ≤ 1) := by rw [Bool.eq_iff_iff, decide_eq_true_eq, decide_eq_true_eq]; omega
          show Q (.bl (decide ((n : Int) ≤ 1))) H
          rw [q]
          exact k
        · have e2 : z ≠ "loan" := fun q => e (decide_eq_true (by rw [q]))
          rw [if_neg e2] at k
          refine ⟨_, rfl, rfl, ?_⟩
          have q : decide (V.int (n : Int) = V.int 1) = decide (n = 1) := by
            rw [Bool.eq_iff_iff]; rw [decide_eq_true_eq, decide_eq_true_eq]
            exact ⟨fun h => by have := V.int.inj h; omega, fun h => by rw [h]; rfl⟩
          show Q (.bl (decide (V.int (n : Int) = V.int 1))) H
          rw [q]
          exact k
end
end K03

set_option Elab.async false
set_option linter.all false
set_option maxRecDepth 100000
set_option maxHeartbeats 2000000
namespace K03
open PySem L2
theorem WdAt.ty {K : PySem.W.Frag} {H : Hp} {o : Option Str} {v : V} (h : WdAt K H o v) : ∃ tv, TyX K H v tv ∧ PySem.W.kitOne K tv (.type "str") = some o.isSome := by
  cases o with
  | some z =>
    have e : v = .str z := h
    subst e
    exact ⟨_, .base (.str z), kit_ty (r := true) (by decide +kernel)⟩
  | none => exact h
theorem inV_words (z : Str) : inV (.str z) [V.str "once", .str "loan", .str "free", .str "more"] = words.contains z := by
  have e : ∀ a : Str, eqV (.str a) (.str z) = (z == a) := fun a => by
    have : eqV (.str a) (.str z) = (a == z) := rfl
    rw [this, Bool.eq_iff_iff, beq_iff_eq, beq_iff_eq]
    exact ⟨fun h => h.symm, fun h => h.symm⟩
  show (eqV (.str "once") (.str z) || (eqV (.str "loan") (.str z) || (eqV (.str "free") (.str z) || (eqV (.str "more") (.str z) || false)))) = _
  rw [e, e, e, e]
  simp only [words, List.contains, List.elem]
  cases (z == ("once" : Str)) <;> cases (z == ("loan" : Str)) <;> cases (z == ("free" : Str)) <;> cases (z == ("more" : Str)) <;> rfl
theorem mk_nats {z : Str} {os : List (Option Int)} (h : mkOk z (some os) = true) : ∃ M : List Nat, os = M.map (fun m : Nat => some (m : Int)) ∧ (z ≠ "more" → M = []) ∧ (z = "more" → 0 < M.length ∧ M.length ≤ 4 ∧ ∀ m ∈ M, 1 ≤ m ∧ m ≤ 12) := by
  by_cases c : z = "more"
  · subst c
    rw [mkOk_more, Bool.and_eq_true, Bool.and_eq_true, decide_eq_true_eq, decide_eq_true_eq, List.all_eq_true] at h
    obtain ⟨⟨h1, h2⟩, h3⟩ := h
    have key : ∀ os : List (Option Int), (∀ o ∈ os, itOk o = true) → ∃ M : List Nat, os = M.map (fun m : Nat => some (m : Int)) ∧ ∀ m ∈ M, 1 ≤ m ∧ m ≤ 12 := by
      intro os
      induction os with
      | nil => intro _; exact ⟨[], rfl, fun m hm => by cases hm⟩
      | cons o os ih =>
        intro h
        obtain ⟨M, e, hM⟩ := ih fun o ho => h o (List.mem_cons_of_mem _ ho)
        have ho := h o List.mem_cons_self
        cases o with
        | none => cases ho
        | some i =>
          have ho' : (decide (1 ≤ i) && decide (i ≤ 12)) = true := ho
          rw [Bool.and_eq_true, decide_eq_true_eq, decide_eq_true_eq] at ho'
          refine ⟨i.toNat :: M, ?_, fun m hm => ?_⟩
          · rw [e, List.map_cons, Int.toNat_of_nonneg (by omega)]
          · obtain e | hm := List.mem_cons.mp hm
            · omega
            · exact hM m hm
    obtain ⟨M, e, hM⟩ := key os h3
    subst e
    rw [List.length_map] at h1 h2
    exact ⟨M, rfl, fun z => absurd rfl z, fun _ => ⟨h1, h2, hM⟩⟩
  · rw [mkOk_else c, decide_eq_true_eq] at h
    have : os = [] := List.eq_nil_of_length_eq_zero h
    exact ⟨[], this, fun _ => rfl, fun z => absurd z c⟩
theorem nats_at {K : PySem.W.Frag} {H : Hp} {M : List Nat} {v : V} (h : MkAt K H (some (M.map fun m : Nat => some (m : Int))) v) : ∃ a, v = .ref a ∧ SqT K H a (M.map nI) := by
  obtain ⟨a, ys, e, t, l, _, k⟩ := h
  refine ⟨a, e, ?_⟩
  rw [List.length_map] at l
  have : ys = M.map nI := by
    refine List.ext_getElem? fun i => ?_
    by_cases c : i < M.length
    · have h1 : (M.map fun m : Nat => some (m : Int))[i]? = some (some ((M[i] : Nat) : Int)) := by rw [List.getElem?_map, List.getElem?_eq_getElem c]; rfl
      have h2 : ys[i]? = some (ys[i]'(by omega)) := List.getElem?_eq_getElem (by omega)
      have := k i _ _ h1 h2
      rw [h2, show ys[i]'(by omega) = .int ((M[i] : Nat) : Int) from this, List.getElem?_map, List.getElem?_eq_getElem c]
      rfl
    · rw [List.getElem?_eq_none (by omega), List.getElem?_eq_none (by rw [List.length_map]; omega)]
  rw [← this]; exact t
theorem sqt_upd {K : PySem.W.Frag} {H : Hp} {t x : Addr} {xs : List V} {C dx : Addr} {fs : List (Str × V)} {o : HO} (h : SqT K H t xs) (hx : H x = some (.ins C dx fs)) : SqT K (upd H x o) t xs := by
  rcases h with h | h
  · refine .inl ?_
    rcases h with h | ⟨u, h⟩
    · refine .inl ?_
      rw [upd_ne (ne_of h hx (fun z => by cases z))]; exact h
    · refine .inr ⟨u, ?_⟩
      rw [upd_ne (ne_of h hx (fun z => by cases z))]; exact h
  · exact .inr h
def partO (part : Str) : HO := .xd [(("part" : Str), .str part)]
def spLInit (K : PySem.W.Frag) (CL CS CB : Addr) : Sp := fun vs H Q E => ∃ (x dx : Addr) (vw vm : V) (wd : Option Str) (mk : Option (List (Option Int))), vs = [.ref x, vw, vm] ∧ H x = some (.ins CL dx []) ∧ WdAt K H wd vw ∧ MkAt K H mk vm ∧
  (duePart wd mk = none → ∀ H' z M t kept, wd = some z → mk = some (M.map fun m : Nat => some (m : Int)) → (∀ b o, b ≠ x → H b = some o → H' b = some o) → LotAt CL CS H' x z M t kept → Q .non H') ∧
  (∀ part, duePart wd mk = some part → ∀ d H', Same H H' → H d = none → H' d = some (partO part) → E (.ref CB) (some d) H')
/-- what the written part says of the making of Sums -/
structure SumsF (K : PySem.W.Frag) (mg : Str → Option Value) (CS fS fH fW fR : Addr) (fdS fdH fdW fdR : FuncData) : Prop where
  M : Mk K CS fS
  m : mg "Sums" = some (.ref CS)
  F : Fun K "__init__" "Sums.__init__" sSInit fS fdS
  b : Binds K fdS ["self", "numbers"] []
  FH : Fun K "has" "Sums.has" sSHas fH fdH
  bH : Binds K fdH ["self", "number"] []
  mH : Meth K CS "has" fH
  FW : Fun K "_widen" "Sums._widen" sSWiden fW fdW
  bW : Binds K fdW ["self", "maker"] []
  mW : Meth K CS "_widen" fW
  FR : Fun K "_go_round" "Sums._go_round" sSRound fR fdR
  bR : Binds K fdR ["self", "start", "maker", "length"] []
  mR : Meth K CS "_go_round" fR
  S : SumT K CS
section
variable {P : Program} {w : World} {K : PySem.W.Frag} {mg : Str → Option Value} {base : Heap} {CL CS aW fE CB fB : Addr} {fdB : FuncData}
theorem scLI : FnScope ["self", "word", "makers"] ["self", "word", "makers"] (defScope sLInit) := ⟨rfl, rfl, rfl, by decide +kernel, rfl, by decide +kernel, by decide +kernel⟩
/-- what raises BadLot leaves -/
theorem bad_left {H : Hp} {a d CB : Addr} {part : Str} (ha : H a = none) (hd : H d = none) (hda : d ≠ a) : Same H (upd (del (upd (upd (upd H a (exo a CB none)) d (exd d [(("part" : Str), V.str part)])) a (exo a CB (some d))) a) d (partO part)) := fun b o e => by
  have h1 : b ≠ a := ne_of_none e ha
  have h2 : b ≠ d := ne_of_none e hd
  rw [upd_ne h2, del_ne h1, upd_ne h1, upd_ne h2, upd_ne h1]
  exact e
theorem ok_linit {f fM f2 f1 fT fS fH fW fR fL : Addr} {fd fdM fd2 fd1 fdT fdS fdH fdW fdR fdL : FuncData} (F : Fun K "__init__" "Lot.__init__" sLInit f fd) (T : TxB mg) (T2 : TxD mg) (TN : TxN mg) (L : LotT K mg CL aW fE)
    (NM : Fn K mg "_is_makers" sMk ["word", "thing"] fM fdM) (N2 : Fn K mg "is_integer_within" sWithin ["low", "high", "thing"] f2 fd2) (N1 : Fn K mg "is_integer" sInteger ["thing"] f1 fd1)
    (FT : Fun K "_take" "Lot._take" sTake fT fdT) (bT : Binds K fdT ["self", "sums"] []) (mT : Meth K CL "_take" fT) (SF : SumsF K mg CS fS fH fW fR fdS fdH fdW fdR) (NL : Fn K mg "_lesser" sLesser ["total", "other"] fL fdL)
    (B : BadT K mg CB fB fdB) : FnOk P w K mg base (L2.CX P w) 6 f fd ["self", "word", "makers"] (spLInit K CL CS CB) := by
  have GM : FnOk P w K mg base CX0 3 fM fdM ["word", "thing"] (spMk K) := ok_mk NM N2 N1 T T2 TN
  have GT : FnOk P w K mg base CX0 1 fT fdT ["self", "sums"] (spTake CL CS) := ok_take FT L SF.S
  have GS : FnOk P w K mg base CX0 4 fS fdS ["self", "numbers"] (spSInit K CS) := ok_sinit SF.F SF.FH SF.bH SF.mH SF.FW SF.bW SF.mW SF.FR SF.bR SF.mR NL T T2 SF.S
  refine F.okX scLI (fun vs H Q E h => ?_) (fun cdv A outer s H vs Q E hr h => ?_)
  · obtain ⟨x, dx, vw, vm, wd, mk, rfl, _⟩ := h
    rfl
  · obtain ⟨x, dx, vw, vm, wd, mk, rfl, hx, hw, hm, kq, ke⟩ := h
    have hu := hu_of hr
    have hr1 := hr.mono (show 1 ≤ 5 by decide)
    have hr2 := hr.mono (show 1 + 1 ≤ 5 by decide)
    have hr3 := hr.mono (show 3 ≤ 5 by decide)
    refine ⟨_, pss_cons (ps_if (PW.pt (pw_or (pt_not (pt_val (pe_callB call_isi (by rfl) T.isinstance (by decide +kernel) (pa_cons (pv 1) (pa_cons (pe_bltn (v := .ty "str") (by rfl) T2.str (by decide +kernel) rfl) pa_nil)))))
        (pw_or1 (pt_cmpR op_notIn_seq (pv 1) (pe_glob (v := .ref aW) (by rfl) L.mgW rfl) (by rfl))))) (pss_one (ps_raise rfl (takes_of rfl rfl rfl rfl) (pmk_oex B.err.ox B.i B.t (ok_bad B.F B.err.ox B.no) hr2 B.b .nil pass0 (by rfl) B.m (pa_cons pe_str pa_nil)))) pss_nil)
      (pss_cons (ps_if (pt_not (pt_val (pe_call GM hr3 (by rfl) NM.m NM.F.kp NM.b .nil pass0 (pa_cons (pv 1) (pa_cons (pv 2) pa_nil))))) (pss_one (ps_raise rfl (takes_of rfl rfl rfl rfl) (pmk_oex B.err.ox B.i B.t (ok_bad B.F B.err.ox B.no) hr2 B.b .nil pass0 (by rfl) B.m (pa_cons pe_str pa_nil)))) pss_nil)
      (pss_cons (ps_fld (pv 0) (pv 1) rfl)
      (pss_cons (ps_fld (pv 0) (pe_tup pa_nil) rfl)
      (pss_cons (ps_fld (pv 0) pe_non rfl)
      (pss_one (ps_if (pt_cmpR op_eq (pv 1) pe_str (nomark _)) (pss_one (ps_expr (pe_meth (pv 0) L.cl mT GT hr1 bT .nil pass0 (pa_cons (pe_make SF.M GS hr (by rfl) SF.m SF.b .nil pass0 (pa_cons (pv 2) pa_nil)) pa_nil)))) pss_nil)))))), ?_⟩
    have wordBad : ∀ {vs : St}, duePart wd mk = some "word" → ∀ a, H a = none → spBad K CB [.ref a, .str "word"] (upd H a (exo a CB none)) (fun v H2 => v = .non ∧ ∃ (d : Addr) (fs : List (Str × V)), H2 a = some (exo a CB (some d)) ∧ H2 d = some (exd d fs) ∧ H d = none ∧ E (.ref CB) (some d) (upd (del H2 a) d (.xd fs))) (fun _ _ _ => False) := by
      intro _ hdue a ha
      refine ⟨a, _, rfl, upd_same, fun d hd hda => ⟨rfl, d, _, upd_same, (by rw [upd_ne hda, upd_same]), ?_, ?_⟩⟩
      · rw [upd_ne hda] at hd; exact hd
      · rw [upd_ne hda] at hd
        exact ke "word" hdue d _ (bad_left ha hd hda) hd upd_same
    obtain ⟨tv, ty, kt⟩ := hw.ty
    refine ⟨_, rfl, _, _, _, _, _, rfl, .ty _, ty, kt, _, rfl, ?_⟩
    cases wd with
    | none =>
      refine ifT rfl ?_
      refine ifT rfl ?_
      exact ⟨(by show 1 ≤ 1000; decide), wordBad (vs := []) rfl⟩
    | some z =>
      refine ifF rfl ?_
      obtain rfl : vw = .str z := hw
      refine ⟨_, rfl, aW, _, rfl, .inr (L.words H), rfl, rfl, _, rfl, ?_⟩
      rw [inV_words]
      refine ite2 (fun c => ?_) (fun c => ?_)
      · have c2 : ¬ words.contains z = true := by simpa using c
        exact ⟨(by show 1 ≤ 1000; decide), wordBad (vs := []) (if_neg c2)⟩
      · have c2 : words.contains z = true := by simpa using c
        have edue : duePart (some z) mk = if mkOk z mk = true then none else some ("makers" : Str) := if_pos c2
        refine ⟨_, rfl, _, rfl, z, vm, mk, rfl, hm, fun H1 s1 => ?_⟩
        refine ⟨_, rfl, ?_⟩
        refine ite2 (fun d => ?_) (fun d => ?_)
        · have d2 : ¬ mkOk z mk = true := by simpa using d
          refine ⟨(by show 1 ≤ 1000; decide), fun a ha => ⟨a, _, rfl, upd_same, fun d hd hda => ⟨rfl, d, _, upd_same, (by rw [upd_ne hda, upd_same]), ?_, ?_⟩⟩⟩
          · rw [upd_ne hda] at hd; exact hd
          · rw [upd_ne hda] at hd
            exact ke "makers" (by rw [edue, if_neg d2]) d _ (same_trans s1 (bad_left ha hd hda)) (same_none s1 hd) upd_same
        · have d2 : mkOk z mk = true := by simpa using d
          rw [if_pos d2] at edue
          have kq' := kq edue
          clear kq ke wordBad
          cases mk with
          | none => cases d2
          | some os =>
          obtain ⟨M, rfl, m0, m1⟩ := mk_nats d2
          obtain ⟨am, rfl, htm⟩ := nats_at (hm.same s1)
          have hx1 := s1 _ _ hx
          refine ⟨_, rfl, _, rfl, x, CL, dx, _, rfl, hx1, L.cl, L.nW, (by show 0 < 1000; decide), ?_⟩
          refine ⟨(by show 0 ≤ sizeLine; decide), fun t ht => ?_⟩
          have xt : x ≠ t := ne_of_none upd_same ht
          have x2 : upd (upd H1 x (.ins CL dx (putF "word" (.str z) []))) t (.tup []) x = some (.ins CL dx (putF "word" (.str z) [])) := by rw [upd_ne xt, upd_same]
          have off2 : ∀ b o, b ≠ x → H b = some o → upd (upd H1 x (.ins CL dx (putF "word" (.str z) []))) t (.tup []) b = some o := fun b o hb e => by
            have e1 := s1 _ _ e
            have e2 : upd H1 x (.ins CL dx (putF "word" (.str z) [])) b = some o := by rw [upd_ne hb]; exact e1
            rw [upd_ne (ne_of_none e2 ht)]; exact e2
          have t2 : upd (upd H1 x (.ins CL dx (putF "word" (.str z) []))) t (.tup []) t = some (.tup []) := upd_same
          have m2 : SqT K (upd (upd H1 x (.ins CL dx (putF "word" (.str z) []))) t (.tup [])) am (M.map nI) := (sqt_upd htm hx1).ext fun b o e => by rw [upd_ne (ne_of_none e ht)]; exact e
          generalize upd (upd H1 x (.ins CL dx (putF "word" (.str z) []))) t (.tup []) = G2 at *
          refine ⟨_, rfl, x, CL, dx, _, rfl, x2, L.cl, L.nM, (by show 1 < 1000; decide), ?_⟩
          refine ⟨_, rfl, x, CL, dx, _, rfl, upd_same, L.cl, L.nS, (by have e : (putF "makers" (V.ref t) (putF "word" (V.str z) [])).length ≤ 2 := length_putF _ _ _; omega), ?_⟩
          rw [lf_1]
          have x3 : upd (upd G2 x (.ins CL dx (putF "makers" (.ref t) (putF "word" (.str z) [])))) x (.ins CL dx (LF3 z t .non)) x = some (.ins CL dx (LF3 z t .non)) := upd_same
          have off3 : ∀ b o, b ≠ x → G2 b = some o → upd (upd G2 x (.ins CL dx (putF "makers" (.ref t) (putF "word" (.str z) [])))) x (.ins CL dx (LF3 z t .non)) b = some o := fun b o hb e => by rw [upd_ne hb, upd_ne hb]; exact e
          have m3 : SqT K (upd (upd G2 x (.ins CL dx (putF "makers" (.ref t) (putF "word" (.str z) [])))) x (.ins CL dx (LF3 z t .non))) am (M.map nI) := sqt_upd (sqt_upd m2 x2) upd_same
          generalize upd (upd G2 x (.ins CL dx (putF "makers" (.ref t) (putF "word" (.str z) [])))) x (.ins CL dx (LF3 z t .non)) = G3 at *
          have t3 := off3 t _ xt.symm t2
          refine ⟨_, rfl, rfl, _, rfl, ?_⟩
          refine ite2 (fun e => ?_) (fun e => ?_)
          · have e2 : z = "more" := V.str.inj (of_decide_eq_true e)
            obtain ⟨n1, n4, hM⟩ := m1 e2
            refine ⟨_, rfl, x, dx, _, rfl, x3, lf_take, _, rfl, fun s ds ns nds nes => ?_⟩
            have xs : x ≠ s := ne_of_none x3 ns
            have xds : x ≠ ds := ne_of_none x3 nds
            have m4 : SqT K (upd (upd G3 ds (.own s)) s (.ins CS ds [])) am (M.map nI) := m3.ext fun b o e => by rw [upd_ne (ne_of_none e ns), upd_ne (ne_of_none e nds)]; exact e
            refine ⟨s, am, ds, M, rfl, upd_same, .inl m4, n1, by omega, fun m hm => ⟨(hM m hm).1, by have := (hM m hm).2; omega⟩, fun H5 tk la a L' kept far off5 so => ⟨rfl, ?_⟩⟩
            have x5 : H5 x = some (.ins CL dx (LF3 z t .non)) := off5 _ _ xs (by rw [upd_ne xs, upd_ne xds]; exact x3)
            obtain ⟨dy, hs⟩ := so.ob
            refine ⟨x, s, dx, dy, t, tk, la, z, gcdL kept, far, rfl, x5, hs, xs, fun H6 off6 x6 => ?_⟩
            have nla : la ≠ x := ne_of so.ls x5 (fun z => by cases z)
            have ntk : tk ≠ x := ne_of so.mkr x5 (fun z => by cases z)
            have so6 : SumOb CS H6 s tk M la a L' kept far := ⟨⟨dy, by rw [off6 s xs.symm]; exact hs⟩, by rw [off6 la nla]; exact so.ls, by rw [off6 tk ntk]; exact so.mkr, so.ok, so.kp, so.ab, so.fr, so.fe⟩
            refine kq' H6 z M tk kept rfl rfl (fun b o hb e => ?_) (.more dx s la a L' far e2 x6 so6 (fun m hm => ⟨(hM m hm).1, by have := (hM m hm).2; omega⟩) n1)
            have e3 := off3 b o hb (off2 b o hb e)
            rw [off6 b hb]
            exact off5 _ _ (ne_of_none e3 ns) (by rw [upd_ne (ne_of_none e3 ns), upd_ne (ne_of_none e3 nds)]; exact e3)
          · have e2 : z ≠ "more" := fun q => e (decide_eq_true (by rw [q]))
            exact kq' G3 z M t [] rfl rfl (fun b o hb e => off3 b o hb (off2 b o hb e)) (.plain dx e2 x3 t3 rfl (m0 e2))
end
end K03

set_option Elab.async false
set_option linter.all false
set_option maxRecDepth 100000
set_option maxHeartbeats 2000000
namespace K03
open PySem L2
/-! ### the greatest number that divides all; what is missing -/
theorem dvd_foldl {d : Nat} : ∀ {M : List Nat} {g : Nat}, d ∣ g → (∀ m ∈ M, d ∣ m) → d ∣ M.foldl Nat.gcd g
  | [], g, h, _ => h
  | x :: M, g, h, hm => dvd_foldl (M := M) (g := Nat.gcd g x) (Nat.dvd_gcd h (hm x List.mem_cons_self)) fun m hm' => hm m (List.mem_cons_of_mem _ hm')
theorem dvd_gcdL {d : Nat} {M : List Nat} (h : ∀ m ∈ M, d ∣ m) : d ∣ gcdL M := dvd_foldl (Nat.dvd_zero d) h
theorem Kept.gcd {kept M : List Nat} (h : Kept kept M) : gcdL kept = gcdL M :=
  Nat.dvd_antisymm (dvd_gcdL fun m hm => sm_dvd (fun x hx => gcdL_dvd hx) (h.all m hm)) (dvd_gcdL fun m hm => gcdL_dvd (h.sub m hm))
theorem filter_range {p : Nat → Bool} {k : Nat} : ∀ {n : Nat}, k ≤ n → (∀ i, k ≤ i → p i = false) → (List.range n).filter p = (List.range k).filter p
  | 0, h, _ => by rw [show k = 0 by omega]
  | n + 1, h, hp => by
    by_cases c : k = n + 1
    · rw [c]
    · rw [List.range_succ, List.filter_append, filter_range (n := n) (by omega) hp, List.filter_cons_of_neg (by rw [hp n (by omega)]; exact Bool.false_ne_true)]
      show _ ++ [] = _
      rw [List.append_nil]
/-- classes as isinstance asks them of a lot, and of what is none -/
structure LotK (K : PySem.W.Frag) (CL : Addr) : Prop where
  me : PySem.W.kitOne K (.ref CL) (.ref CL) = some true
  st : PySem.W.kitOne K (.type "str") (.ref CL) = some false
  tu : PySem.W.kitOne K (.type "tuple") (.ref CL) = some false
  no : PySem.W.kitOne K (.type "NoneType") (.ref CL) = some false
def spLEq (K : PySem.W.Frag) (CL CS : Addr) : Sp := fun vs H Q _ => ∃ (x : Addr) (y : V) (z : Str) (M : List Nat) (t : Addr) (kept : List Nat), vs = [.ref x, y] ∧ LotAt CL CS H x z M t kept ∧
  ((∃ (x' : Addr) (z' : Str) (M' : List Nat) (t' : Addr) (kept' : List Nat), y = .ref x' ∧ LotAt CL CS H x' z' M' t' kept' ∧ Q (.bl (decide (z = z') && decide (kept = kept'))) H) ∨ (OddV K H y ∧ Q (.bl false) H))
section
variable {P : Program} {w : World} {K : PySem.W.Frag} {mg : Str → Option Value} {base : Heap} {CL CS aW fE : Addr}
theorem scLEq : FnScope ["self", "other"] ["self", "other"] (defScope sLEq) := ⟨rfl, rfl, rfl, by decide +kernel, rfl, by decide +kernel, by decide +kernel⟩
theorem ok_leq {f : Addr} {fd : FuncData} (F : Fun K "__eq__" "Lot.__eq__" sLEq f fd) (T : TxB mg) (L : LotT K mg CL aW fE) (LK : LotK K CL) : FnOk P w K mg base CX0 1 f fd ["self", "other"] (spLEq K CL CS) := by
  refine F.ok scLEq (fun vs H Q E h => ?_) (fun cdv A outer s H vs Q E hr h => ?_)
  · obtain ⟨_, _, _, _, _, _, rfl, _⟩ := h
    rfl
  · obtain ⟨x, y, z, M, t, kept, rfl, hl, h⟩ := h
    refine ⟨_, pss_one (ps_ret (pe_and (pe_callB call_isi (by rfl) T.isinstance (by decide +kernel) (pa_cons (pv 1) (pa_cons (pe_glob (v := .ref CL) (by rfl) L.mgL rfl) pa_nil)))
      (pe_and (pe_cmpR op_eq (pe_fld (pv 0) rfl) (pe_fld (pv 1) rfl) (nomark _)) (pe_one (pe_cmpR (op_eqD hr.units) (pe_fld (pv 0) rfl) (pe_fld (pv 1) rfl) (nomark _)))))), ?_⟩
    obtain ⟨dx, sv, ob, mk⟩ := hl.fields
    rcases h with ⟨x', z', M', t', kept', rfl, hl', k⟩ | ⟨ho, k⟩
    · obtain ⟨dx', sv', ob', mk'⟩ := hl'.fields
      refine ⟨_, rfl, _, _, _, _, _, rfl, .own _, .base (.ins ob' L.cl L.ha L.cg L.cTk L.ow.ob), LK.me, _, rfl, ?_⟩
      refine iteT ?_
      refine ⟨_, rfl, x, CL, dx, _, _, rfl, ob, L.cl, L.nW, lf_word, _, rfl, x', CL, dx', _, _, rfl, ob', L.cl, L.nW, lf_word, rfl, _, rfl, ?_⟩
      have e1 : decide (V.str z = V.str z') = decide (z = z') := by
        rw [Bool.eq_iff_iff]; rw [decide_eq_true_eq, decide_eq_true_eq]
        exact ⟨fun h => V.str.inj h, fun h => by rw [h]⟩
      rw [e1]
      refine ite2 (fun c => ?_) (fun c => ?_)
      · refine ⟨_, rfl, x, CL, dx, _, _, rfl, ob, L.cl, L.nM, lf_makers, _, rfl, x', CL, dx', _, _, rfl, ob', L.cl, L.nM, lf_makers, ?_⟩
        refine ⟨_, _, .tup (SqT.of mk) (dp_nats kept), .tup (SqT.of mk') (dp_nats kept'), shaped_tup nats_flat, shaped_tup nats_flat, ?_⟩
        rw [c, Bool.true_and, ← eqv_nats kept kept'] at k
        exact k
      · rw [Bool.eq_false_iff.mpr c, Bool.false_and] at k
        exact k
    · obtain ⟨tv, ty, kt⟩ : ∃ tv, TyX K H y tv ∧ PySem.W.kitOne K tv (.ref CL) = some false := by
        rcases ho with ⟨u, rfl⟩ | rfl | ⟨a, xs, rfl, ha⟩
        · exact ⟨_, .base (.str u), LK.st⟩
        · exact ⟨_, .base .non, LK.no⟩
        · exact ⟨_, sqt_ty ha, LK.tu⟩
      refine ⟨_, rfl, _, _, _, _, _, rfl, .own _, ty, kt, _, rfl, ?_⟩
      exact iteF k
end
end K03

set_option Elab.async false
set_option linter.all false
set_option maxRecDepth 100000
set_option maxHeartbeats 2000000
namespace K03
open PySem L2
abbrev sIs : Stmt := top 27
abbrev sDeep : Stmt := top 28
abbrev sFlag : Stmt := top 29
def fl : V → Bool
  | .non => true
  | .bl _ => true
  | .int _ => true
  | .str _ => true
  | _ => false
/-- two things that are the same through and through -/
def TrQ (H : Hp) : Nat → V → V → Prop
  | 0, _, _ => False
  | n + 1, u, v => (fl v = true ∧ u = v) ∨ ∃ (a' a : Addr) (xs' xs : List V), u = .ref a' ∧ v = .ref a ∧ ((H a' = some (.lst xs') ∧ H a = some (.lst xs)) ∨ (H a' = some (.tup xs') ∧ H a = some (.tup xs))) ∧ xs'.length = xs.length ∧ xs.length ≤ 1000 ∧
      ∀ (i : Nat) (x' x : V), xs'[i]? = some x' → xs[i]? = some x → TrQ H n x' x
theorem TrQ.same {H H' : Hp} (s : Same H H') : ∀ {n : Nat} {u v : V}, TrQ H n u v → TrQ H' n u v
  | 0, _, _, h => h
  | n + 1, u, v, h => by
    rcases h with h | ⟨a', a, xs', xs, rfl, rfl, h, h1, h2, h3⟩
    · exact .inl h
    · refine .inr ⟨a', a, xs', xs, rfl, rfl, ?_, h1, h2, fun i x' x e e' => (h3 i x' x e e').same s⟩
      rcases h with ⟨p, q⟩ | ⟨p, q⟩
      · exact .inl ⟨s _ _ p, s _ _ q⟩
      · exact .inr ⟨s _ _ p, s _ _ q⟩
theorem TrQ.up {H : Hp} : ∀ {n : Nat} {u v : V}, TrQ H n u v → TrQ H (n + 1) u v
  | 0, _, _, h => h.elim
  | n + 1, u, v, h => by
    rcases h with h | ⟨a', a, xs', xs, rfl, rfl, h, h1, h2, h3⟩
    · exact .inl h
    · exact .inr ⟨a', a, xs', xs, rfl, rfl, h, h1, h2, fun i x' x e e' => (h3 i x' x e e').up⟩
theorem TrQ.le {H : Hp} {n m : Nat} {u v : V} (h : TrQ H n u v) (l : n ≤ m) : TrQ H m u v := by
  induction l with
  | refl => exact h
  | step _ ih => exact ih.up
theorem trq_pair {H : Hp} {n : Nat} {a a' : Addr} {x y x' y' : V} (h' : H a' = some (.tup [x', y'])) (h : H a = some (.tup [x, y])) (hx : TrQ H n x' x) (hy : TrQ H n y' y) : TrQ H (n + 1) (.ref a') (.ref a) := by
  refine .inr ⟨a', a, _, _, rfl, rfl, .inr ⟨h', h⟩, rfl, (by show 2 ≤ 1000; decide), fun i u v e e' => ?_⟩
  match i, e, e' with
  | 0, e, e' => cases e; cases e'; exact hx
  | 1, e, e' => cases e; cases e'; exact hy
def spQ (K : PySem.W.Frag) (n : Nat) : Sp := fun vs H Q _ => ∃ u v : V, vs = [u, v] ∧ TrQ H n u v ∧ ∀ H', Same H H' → Q (.bl true) H'
theorem fl_ty {v : V} (h : fl v = true) : ∃ t : String, (∀ K H, TyX K H v (.type t)) ∧ kitB t "tuple" = some false ∧ kitB t "list" = some false ∧ kitB t "dict" = some false ∧ ∃ b, kitB t "bool" = some b := by
  cases v with
  | non => exact ⟨"NoneType", fun _ _ => .base .non, by decide +kernel, by decide +kernel, by decide +kernel, false, by decide +kernel⟩
  | bl b => exact ⟨"bool", fun _ _ => .base (.bl b), by decide +kernel, by decide +kernel, by decide +kernel, true, by decide +kernel⟩
  | int i => exact ⟨"int", fun _ _ => .base (.int i), by decide +kernel, by decide +kernel, by decide +kernel, false, by decide +kernel⟩
  | str x => exact ⟨"str", fun _ _ => .base (.str x), by decide +kernel, by decide +kernel, by decide +kernel, false, by decide +kernel⟩
  | byt b => cases h
  | flt b => cases h
  | ref a => cases h
  | ty n => cases h
theorem fl_scal {v : V} (h : fl v = true) : scal v v = true := by
  cases v <;> first | rfl | cases h
theorem seq_isF {K : PySem.W.Frag} {t : String} (h1 : kitB t "tuple" = some false) (h2 : kitB t "list" = some false) : PySem.W.kitAny K (.type t) [.type "tuple", .type "list"] = some false :=
  kitAny_cons (kit_ty h1) (fun _ => kitAny_cons (kit_ty h2) (fun _ => kitAny_nil) (fun z => nomatch z)) (fun z => nomatch z)
theorem seq_isT {K : PySem.W.Frag} {t : String} {a b : Bool} (h1 : kitB t "tuple" = some a) (h2 : kitB t "list" = some b) (e : (a || b) = true) : PySem.W.kitAny K (.type t) [.type "tuple", .type "list"] = some true :=
  kitAny_cons (kit_ty h1) (fun ha => kitAny_cons (kit_ty h2) (fun hb => by rw [ha, hb] at e; cases e) (fun _ => rfl)) (fun _ => rfl)
theorem rix_of {K : PySem.W.Frag} {H : Hp} {a : Addr} {xs : List V} {i : Nat} {v : V} {Q : VK} (h : H a = some (.lst xs) ∨ H a = some (.tup xs)) (hi : xs[i]? = some v) (q : Q v H) : rIx K (.ref a) (.int (0 + (i : Int))) H Q := by
  have e : atI xs (0 + (i : Int)) = some v := by rw [Int.zero_add]; exact atI_nat hi
  rcases h with h | h
  · exact .inl ⟨a, xs, _, v, rfl, rfl, SqL.of h, e, q⟩
  · exact .inr (.inl ⟨a, xs, _, v, rfl, rfl, SqT.of h, e, q⟩)
theorem valV_one {z : Str} {v : V} : valV [((Sum.inr z : Key), v)] (Sum.inr z) = some v := by
  simp [valV]
section
variable {P : Program} {w : World} {K : PySem.W.Frag} {mg : Str → Option Value} {base : Heap}
theorem scI : FnScope ["_law_told", "_law_due", "_law_k", "_law_key"] ["_law_told", "_law_due"] (defScope sIs) := ⟨rfl, rfl, rfl, by decide +kernel, rfl, by decide +kernel, by decide +kernel⟩
theorem ok_is {f : Addr} {fd : FuncData} (F : Fn K mg "_law_is" sIs ["_law_told", "_law_due"] f fd) (T : TxB mg) (T2 : TxD mg) : ∀ n : Nat, FnOk P w K mg base CX0 (n + 1) f fd ["_law_told", "_law_due"] (spQ K n)
  | 0 => by
    refine F.F.ok scI (fun vs H Q E h => ?_) (fun cdv A outer s H vs Q E hr h => ?_)
    · obtain ⟨u, v, _, h, _⟩ := h
      exact h.elim
    · obtain ⟨u, v, _, h, _⟩ := h
      exact h.elim
  | n + 1 => by
    have G : FnOk P w K mg base CX0 (n + 1) f fd ["_law_told", "_law_due"] (spQ K n) := ok_is F T T2 n
    refine F.F.ok scI (fun vs H Q E h => ?_) (fun cdv A outer s H vs Q E hr h => ?_)
    · obtain ⟨u, v, rfl, _⟩ := h
      rfl
    · obtain ⟨u, v, rfl, hv, k⟩ := h
      have hu := hu_of hr
      have nd := scI.nd
      refine ⟨_, pss_cons (ps_if (pt_val (pe_callB call_isiT (by rfl) T.isinstance (by decide +kernel) (pa_cons (pv 1) (pa_cons (pe_tup (pa_cons (pe_bltn (v := .ty "tuple") (by rfl) T2.tuple (by decide +kernel) rfl) (pa_cons (pe_bltn (v := .ty "list") (by rfl) T2.list (by decide +kernel) rfl) pa_nil))) pa_nil))))
          (pss_cons (ps_if (PW.pt (pw_or (pt_cmpR op_ne (pe_callB call_isi (by rfl) T.isinstance (by decide +kernel) (pa_cons (pv 0) (pa_cons (pe_bltn (v := .ty "tuple") (by rfl) T2.tuple (by decide +kernel) rfl) pa_nil))) (pe_callB call_isi (by rfl) T.isinstance (by decide +kernel) (pa_cons (pv 1) (pa_cons (pe_bltn (v := .ty "tuple") (by rfl) T2.tuple (by decide +kernel) rfl) pa_nil))) (nomark _))
              (pw_or1 (pt_cmpR op_ne (pe_callB call_isi (by rfl) T.isinstance (by decide +kernel) (pa_cons (pv 0) (pa_cons (pe_bltn (v := .ty "list") (by rfl) T2.list (by decide +kernel) rfl) pa_nil))) (pe_callB call_isi (by rfl) T.isinstance (by decide +kernel) (pa_cons (pv 1) (pa_cons (pe_bltn (v := .ty "list") (by rfl) T2.list (by decide +kernel) rfl) pa_nil))) (nomark _)))))
            (pss_one (ps_ret pe_bl)) pss_nil)
          (pss_one (ps_ret (pe_and (pe_cmpR op_eq (pe_callB call_len (by rfl) T.len PySem.boot_len (pa_cons (pv 0) pa_nil)) (pe_callB call_len (by rfl) T.len PySem.boot_len (pa_cons (pv 1) pa_nil)) (nomark _))
            (pe_one (pe_callB (cr_all rfl) (by rfl) T.all (by decide +kernel) (pa_cons (pe_lc (own := [("_law_k", 2)]) (g := gName 2) (tt := tYes) rfl nd (pi_range1 (by rfl) T.range (pa_cons (pe_callB call_len (by rfl) T.len PySem.boot_len (pa_cons (pv 1) pa_nil)) pa_nil))
              (blkOk_by (N := ["_law_told", "_law_due", "_law_k", "_law_key"]) (sc := defScope sIs) (by decide +kernel)) (fun _ _ _ _ _ => pg_name (i := 2) nd rfl (Or.inl rfl)) (fun _ _ _ _ _ => pts_nil)
              (fun _ _ _ _ _ => pe_call G hr (by rfl) F.m F.F.kp F.b .nil pass0 (pa_cons (pe_ix (ix_seq : IxR _ (rIx K)) (pv 0) (pv 2) (fun _ _ => rfl)) (pa_cons (pe_ix (ix_seq : IxR _ (rIx K)) (pv 1) (pv 2) (fun _ _ => rfl)) pa_nil)))) pa_nil)))))))
          pss_nil)
        (pss_cons (ps_if (pt_val (pe_callB call_isi (by rfl) T.isinstance (by decide +kernel) (pa_cons (pv 1) (pa_cons (pe_bltn (v := .ty "dict") (by rfl) T2.dict (by decide +kernel) rfl) pa_nil))))
          (pss_one (ps_ret (pe_and (pe_callB call_isi (by rfl) T.isinstance (by decide +kernel) (pa_cons (pv 0) (pa_cons (pe_bltn (v := .ty "dict") (by rfl) T2.dict (by decide +kernel) rfl) pa_nil)))
            (pe_and (pe_cmpR (op_eqV hr.units) (pv 0) (pv 1) (nomark _))
            (pe_one (pe_callB (cr_all rfl) (by rfl) T.all (by decide +kernel) (pa_cons (pe_lock (pe_lc (own := [("_law_key", 3)]) (g := gName 3) (tt := tYes) rfl nd (pi_keys (pv 1))
              (blkOk_by (N := ["_law_told", "_law_due", "_law_k", "_law_key"]) (sc := defScope sIs) (by decide +kernel)) (fun _ _ _ _ _ => pg_name (i := 3) nd rfl (Or.inl rfl)) (fun _ _ _ _ _ => pts_nil)
              (fun _ _ _ _ _ => pe_call G hr (by rfl) F.m F.F.kp F.b .nil pass0 (pa_cons (pe_dget hu (pv 0) (pv 3) (fun _ _ => rfl)) (pa_cons (pe_dget hu (pv 1) (pv 3) (fun _ _ => rfl)) pa_nil))))) pa_nil)))))))
          pss_nil)
        (pss_one (ps_ret (pe_and (pe_cmpR op_eq (pe_callB call_isi (by rfl) T.isinstance (by decide +kernel) (pa_cons (pv 0) (pa_cons (pe_bltn (v := .ty "bool") (by rfl) T2.bool (by decide +kernel) rfl) pa_nil))) (pe_callB call_isi (by rfl) T.isinstance (by decide +kernel) (pa_cons (pv 1) (pa_cons (pe_bltn (v := .ty "bool") (by rfl) T2.bool (by decide +kernel) rfl) pa_nil))) (nomark _))
          (pe_one (pe_cmpR op_eq (pv 0) (pv 1) (nomark _))))))), ?_⟩
      have sm : ∀ {H' : Hp} {p : Addr} {o : HO}, H' p = none → Same H H' → Same H (upd H' p o) := fun hp s b u e => by rw [upd_ne (ne_of_none (s b u e) hp)]; exact s b u e
      have s0 : Same H H := fun _ _ e => e
      rcases hv with ⟨hv, rfl⟩ | ⟨a', a, xs', xs, rfl, rfl, hq, hll, hl, hx⟩
      · -- flat
        obtain ⟨t, ty, k1, k2, k3, kb, k4⟩ := fl_ty hv
        refine ⟨_, rfl, (by show 2 ≤ sizeLine; decide), fun tp htp => ?_⟩
        refine ⟨_, _, _, _, _, _, rfl, upd_same, .cons (.ty _) (.cons (.ty _) .nil), ty _ _, seq_isF k1 k2, _, rfl, ?_⟩
        refine iteF ?_
        refine ⟨_, rfl, _, _, _, _, _, rfl, .ty _, ty _ _, kit_ty k3, _, rfl, ?_⟩
        refine iteF ?_
        refine ⟨_, rfl, _, _, _, _, _, rfl, .ty _, ty _ _, kit_ty k4, _, rfl, _, _, _, _, _, rfl, .ty _, ty _ _, kit_ty k4, rfl, _, rfl, ?_⟩
        refine ite2 (fun _ => ?_) (fun h => absurd (decide_eq_true rfl) h)
        refine ⟨_, rfl, _, rfl, fl_scal hv, ?_⟩
        rw [decide_eq_true (rfl : u = u)]
        exact k _ (sm htp s0)
      · -- a list, a tuple
        obtain ⟨t, c1, c2, ty, ty', k1, k2, e⟩ : ∃ (t : String) (c1 c2 : Bool), (∀ H', Same H H' → TyX K H' (.ref a) (.type t)) ∧ (∀ H', Same H H' → TyX K H' (.ref a') (.type t)) ∧ kitB t "tuple" = some c1 ∧ kitB t "list" = some c2 ∧ (c1 || c2) = true := by
          rcases hq with hq | hq
          · exact ⟨"list", false, true, fun H' s => .base (.lst (s a _ hq.2)), fun H' s => .base (.lst (s a' _ hq.1)), by decide +kernel, by decide +kernel, rfl⟩
          · exact ⟨"tuple", true, false, fun H' s => .base (.tup (s a _ hq.2)), fun H' s => .base (.tup (s a' _ hq.1)), by decide +kernel, by decide +kernel, rfl⟩
        have hq' : ∀ H', Same H H' → (H' a = some (.lst xs) ∨ H' a = some (.tup xs)) := fun H' s => by
          rcases hq with hq | hq
          · exact .inl (s a _ hq.2)
          · exact .inr (s a _ hq.2)
        have hq2 : ∀ H', Same H H' → (H' a' = some (.lst xs') ∨ H' a' = some (.tup xs')) := fun H' s => by
          rcases hq with hq | hq
          · exact .inl (s a' _ hq.1)
          · exact .inr (s a' _ hq.1)
        have hlen' : ∀ H', Same H H' → LenV K (.ref a') H' xs.length := fun H' s => by
          rcases hq2 H' s with h | h
          · exact .inl ⟨xs', SqL.of h, hll.symm⟩
          · exact .inr ⟨xs', SqT.of h, hll.symm⟩
        have hlen : ∀ H', Same H H' → LenV K (.ref a) H' xs.length := fun H' s => by
          rcases hq' H' s with h | h
          · exact .inl ⟨xs, SqL.of h, rfl⟩
          · exact .inr ⟨xs, SqT.of h, rfl⟩
        refine ⟨_, rfl, (by show 2 ≤ sizeLine; decide), fun tp htp => ?_⟩
        have s1 : Same H (upd H tp (.tup [.ty "tuple", .ty "list"])) := sm htp s0
        refine ⟨_, _, _, _, _, _, rfl, upd_same, .cons (.ty _) (.cons (.ty _) .nil), ty _ s1, seq_isT k1 k2 e, _, rfl, ?_⟩
        refine iteT ?_
        refine ⟨_, rfl, _, _, _, _, _, rfl, .ty _, ty' _ s1, kit_ty k1, _, rfl, _, _, _, _, _, rfl, .ty _, ty _ s1, kit_ty k1, rfl, _, rfl, ?_⟩
        refine ite2 (fun h => absurd h (by simp)) (fun _ => ?_)
        refine ⟨_, rfl, _, _, _, _, _, rfl, .ty _, ty' _ s1, kit_ty k2, _, rfl, _, _, _, _, _, rfl, .ty _, ty _ s1, kit_ty k2, rfl, _, rfl, ?_⟩
        refine ite2 (fun h => absurd h (by simp)) (fun _ => ?_)
        refine ⟨_, rfl, _, _, rfl, hlen' _ s1, _, rfl, _, _, rfl, hlen _ s1, rfl, _, rfl, ?_⟩
        refine ite2 (fun _ => ?_) (fun h => absurd (decide_eq_true rfl) h)
        have hz : xs.length ≤ 1000 := hl
        refine ⟨_, rfl, _, _, rfl, hlen _ s1, _, rfl, by omega, by omega, fun D hD => ?_⟩
        refine lc_range (lo := 0) (n := (xs.length : Int).toNat) (fun i H' => Same H H' ∧ H' D = some (.lst (List.replicate i (V.bl true)))) ⟨sm hD s1, upd_same⟩ ?_ ?_
        · rintro i H' hi ⟨h1, h2⟩
          have hi' : i < xs.length := by omega
          have hxi : xs[i]? = some xs[i] := List.getElem?_eq_getElem hi'
          have hyi : xs'[i]? = some (xs'[i]'(by omega)) := List.getElem?_eq_getElem (by omega)
          refine ⟨rfl, ?_⟩
          refine yes_kept ?_
          refine ⟨_, rfl, _, rfl, rix_of (hq2 _ h1) hyi ⟨_, rfl, _, rfl, rix_of (hq' _ h1) hxi ⟨xs'[i]'(by omega), xs[i], rfl, (hx i _ _ hyi hxi).same h1, fun H2 s2 => ?_⟩⟩⟩
          refine ⟨_, s2 D _ h2, ?_, fun b o eb => ?_, ?_⟩
          · rw [List.length_replicate]; exact small1000 (by omega)
          · have nb : b ≠ D := ne_of_none (s1 b o eb) hD
            rw [upd_ne nb]; exact s2 b o (h1 b o eb)
          · rw [upd_same, List.replicate_succ']
        · rintro H' ⟨h1, h2⟩
          refine ⟨D, List.replicate (xs.length : Int).toNat true, rfl, ?_, ?_⟩
          · rw [List.map_replicate]; exact SqL.of h2
          · rw [show (List.replicate (xs.length : Int).toNat true).all id = true by rw [List.all_eq_true]; intro x hx; exact (List.mem_replicate.mp hx).2]
            exact k H' h1
end
/-- a nest: its outermost object is new -/
def spDeep : Sp := fun vs H Q _ => ∃ k : Int, vs = [.int k] ∧ ∀ (a : Addr) (x : V) (H' : Hp), Same H H' → H a = none → (k = 0 → H' a = some (.lst [x])) → (k ≠ 0 → H' a = some (.tup [x])) → Q (.ref a) H'
def spFlag : Sp := fun vs H Q _ => ∃ b : Bool, vs = [.bl b, .bl b] ∧ Q (.bl true) H
section
variable {P : Program} {w : World} {K : PySem.W.Frag} {mg : Str → Option Value} {base : Heap}
theorem scDp : FnScope ["_law_kind", "_law_found", "_law_turn"] ["_law_kind"] (defScope sDeep) := ⟨rfl, rfl, rfl, by decide +kernel, rfl, by decide +kernel, by decide +kernel⟩
theorem ok_deep {f : Addr} {fd : FuncData} (F : Fn K mg "_law_deep" sDeep ["_law_kind"] f fd) (T : TxB mg) : FnOk P w K mg base CX0 1 f fd ["_law_kind"] spDeep := by
  refine F.F.ok scDp (fun vs H Q E h => ?_) (fun cdv A outer s H vs Q E hr h => ?_)
  · obtain ⟨k, rfl, _⟩ := h
    rfl
  · obtain ⟨k, rfl, kq⟩ := h
    have nd := scDp.nd
    refine ⟨_, pss_cons (ps_set (i := 1) nd rfl (Or.inl rfl) pe_non)
      (pss_cons (ps_for PassesOwn.never rfl (pi_range1 (by rfl) T.range (pa_cons pe_int pa_nil)) (pg_name (i := 2) nd rfl (Or.inl rfl))
        (pss_one (ps_set (i := 1) nd rfl (Or.inl rfl) (pe_ifExp (pt_cmpR op_eq (pv 0) pe_int (nomark _)) (pe_lst (pa_cons (pv 1) pa_nil)) (pe_tup (pa_cons (pv 1) pa_nil))))))
      (pss_one (ps_ret (pv 1)))), ?_⟩
    refine ⟨36, rfl, by decide, by decide, for_range (lo := 0) (n := 36) (fun i σ H' => ∃ (v : V) (t : Option V), σ = [some (.int k), some v, t] ∧ Same H H' ∧ (0 < i → ∃ a x, v = .ref a ∧ H a = none ∧ (k = 0 → H' a = some (.lst [x])) ∧ (k ≠ 0 → H' a = some (.tup [x])))) ⟨.non, none, rfl, fun _ _ e => e, fun z => by omega⟩ ?_ ?_⟩
    · rintro i σ H' hi ⟨v, t, rfl, h1, _⟩
      refine ⟨_, rfl, rfl, _, rfl, ?_⟩
      refine ite2 (fun c => ?_) (fun c => ?_)
      · have k0 : k = 0 := V.int.inj (of_decide_eq_true c)
        refine ⟨_, rfl, (by show 1 ≤ sizeLine; decide), fun p hp => ?_⟩
        exact ⟨_, _, rfl, same_new h1 hp, fun _ => ⟨p, v, rfl, same_none h1 hp, fun _ => upd_same, fun z => absurd k0 z⟩⟩
      · have k0 : k ≠ 0 := fun z => c (decide_eq_true (by rw [z]))
        refine ⟨_, rfl, (by show 1 ≤ sizeLine; decide), fun p hp => ?_⟩
        exact ⟨_, _, rfl, same_new h1 hp, fun _ => ⟨p, v, rfl, same_none h1 hp, fun z => absurd z k0, fun _ => upd_same⟩⟩
    · rintro σ H' ⟨v, t, rfl, h1, h2⟩
      obtain ⟨a, x, rfl, h3, h4, h5⟩ := h2 (by decide)
      exact ⟨_, rfl, kq a x H' h1 h3 h4 h5⟩
theorem scFlag : FnScope ["_law_told", "_law_due"] ["_law_told", "_law_due"] (defScope sFlag) := ⟨rfl, rfl, rfl, by decide +kernel, rfl, by decide +kernel, by decide +kernel⟩
theorem ok_flag {f : Addr} {fd : FuncData} (F : Fn K mg "_law_flag" sFlag ["_law_told", "_law_due"] f fd) (T : TxB mg) (T2 : TxD mg) : FnOk P w K mg base CX0 1 f fd ["_law_told", "_law_due"] spFlag := by
  refine F.F.ok scFlag (fun vs H Q E h => ?_) (fun cdv A outer s H vs Q E hr h => ?_)
  · obtain ⟨b, rfl, _⟩ := h
    rfl
  · obtain ⟨b, rfl, kq⟩ := h
    refine ⟨_, pss_one (ps_ret (pe_and (pe_callB call_isi (by rfl) T.isinstance (by decide +kernel) (pa_cons (pv 0) (pa_cons (pe_bltn (v := .ty "bool") (by rfl) T2.bool (by decide +kernel) rfl) pa_nil))) (pe_one (pe_cmpR op_eq (pv 0) (pv 1) (nomark _))))), ?_⟩
    refine ⟨_, rfl, _, _, _, _, _, rfl, .ty _, .base (.bl b), kit_ty (r := true) (by decide +kernel), _, rfl, ?_⟩
    refine iteT ?_
    refine ⟨_, rfl, _, rfl, rfl, ?_⟩
    rw [decide_eq_true (rfl : V.bl b = V.bl b)]
    exact kq
end
end K03

set_option Elab.async false
set_option linter.all false
set_option maxRecDepth 100000
set_option maxHeartbeats 2000000
namespace K03
open PySem L2
abbrev sSums : Stmt := top 30
abbrev sTold : Stmt := top 31
abbrev sLeast : Stmt := top 32
/-- the law's flags of the first numbers -/
noncomputable def smL (M : List Nat) (k : Nat) : List Bool := (List.range k).map (smB M)
noncomputable def flL (z : Str) (M : List Nat) (k : Nat) : List Bool := (List.range k).map (flagOf z M)
theorem smL_get {M : List Nat} {k i : Nat} (h : i < k) : (smL M k)[i]? = some (smB M i) := by
  unfold smL
  rw [List.getElem?_map, List.getElem?_range h]; rfl
theorem smL_succ {M : List Nat} {k : Nat} : smL M (k + 1) = smL M k ++ [smB M k] := by
  unfold smL
  rw [List.range_succ, List.map_append]; rfl
theorem smL_len {M : List Nat} {k : Nat} : (smL M k).length = k := by unfold smL; rw [List.length_map, List.length_range]
theorem flL_succ {z : Str} {M : List Nat} {k : Nat} : flL z M (k + 1) = flL z M k ++ [flagOf z M k] := by
  unfold flL
  rw [List.range_succ, List.map_append]; rfl
theorem flL_len {z : Str} {M : List Nat} {k : Nat} : (flL z M k).length = k := by unfold flL; rw [List.length_map, List.length_range]
theorem flL_get {z : Str} {M : List Nat} {k i : Nat} (h : i < k) : (flL z M k)[i]? = some (flagOf z M i) := by
  unfold flL
  rw [List.getElem?_map, List.getElem?_range h]; rfl
theorem smB_zero {M : List Nat} : smB M 0 = true := smB_iff.mpr .zero
theorem smB_any {M : List Nat} (hp : ∀ m ∈ M, 0 < m) {n : Nat} (h0 : 0 < n) : (M.map fun m => decide (m ≤ n) && smB M (n - m)).any id = smB M n := by
  rw [Bool.eq_iff_iff, smB_iff, sm_iff hp h0, List.any_map, List.any_eq_true]
  constructor
  · rintro ⟨m, hm, e⟩
    have e' : (decide (m ≤ n) && smB M (n - m)) = true := e
    rw [Bool.and_eq_true, decide_eq_true_eq, smB_iff] at e'
    exact ⟨m, hm, e'⟩
  · rintro ⟨m, hm, l, e⟩
    refine ⟨m, hm, ?_⟩
    show (decide (m ≤ n) && smB M (n - m)) = true
    rw [Bool.and_eq_true, decide_eq_true_eq, smB_iff]
    exact ⟨l, e⟩
theorem more_free : ¬ ("more" : Str) = "free" := by decide +kernel
theorem flL_more {M : List Nat} {k : Nat} : flL "more" M (k + 1) = false :: smL M k := by
  refine List.ext_getElem? fun i => ?_
  cases i with
  | zero => rw [flL_get (by omega)]; simp [flagOf, more_free]
  | succ i =>
    rw [List.getElem?_cons_succ]
    by_cases h : i < k
    · rw [flL_get (by omega), smL_get h]
      simp [flagOf, more_free]
    · rw [List.getElem?_eq_none (by rw [flL_len]; omega), List.getElem?_eq_none (by rw [smL_len]; omega)]
/-- a spec of the law: the tuple of its word, its makers and None -/
def SpecAt (K : PySem.W.Frag) (H : Hp) (v : V) (z : Str) (M : List Nat) : Prop := ∃ a m, v = .ref a ∧ H a = some (.tup [.str z, .ref m, .non]) ∧ H m = some (.tup (M.map nI))
theorem SpecAt.same {K : PySem.W.Frag} {H H' : Hp} {v : V} {z : Str} {M : List Nat} (h : SpecAt K H v z M) (s : Same H H') : SpecAt K H' v z M := by
  obtain ⟨a, m, e, h1, h2⟩ := h
  exact ⟨a, m, e, s _ _ h1, s _ _ h2⟩
/-- what a spec holds: a word of the four; makers just for "more" -/
structure SpecOk (z : Str) (M : List Nat) : Prop where
  wd : z = "once" ∨ z = "loan" ∨ z = "free" ∨ z = "more"
  no : z ≠ "more" → M = []
  len : z = "more" → 0 < M.length
  l4 : M.length ≤ 4
  p : ∀ m ∈ M, 1 ≤ m ∧ m ≤ 12
theorem SpecOk.words {z : Str} {M : List Nat} (h : SpecOk z M) : words.contains z = true := by
  rcases h.wd with rfl | rfl | rfl | rfl <;> decide +kernel
noncomputable def spSums (K : PySem.W.Frag) : Sp := fun vs H Q _ => ∃ (t : Addr) (M : List Nat) (most : Nat), vs = [.ref t, .int (most : Int)] ∧ SqT K H t (M.map nI) ∧ most ≤ 1000 ∧ M.length ≤ 100 ∧ (∀ m ∈ M, 1 ≤ m) ∧
  ∀ p H', Same H H' → H p = none → H' p = some (.lst ((smL M (most + 1)).map V.bl)) → Q (.ref p) H'
noncomputable def spTold (K : PySem.W.Frag) : Sp := fun vs H Q _ => ∃ (v : V) (z : Str) (M : List Nat) (most : Nat), vs = [v, .int (most : Int)] ∧ SpecAt K H v z M ∧ SpecOk z M ∧ 1 ≤ most ∧ most ≤ 1000 ∧
  ∀ p H', Same H H' → H p = none → H' p = some (.lst ((flL z M (most + 1)).map V.bl)) → Q (.ref p) H'
noncomputable def spLeast (K : PySem.W.Frag) : Sp := fun vs H Q _ => ∃ (a : Addr) (fs : List Bool) (M : List Nat) (N : Nat), vs = [.ref a] ∧ H a = some (.lst (fs.map V.bl)) ∧ fs.length = N + 1 ∧ N ≤ 1000 ∧ (∀ m ∈ M, 0 < m) ∧ (∀ i, 1 ≤ i → i ≤ N → fs[i]? = some (smB M i)) ∧
  ∀ found sums p H', Gens M found sums N → Same H H' → H p = none → H' p = some (.tup (found.map nI)) → Q (.ref p) H'
section
variable {P : Program} {w : World} {K : PySem.W.Frag} {mg : Str → Option Value} {base : Heap}
theorem scSums : FnScope ["_law_makers", "_law_most", "_law_found", "_law_number", "_law_maker"] ["_law_makers", "_law_most"] (defScope sSums) := ⟨rfl, rfl, rfl, by decide +kernel, rfl, by decide +kernel, by decide +kernel⟩
theorem ok_sums {f : Addr} {fd : FuncData} (F : Fn K mg "_law_sums" sSums ["_law_makers", "_law_most"] f fd) (T : TxB mg) (T2 : TxD mg) : FnOk P w K mg base CX0 1 f fd ["_law_makers", "_law_most"] (spSums K) := by
  refine F.F.ok scSums (fun vs H Q E h => ?_) (fun cdv A outer s H vs Q E hr h => ?_)
  · obtain ⟨_, _, _, rfl, _⟩ := h
    rfl
  · obtain ⟨t, M, most, rfl, ht, hm, hM, hp, k⟩ := h
    have nd := scSums.nd
    have hu := hu_of hr
    refine ⟨_, pss_cons (ps_set (i := 2) nd rfl (Or.inr rfl) (pe_lst (pa_cons pe_bl pa_nil)))
      (pss_cons (ps_for PassesOwn.never rfl (pi_range2 (by rfl) T.range (pa_cons pe_int (pa_cons (pe_op op_add (pv 1) pe_int) pa_nil))) (pg_name (i := 3) nd rfl (Or.inr rfl))
        (pss_one (ps_expr (pe_bm PySem.F.plainAttrs_list PySem.F.slot_list_append PySem.F.type_list_append mt_append (pv 2) (pa_cons (pe_callB (cr_any rfl) (by rfl) T2.any (by decide +kernel) (pa_cons
          (pe_lc (own := [("_law_maker", 4)]) (g := gName 4) (tt := tYes) rfl nd (pi_tup (pv 0))
            (blkOk_by (N := ["_law_makers", "_law_most", "_law_found", "_law_number", "_law_maker"]) (sc := defScope sSums) (by decide +kernel)) (fun _ _ _ _ _ => pg_name (i := 4) nd rfl (Or.inl rfl)) (fun _ _ _ _ _ => pts_nil)
            (fun _ _ _ _ _ => pe_and (pe_cmpR op_le (pv 4) (pv 3) (nomark _)) (pe_one (pe_ix (ix_list : IxR _ (rIxL K)) (pv 2) (pe_op op_sub (pv 3) (pv 4)) (fun _ _ => rfl))))) pa_nil)) pa_nil)))))
      (pss_one (ps_ret (pv 2)))), ?_⟩
    refine ⟨(by show 1 ≤ sizeLine; decide), fun fl hfl => ?_⟩
    refine ⟨_, rfl, _, _, rfl, rfl, ?_⟩
    refine ⟨1, (most : Int) + 1, rfl, ⟨by omega, by omega, by omega, by omega⟩, for_range (lo := 1) (n := ((most : Int) + 1 - 1).toNat) (fun i σ H' => ∃ t3 : Option V, σ = [some (.ref t), some (.int (most : Int)), some (.ref fl), t3, none] ∧ Same H H' ∧ H' fl = some (.lst ((smL M (i + 1)).map V.bl))) ⟨none, rfl, same_new (same_refl H) hfl, ?_⟩ ?_ ?_⟩
    · rw [upd_same]
      show _ = some (HO.lst [.bl (smB M 0)])
      rw [smB_zero]
    · rintro i σ H' hi ⟨t3, rfl, h1, h2⟩
      refine ⟨_, rfl, .inl ⟨rfl, _, SqL.of h2⟩, ?_⟩
      refine ⟨_, rfl, t, rfl, ⟨_, sqt_same ht h1⟩, fun D hD => ?_⟩
      have flD : fl ≠ D := ne_of_none h2 hD
      refine lc_tup (K := K) (a := t) (xs := M.map nI) (fun j H2 => Same H' H2 ∧ H2 D = some (.lst (((M.map fun m => decide (m ≤ i + 1) && smB M (i + 1 - m)).take j).map V.bl))) ⟨same_new (same_refl H') hD, upd_same⟩ (fun j H2 _ p => sqt_same (sqt_same ht h1) p.1) ?_ ?_
      · rintro j v H2 hv ⟨h3, h4⟩
        obtain ⟨m, hm', rfl⟩ : ∃ m, M[j]? = some m ∧ v = nI m := by
          rw [List.getElem?_map] at hv
          cases e : M[j]? with
          | none => rw [e] at hv; cases hv
          | some m => rw [e] at hv; exact ⟨m, rfl, (Option.some.inj hv).symm⟩
        have hmM := List.mem_of_getElem? hm'
        have h1m := hp m hmM
        have hj : j < M.length := (List.getElem?_eq_some_iff.mp hm').1
        have put : ∀ b : Bool, b = (decide (m ≤ i + 1) && smB M (i + 1 - m)) → ∃ acc, H2 D = some (.lst acc) ∧ acc.length < sizeLine ∧ Same H' (upd H2 D (.lst (acc ++ [V.bl b]))) ∧ upd H2 D (.lst (acc ++ [V.bl b])) D = some (.lst (((M.map fun m => decide (m ≤ i + 1) && smB M (i + 1 - m)).take (j + 1)).map V.bl)) := fun b e => by
          refine ⟨_, h4, (by rw [List.length_map, List.length_take, List.length_map]; exact small1000 (by omega)), fun c u e => by rw [upd_ne (ne_of_none e hD)]; exact h3 c u e, ?_⟩
          rw [upd_same, List.take_add_one, List.getElem?_map, hm', e, List.map_append]; rfl
        refine ⟨rfl, ?_⟩
        refine yes_kept ?_
        refine ⟨_, rfl, _, rfl, _, _, rfl, rfl, _, rfl, ?_⟩
        refine ite2 (fun c => ?_) (fun c => ?_)
        · have c2 : m ≤ i + 1 := by have := of_decide_eq_true c; omega
          have hat : atI ((smL M (i + 1)).map V.bl) ((i + 1 - m : Nat) : Int) = some (.bl (smB M (i + 1 - m))) := atI_nat (by rw [List.getElem?_map, smL_get (by omega)]; rfl)
          refine ⟨_, rfl, _, rfl, _, rfl, _, _, rfl, rfl, fl, _, ((i + 1 - m : Nat) : Int), _, rfl, ?_, SqL.of (h3 _ _ h2), hat, ?_⟩
          · show V.int ((1 + (i : Int)) - (m : Int)) = _
            rw [show (1 + (i : Int)) - (m : Int) = ((i + 1 - m : Nat) : Int) by omega]
          · exact put _ (by rw [decide_eq_true c2, Bool.true_and])
        · have c2 : ¬ m ≤ i + 1 := fun z => c (decide_eq_true (by omega))
          exact put false (by rw [decide_eq_false c2, Bool.false_and])
      · rintro H2 ⟨h3, h4⟩
        rw [List.length_map, List.take_of_length_le (by rw [List.length_map]; exact Nat.le_refl _)] at h4
        refine ⟨D, (M.map fun m => decide (m ≤ i + 1) && smB M (i + 1 - m)), rfl, SqL.of h4, ?_⟩
        rw [smB_any (fun m hm => hp m hm) (by omega)]
        refine ⟨fl, _, _, rfl, rfl, h3 _ _ h2, (by rw [List.length_map, smL_len]; exact Nat.lt_of_le_of_lt (m := 2000) (by omega) (by decide)), ?_⟩
        refine ⟨_, rfl, fun b u e => ?_, ?_⟩
        · rw [upd_ne (ne_of_none e hfl)]; exact h3 _ _ (h1 _ _ e)
        · rw [upd_same, smL_succ (k := i + 1), List.map_append]; rfl
    · rintro σ H' ⟨t3, rfl, h1, h2⟩
      rw [show ((most : Int) + 1 - 1).toNat = most by omega] at h2
      exact ⟨_, rfl, k fl H' h1 hfl h2⟩
end
end K03

set_option Elab.async false
set_option linter.all false
set_option maxRecDepth 100000
namespace K03
/-! ### flags that come again from eight on -/
structure Per (f : Nat → Bool) (p : Nat) : Prop where
  p1 : 1 ≤ p
  p6 : p ≤ 6
  one : f 1 = true
  per : ∀ n, 8 ≤ n → f (n + p) = f n
theorem Per.times {f : Nat → Bool} {p : Nat} (h : Per f p) {n : Nat} (hn : 8 ≤ n) : ∀ k, f (n + k * p) = f n
  | 0 => by rw [Nat.zero_mul, Nat.add_zero]
  | k + 1 => by rw [Nat.succ_mul, ← Nat.add_assoc, h.per _ (by omega), h.times hn k]
theorem Per.cong {f : Nat → Bool} {p : Nat} (h : Per f p) {a b : Nat} (ha : 8 ≤ a) (hb : 8 ≤ b) (e : a % p = b % p) : f a = f b := by
  rcases Nat.le_total a b with l | l
  · obtain ⟨k, hk⟩ : p ∣ b - a := Nat.dvd_of_mod_eq_zero (Nat.sub_mod_eq_zero_of_mod_eq e.symm)
    rw [show b = a + k * p by rw [Nat.mul_comm]; omega, h.times ha]
  · obtain ⟨k, hk⟩ : p ∣ a - b := Nat.dvd_of_mod_eq_zero (Nat.sub_mod_eq_zero_of_mod_eq e)
    rw [show a = b + k * p by rw [Nat.mul_comm]; omega, h.times hb]
/-- what holds of two to sixty holds of all from two on -/
theorem Per.far {f : Nat → Bool} {p : Nat} (h : Per f p) {b : Bool} (hb : ∀ n, 2 ≤ n → n ≤ 60 → f n = b) : ∀ n, 2 ≤ n → f n = b := by
  intro n
  induction n using Nat.strongRecOn with | _ n ih =>
    intro hn
    by_cases c : n ≤ 60
    · exact hb n hn c
    · have p1 := h.p1
      have p6 := h.p6
      have := h.per (n - p) (by omega)
      rw [Nat.sub_add_cancel (by omega)] at this
      rw [this]
      exact ih (n - p) (by omega) (by omega)
def Closed (f : Nat → Bool) : Prop := ∀ i j, f (i + 1) = true → f (j + 1) = true → f (i + j + 1) = true
def red (p i : Nat) : Nat := if i < 7 then i else 7 + (i - 7) % p
theorem red_lt {p i : Nat} (h1 : 1 ≤ p) (h6 : p ≤ 6) : red p i < 20 := by
  unfold red
  split
  · omega
  · have := Nat.mod_lt (i - 7) (show 0 < p by omega)
    omega
theorem red_mod {p i : Nat} : red p i % p = i % p := by
  unfold red
  split
  · rfl
  · rename_i h
    rw [Nat.add_mod, Nat.mod_mod, ← Nat.add_mod]
    rw [show 7 + (i - 7) = i by omega]
theorem Per.red {f : Nat → Bool} {p : Nat} (h : Per f p) (i : Nat) : f (K03.red p i + 1) = f (i + 1) := by
  by_cases c : i < 7
  · unfold K03.red; rw [if_pos c]
  · refine h.cong ?_ (by omega) (by rw [Nat.add_mod, red_mod, ← Nat.add_mod])
    unfold K03.red
    rw [if_neg c]
    omega
/-- closed as far as twenty is closed -/
theorem Per.closed {f : Nat → Bool} {p : Nat} (h : Per f p) (c : ∀ i, i < 20 → ∀ j, j < 20 → f (i + 1) = true → f (j + 1) = true → f (i + j + 1) = true) : Closed f := by
  intro i j hi hj
  have q := c (K03.red p i) (red_lt h.p1 h.p6) (K03.red p j) (red_lt h.p1 h.p6) (by rw [h.red]; exact hi) (by rw [h.red]; exact hj)
  rw [← q]
  by_cases s : i < 7 ∧ j < 7
  · unfold K03.red
    rw [if_pos s.1, if_pos s.2]
  · refine h.cong (by omega) ?_ ?_
    · unfold K03.red
      split <;> split <;> omega
    · rw [Nat.add_mod, Nat.add_mod i j, ← red_mod (i := i), ← red_mod (i := j), ← Nat.add_mod (K03.red p i), ← Nat.add_mod]
/-- the numbers that the program hands to the sums -/
def mk66 (f : Nat → Bool) : List Nat := (List.range 67).filter fun i => decide (1 ≤ i) && f (i + 1)
theorem mem_mk {f : Nat → Bool} {i : Nat} : i ∈ mk66 f ↔ 1 ≤ i ∧ i ≤ 66 ∧ f (i + 1) = true := by
  unfold mk66
  rw [List.mem_filter, List.mem_range, Bool.and_eq_true, decide_eq_true_eq]
  exact ⟨fun ⟨a, b, c⟩ => ⟨b, by omega, c⟩, fun ⟨a, b, c⟩ => ⟨by omega, a, c⟩⟩
theorem sm_closed {f : Nat → Bool} (h1 : f 1 = true) (c : Closed f) {i : Nat} (s : Sm (mk66 f) i) : f (i + 1) = true := by
  induction s with
  | zero => exact h1
  | @add n m _ hm ih => exact c n m ih (mem_mk.mp hm).2.2
theorem smB_closed {f : Nat → Bool} (h1 : f 1 = true) (c : Closed f) {i : Nat} (hi : i ≤ 66) : smB (mk66 f) i = f (i + 1) := by
  rw [Bool.eq_iff_iff, smB_iff]
  refine ⟨sm_closed h1 c, fun h => ?_⟩
  rcases Nat.eq_zero_or_pos i with e | e
  · rw [e]; exact .zero
  · exact .one (mem_mk.mpr ⟨e, hi, h⟩)
theorem gen_mem {M : List Nat} {x : Nat} (h : IsGen M x) : x ∈ M := by
  refine Classical.byContradiction fun c => h.2.2 ?_
  have : ∀ {n}, Sm M n → n ≤ x → Sm (M.filter (· < x)) n := by
    intro n hn
    induction hn with
    | zero => intro _; exact .zero
    | @add k m _ hm ih =>
      intro l
      refine .add (ih (by omega)) (List.mem_filter.mpr ⟨hm, decide_eq_true ?_⟩)
      have : m ≠ x := fun e => c (e ▸ hm)
      omega
  exact this h.2.1 (Nat.le_refl _)
theorem times_closed {f : Nat → Bool} (h1 : f 1 = true) (c : Closed f) {x : Nat} (hx : f (x + 1) = true) : ∀ k, f (k * x + 1) = true
  | 0 => by rw [Nat.zero_mul]; exact h1
  | k + 1 => by rw [Nat.succ_mul]; exact c _ _ (times_closed h1 c hx k) hx
theorem mult : ∀ p, 1 ≤ p → p ≤ 6 → 7 ≤ p * (12 / p) ∧ p * (12 / p) ≤ 12 := fun p h1 h6 => by
  match p, h1, h6 with
  | 1, _, _ => decide
  | 2, _, _ => decide
  | 3, _, _ => decide
  | 4, _, _ => decide
  | 5, _, _ => decide
  | 6, _, _ => decide
/-- those that are no sum of lesser ones are not great -/
theorem Per.gens {f : Nat → Bool} {p : Nat} (h : Per f p) (c : Closed f) {x : Nat} (g : IsGen (mk66 f) x) : x ≤ 59 := by
  refine Nat.le_of_not_lt fun lt => g.2.2 ?_
  obtain ⟨_, x66, fx⟩ := mem_mk.mp (gen_mem g)
  obtain ⟨q7, q12⟩ := mult p h.p1 h.p6
  have p1 := h.p1
  have fq : f (p * (12 / p) + 1) = true := by
    have e := times_closed h.one c fx p
    have big : 7 ≤ p * x := Nat.le_trans (by omega) (Nat.le_mul_of_pos_left x p1)
    rw [← e]
    refine h.cong (by omega) (by omega) ?_
    rw [Nat.add_mod, Nat.mul_mod_right, Nat.add_mod (p * x), Nat.mul_mod_right]
  have fr : f (x - p * (12 / p) + 1) = true := by
    rw [← fx]
    have := h.times (n := x - p * (12 / p) + 1) (by omega) (12 / p)
    rw [← this]
    congr 1
    rw [Nat.mul_comm (12 / p)]
    omega
  have a : Sm ((mk66 f).filter (· < x)) (x - p * (12 / p)) := .one (List.mem_filter.mpr ⟨mem_mk.mpr ⟨by omega, by omega, fr⟩, decide_eq_true (by omega)⟩)
  have b : Sm ((mk66 f).filter (· < x)) (p * (12 / p)) := .one (List.mem_filter.mpr ⟨mem_mk.mpr ⟨by omega, by omega, fq⟩, decide_eq_true (by omega)⟩)
  have := a.plus b
  rwa [show x - p * (12 / p) + p * (12 / p) = x by omega] at this
theorem Gens.keptG {M found kept : List Nat} {sums : List Bool} {n : Nat} (h : Gens M found sums n) (k : Kept kept M) (hp : ∀ x ∈ M, 0 < x) (hl : ∀ x, IsGen M x → x ≤ n) : found = kept :=
  asc_eq h.asc k.asc fun x => by
    rw [h.mem, k.gen hp]
    exact ⟨fun z => z.1, fun z => ⟨z, hl x z⟩⟩
/-- what is due: the word and the makers -/
inductive Due (f : Nat → Bool) : Option (PySem.Str × List Nat) → Prop
  | free (h : ∀ n, f n = true) : Due f (some ("free", []))
  | loan (h0 : f 0 = true) (h : ∀ n, 2 ≤ n → f n = false) : Due f (some ("loan", []))
  | none0 (h0 : f 0 = true) (a : ∃ n, n ≤ 60 ∧ f n = false) (b : ∃ n, 2 ≤ n ∧ n ≤ 60 ∧ f n = true) : Due f none
  | none1 (h0 : f 0 = false) (i j : Nat) (hi : i < 20) (hj : j < 20) (fi : f (i + 1) = true) (fj : f (j + 1) = true) (n : f (i + j + 1) = false) : Due f none
  | once (h0 : f 0 = false) (h : ∀ n, 2 ≤ n → f n = false) : Due f (some ("once", []))
  | more (h0 : f 0 = false) (c : Closed f) (M0 : 0 < (mk66 f).length) (kept : List Nat) (k : ∀ kept', Kept kept' (mk66 f) → kept = kept') : Due f (some ("more", kept))
end K03

set_option Elab.async false
set_option linter.all false
set_option maxRecDepth 100000
set_option maxHeartbeats 2000000
namespace K03
open PySem L2
abbrev sFlags : Stmt := top 4
abbrev sAre : Stmt := top 36
abbrev sRInit : Stmt := inClass (top 19) 0
abbrev sREq : Stmt := inClass (top 19) 1
abbrev sRHas : Stmt := inClass (top 19) 2
/-- an item of flags: a flag, or none -/
def FiAt (K : PySem.W.Frag) (H : Hp) : Option Bool → V → Prop
  | some b, v => v = .bl b
  | none, v => Nt K H v "bool"
theorem FiAt.same {K : PySem.W.Frag} {H H' : Hp} {o : Option Bool} {v : V} (h : FiAt K H o v) (s : Same H H') : FiAt K H' o v := by
  cases o with
  | some b => exact h
  | none => exact Nt.same h s
theorem FiAt.ty {K : PySem.W.Frag} {H : Hp} {o : Option Bool} {v : V} (h : FiAt K H o v) : ∃ tv, TyX K H v tv ∧ PySem.W.kitOne K tv (.type "bool") = some o.isSome := by
  cases o with
  | some b =>
    have e : v = .bl b := h
    subst e
    exact ⟨_, .base (.bl b), kit_ty (r := true) (by decide +kernel)⟩
  | none => exact h
/-- items of flags, one by one -/
def Fis (K : PySem.W.Frag) (G : Hp) (os : List (Option Bool)) (ys : List V) : Prop := ys.length = os.length ∧ ∀ (i : Nat) o y, os[i]? = some o → ys[i]? = some y → FiAt K G o y
/-- flags: a tuple, or none -/
def FgAt (K : PySem.W.Frag) (H : Hp) : Option (List (Option Bool)) → V → Prop
  | some os, v => ∃ a ys, v = .ref a ∧ SqT K H a ys ∧ os.length ≤ 100 ∧ Fis K H os ys
  | none, v => Nt K H v "tuple"
theorem Fis.same {K : PySem.W.Frag} {G G' : Hp} {os : List (Option Bool)} {ys : List V} (h : Fis K G os ys) (s : Same G G') : Fis K G' os ys := ⟨h.1, fun i o y h1 h2 => (h.2 i o y h1 h2).same s⟩
theorem FgAt.same {K : PySem.W.Frag} {H H' : Hp} {o : Option (List (Option Bool))} {v : V} (h : FgAt K H o v) (s : Same H H') : FgAt K H' o v := by
  cases o with
  | some os =>
    obtain ⟨a, ys, e, t, l, f⟩ := h
    exact ⟨a, ys, e, sqt_same t s, l, f.same s⟩
  | none => exact Nt.same h s
theorem FgAt.ty {K : PySem.W.Frag} {H : Hp} {o : Option (List (Option Bool))} {v : V} (h : FgAt K H o v) : ∃ tv, TyX K H v tv ∧ PySem.W.kitOne K tv (.type "tuple") = some o.isSome := by
  cases o with
  | some os =>
    obtain ⟨a, ys, rfl, t, _⟩ := h
    exact ⟨_, sqt_ty t, kit_ty (r := true) (by decide +kernel)⟩
  | none => exact h
def fgOk (lo hi : Nat) (o : Option (List (Option Bool))) : Bool := match o with
  | some os => decide (lo ≤ os.length) && decide (os.length ≤ hi) && os.all (·.isSome)
  | none => false
theorem fgOk_some {lo hi : Nat} {os : List (Option Bool)} : fgOk lo hi (some os) = (decide (lo ≤ os.length) && decide (os.length ≤ hi) && os.all (·.isSome)) := rfl
theorem fg_bools {lo hi : Nat} {o : Option (List (Option Bool))} (h : fgOk lo hi o = true) : ∃ bs : List Bool, o = some (bs.map some) ∧ lo ≤ bs.length ∧ bs.length ≤ hi := by
  cases o with
  | none => cases h
  | some os =>
    rw [fgOk_some, Bool.and_eq_true, Bool.and_eq_true, decide_eq_true_eq, decide_eq_true_eq] at h
    obtain ⟨⟨h1, h2⟩, h3⟩ := h
    have key : ∀ os : List (Option Bool), os.all (·.isSome) = true → ∃ bs : List Bool, os = bs.map some := by
      intro os
      induction os with
      | nil => exact fun _ => ⟨[], rfl⟩
      | cons o os ih =>
        intro h
        rw [List.all_cons] at h; rw [Bool.and_eq_true] at h
        obtain ⟨bs, e⟩ := ih h.2
        obtain ⟨b, rfl⟩ := Option.isSome_iff_exists.mp h.1
        exact ⟨b :: bs, by rw [e]; rfl⟩
    obtain ⟨bs, rfl⟩ := key os h3
    rw [List.length_map] at h1 h2
    exact ⟨bs, rfl, h1, h2⟩
theorem fg_at {K : PySem.W.Frag} {H : Hp} {bs : List Bool} {v : V} (h : FgAt K H (some (bs.map some)) v) : ∃ a, v = .ref a ∧ SqT K H a (bs.map V.bl) := by
  obtain ⟨a, ys, e, t, _, l, k⟩ := h
  refine ⟨a, e, ?_⟩
  rw [List.length_map] at l
  have : ys = bs.map V.bl := by
    refine List.ext_getElem? fun i => ?_
    by_cases c : i < bs.length
    · have h1 : (bs.map some)[i]? = some (some bs[i]) := by rw [List.getElem?_map, List.getElem?_eq_getElem c]; rfl
      have h2 : ys[i]? = some (ys[i]'(by omega)) := List.getElem?_eq_getElem (by omega)
      have := k i _ _ h1 h2
      rw [h2, show ys[i]'(by omega) = .bl bs[i] from this, List.getElem?_map, List.getElem?_eq_getElem c]
      rfl
    · rw [List.getElem?_eq_none (by omega), List.getElem?_eq_none (by rw [List.length_map]; omega)]
  rw [← this]; exact t
theorem fg_of {K : PySem.W.Frag} {H : Hp} {bs : List Bool} {a : Addr} (h : SqT K H a (bs.map V.bl)) (l : bs.length ≤ 100) : FgAt K H (some (bs.map some)) (.ref a) := by
  refine ⟨a, _, rfl, h, by rw [List.length_map]; exact l, by rw [List.length_map, List.length_map], fun i o y h1 h2 => ?_⟩
  rw [List.getElem?_map] at h1 h2
  cases e : bs[i]? with
  | none => rw [e] at h1; cases h1
  | some m => rw [e] at h1 h2; cases h1; cases h2; exact rfl
def spFlags (K : PySem.W.Frag) : Sp := fun vs H Q _ => ∃ (lo hi : Nat) (v : V) (o : Option (List (Option Bool))), vs = [.int (lo : Int), .int (hi : Int), v] ∧ FgAt K H o v ∧ ∀ H', Same H H' → Q (.bl (fgOk lo hi o)) H'
def spAre (K : PySem.W.Frag) : Sp := fun vs H Q _ => ∃ (lo hi : Nat) (v : V) (o : Option (List (Option Bool))), vs = [v, .int (lo : Int), .int (hi : Int)] ∧ FgAt K H o v ∧ ∀ H', Same H H' → Q (.bl (fgOk lo hi o)) H'
section
variable {P : Program} {w : World} {K : PySem.W.Frag} {mg : Str → Option Value} {base : Heap}
theorem scFlags : FnScope ["fewest", "most", "thing", "item"] ["fewest", "most", "thing"] (defScope sFlags) := ⟨rfl, rfl, rfl, by decide +kernel, rfl, by decide +kernel, by decide +kernel⟩
theorem ok_flags {f : Addr} {fd : FuncData} (F : Fn K mg "is_flags_within" sFlags ["fewest", "most", "thing"] f fd) (T : TxB mg) (T2 : TxD mg) : FnOk P w K mg base CX0 1 f fd ["fewest", "most", "thing"] (spFlags K) := by
  refine F.F.ok scFlags (fun vs H Q E h => ?_) (fun cdv A outer s H vs Q E hr h => ?_)
  · obtain ⟨_, _, _, _, rfl, _⟩ := h
    rfl
  · obtain ⟨lo, hi, v, o, rfl, hv, k⟩ := h
    have nd := scFlags.nd
    refine ⟨_, pss_cons (ps_if (PW.pt (pw_or (pt_not (pt_val (pe_callB call_isi (by rfl) T.isinstance (by decide +kernel) (pa_cons (pv 2) (pa_cons (pe_bltn (v := .ty "tuple") (by rfl) T2.tuple (by decide +kernel) rfl) pa_nil)))))
        (pw_or1 (pt_not (pt_chain op_le op_le (pv 0) (pe_callB call_len (by rfl) T.len PySem.boot_len (pa_cons (pv 2) pa_nil)) (pv 1)))))) (pss_one (ps_ret pe_bl)) pss_nil)
      (pss_one (ps_ret (pe_callB (cr_all rfl) (by rfl) T.all (by decide +kernel) (pa_cons (pe_lc (own := [("item", 3)]) (g := gName 3) (tt := tYes) rfl nd (pi_tup (pv 2))
        (blkOk_by (N := ["fewest", "most", "thing", "item"]) (sc := defScope sFlags) (by decide +kernel)) (fun _ _ _ _ _ => pg_name (i := 3) nd rfl (Or.inl rfl)) (fun _ _ _ _ _ => pts_nil)
        (fun _ _ _ _ _ => pe_callB (id := "isinstance") (r := rIsi K) call_isi (by rfl) T.isinstance (by decide +kernel) (pa_cons (pv 3) (pa_cons (pe_bltn (v := .ty "bool") (by rfl) T2.bool (by decide +kernel) rfl) pa_nil)))) pa_nil)))), ?_⟩
    obtain ⟨tv, ty, kt⟩ := hv.ty
    refine ⟨_, rfl, _, _, _, _, _, rfl, .ty _, ty, kt, _, rfl, ?_⟩
    cases o with
    | none =>
      refine ifT rfl ?_
      refine ifT rfl ?_
      exact k H (same_refl H)
    | some os =>
      refine ifF rfl ?_
      obtain ⟨a, ys, rfl, ht, hlo, hly, hit⟩ := hv
      rw [fgOk_some] at k
      refine ⟨_, rfl, _, rfl, _, _, rfl, .inr ⟨_, ht, rfl⟩, _, _, rfl, rfl, _, rfl, ?_⟩
      rw [hly]
      refine ite2 (fun d1 => ?_) (fun d1 => ?_)
      · have d1' : lo ≤ os.length := by have := of_decide_eq_true d1; omega
        rw [decide_eq_true d1', Bool.true_and] at k
        refine ⟨_, rfl, _, _, rfl, rfl, _, rfl, ?_⟩
        refine ite2 (fun d2 => ?_) (fun d2 => ?_)
        · have d2' : ¬ os.length ≤ hi := fun q => by
            have : decide ((os.length : Int) ≤ (hi : Int)) = true := decide_eq_true (by omega)
            rw [this] at d2; cases d2
          rw [decide_eq_false d2', Bool.false_and] at k
          exact k H (same_refl H)
        · have d2' : os.length ≤ hi := by
            refine Classical.byContradiction fun q => d2 ?_
            have : decide ((os.length : Int) ≤ (hi : Int)) = false := decide_eq_false (by omega)
            rw [this]; rfl
          rw [decide_eq_true d2', Bool.true_and] at k
          refine ⟨_, rfl, a, rfl, ⟨_, ht⟩, fun D hD => ?_⟩
          refine lc_tup (K := K) (a := a) (xs := ys) (fun i H' => Same H H' ∧ H' D = some (.lst ((os.take i).map fun o => V.bl o.isSome))) ⟨same_new (same_refl H) hD, upd_same⟩ (fun i H' _ p => sqt_same ht p.1) ?_ ?_
          · rintro i y H' hy ⟨h1, h2⟩
            have hi' : i < os.length := by rw [← hly]; exact (List.getElem?_eq_some_iff.mp hy).1
            have hoi : os[i]? = some os[i] := List.getElem?_eq_getElem hi'
            obtain ⟨ti, tyi, kti⟩ := ((hit i _ _ hoi hy).same h1).ty
            refine ⟨rfl, ?_⟩
            refine yes_kept ?_
            refine ⟨_, rfl, _, _, _, _, _, rfl, .ty _, tyi, kti, ?_⟩
            refine ⟨_, h2, (by rw [List.length_map, List.length_take]; exact small1000 (by omega)), fun b u e => ?_, ?_⟩
            · rw [upd_ne (ne_of_none e hD)]; exact h1 b u e
            · rw [upd_same, List.take_add_one, hoi, List.map_append]; rfl
          · rintro H' ⟨h1, h2⟩
            rw [hly, List.take_length] at h2
            refine ⟨D, os.map (·.isSome), rfl, SqL.of (by rw [List.map_map]; exact h2), ?_⟩
            rw [List.all_map]
            exact k H' h1
      · have d1' : ¬ lo ≤ os.length := fun q => d1 (decide_eq_true (by omega))
        rw [decide_eq_false d1', Bool.false_and, Bool.false_and] at k
        refine ⟨_, rfl, ?_⟩
        refine ifT rfl ?_
        exact k H (same_refl H)
end
end K03

set_option Elab.async false
set_option linter.all false
set_option maxRecDepth 100000
set_option maxHeartbeats 2000000
namespace K03
open PySem L2
section
variable {P : Program} {w : World} {K : PySem.W.Frag} {mg : Str → Option Value} {base : Heap}
theorem scAre : FnScope ["_law_thing", "_law_least", "_law_most", "_law_flag_here"] ["_law_thing", "_law_least", "_law_most"] (defScope sAre) := ⟨rfl, rfl, rfl, by decide +kernel, rfl, by decide +kernel, by decide +kernel⟩
theorem ok_are {f : Addr} {fd : FuncData} (F : Fn K mg "_law_are_flags" sAre ["_law_thing", "_law_least", "_law_most"] f fd) (T : TxB mg) (T2 : TxD mg) : FnOk P w K mg base CX0 1 f fd ["_law_thing", "_law_least", "_law_most"] (spAre K) := by
  refine F.F.ok scAre (fun vs H Q E h => ?_) (fun cdv A outer s H vs Q E hr h => ?_)
  · obtain ⟨_, _, _, _, rfl, _⟩ := h
    rfl
  · obtain ⟨lo, hi, v, o, rfl, hv, k⟩ := h
    have nd := scAre.nd
    refine ⟨_, pss_cons (ps_if (PW.pt (pw_or (pt_not (pt_val (pe_callB call_isi (by rfl) T.isinstance (by decide +kernel) (pa_cons (pv 0) (pa_cons (pe_bltn (v := .ty "tuple") (by rfl) T2.tuple (by decide +kernel) rfl) pa_nil)))))
        (pw_or1 (pt_not (pt_chain op_le op_le (pv 1) (pe_callB call_len (by rfl) T.len PySem.boot_len (pa_cons (pv 0) pa_nil)) (pv 2)))))) (pss_one (ps_ret pe_bl)) pss_nil)
      (pss_one (ps_ret (pe_callB (cr_all rfl) (by rfl) T.all (by decide +kernel) (pa_cons (pe_lc (own := [("_law_flag_here", 3)]) (g := gName 3) (tt := tYes) rfl nd (pi_tup (pv 0))
        (blkOk_by (N := ["_law_thing", "_law_least", "_law_most", "_law_flag_here"]) (sc := defScope sAre) (by decide +kernel)) (fun _ _ _ _ _ => pg_name (i := 3) nd rfl (Or.inl rfl)) (fun _ _ _ _ _ => pts_nil)
        (fun _ _ _ _ _ => pe_callB (id := "isinstance") (r := rIsi K) call_isi (by rfl) T.isinstance (by decide +kernel) (pa_cons (pv 3) (pa_cons (pe_bltn (v := .ty "bool") (by rfl) T2.bool (by decide +kernel) rfl) pa_nil)))) pa_nil)))), ?_⟩
    obtain ⟨tv, ty, kt⟩ := hv.ty
    refine ⟨_, rfl, _, _, _, _, _, rfl, .ty _, ty, kt, _, rfl, ?_⟩
    cases o with
    | none =>
      refine ifT rfl ?_
      refine ifT rfl ?_
      exact k H (same_refl H)
    | some os =>
      refine ifF rfl ?_
      obtain ⟨a, ys, rfl, ht, hlo, hly, hit⟩ := hv
      rw [fgOk_some] at k
      refine ⟨_, rfl, _, rfl, _, _, rfl, .inr ⟨_, ht, rfl⟩, _, _, rfl, rfl, _, rfl, ?_⟩
      rw [hly]
      refine ite2 (fun d1 => ?_) (fun d1 => ?_)
      · have d1' : lo ≤ os.length := by have := of_decide_eq_true d1; omega
        rw [decide_eq_true d1', Bool.true_and] at k
        refine ⟨_, rfl, _, _, rfl, rfl, _, rfl, ?_⟩
        refine ite2 (fun d2 => ?_) (fun d2 => ?_)
        · have d2' : ¬ os.length ≤ hi := fun q => by
            have : decide ((os.length : Int) ≤ (hi : Int)) = true := decide_eq_true (by omega)
            rw [this] at d2; cases d2
          rw [decide_eq_false d2', Bool.false_and] at k
          exact k H (same_refl H)
        · have d2' : os.length ≤ hi := by
            refine Classical.byContradiction fun q => d2 ?_
            have : decide ((os.length : Int) ≤ (hi : Int)) = false := decide_eq_false (by omega)
            rw [this]; rfl
          rw [decide_eq_true d2', Bool.true_and] at k
          refine ⟨_, rfl, a, rfl, ⟨_, ht⟩, fun D hD => ?_⟩
          refine lc_tup (K := K) (a := a) (xs := ys) (fun i H' => Same H H' ∧ H' D = some (.lst ((os.take i).map fun o => V.bl o.isSome))) ⟨same_new (same_refl H) hD, upd_same⟩ (fun i H' _ p => sqt_same ht p.1) ?_ ?_
          · rintro i y H' hy ⟨h1, h2⟩
            have hi' : i < os.length := by rw [← hly]; exact (List.getElem?_eq_some_iff.mp hy).1
            have hoi : os[i]? = some os[i] := List.getElem?_eq_getElem hi'
            obtain ⟨ti, tyi, kti⟩ := ((hit i _ _ hoi hy).same h1).ty
            refine ⟨rfl, ?_⟩
            refine yes_kept ?_
            refine ⟨_, rfl, _, _, _, _, _, rfl, .ty _, tyi, kti, ?_⟩
            refine ⟨_, h2, (by rw [List.length_map, List.length_take]; exact small1000 (by omega)), fun b u e => ?_, ?_⟩
            · rw [upd_ne (ne_of_none e hD)]; exact h1 b u e
            · rw [upd_same, List.take_add_one, hoi, List.map_append]; rfl
          · rintro H' ⟨h1, h2⟩
            rw [hly, List.take_length] at h2
            refine ⟨D, os.map (·.isSome), rfl, SqL.of (by rw [List.map_map]; exact h2), ?_⟩
            rw [List.all_map]
            exact k H' h1
      · have d1' : ¬ lo ≤ os.length := fun q => d1 (decide_eq_true (by omega))
        rw [decide_eq_false d1', Bool.false_and, Bool.false_and] at k
        refine ⟨_, rfl, ?_⟩
        refine ifT rfl ?_
        exact k H (same_refl H)
end
end K03

set_option Elab.async false
set_option linter.all false
set_option maxRecDepth 100000
set_option maxHeartbeats 2000000
namespace K03
open PySem L2
/-- the flag that a raw lot has of a number -/
def rawB (hs rs : List Bool) (n : Nat) : Bool := if n < hs.length then hs.getD n false else rs.getD ((n - hs.length) % rs.length) false
def rawL (hs rs : List Bool) (k : Nat) : List Bool := (List.range k).map (rawB hs rs)
theorem rawL_succ {hs rs : List Bool} {k : Nat} : rawL hs rs (k + 1) = rawL hs rs k ++ [rawB hs rs k] := by
  unfold rawL
  rw [List.range_succ, List.map_append]; rfl
theorem rawL_len {hs rs : List Bool} {k : Nat} : (rawL hs rs k).length = k := by unfold rawL; rw [List.length_map, List.length_range]
theorem rawL_get {hs rs : List Bool} {k i : Nat} (h : i < k) : (rawL hs rs k)[i]? = some (rawB hs rs i) := by
  unfold rawL
  rw [List.getElem?_map, List.getElem?_range h]; rfl
/-- right heads and rounds -/
structure RawOk (hs rs : List Bool) : Prop where
  h8 : hs.length ≤ 8
  r1 : 1 ≤ rs.length
  r6 : rs.length ≤ 6
  one : rawB hs rs 1 = true
theorem RawOk.per {hs rs : List Bool} (h : RawOk hs rs) : Per (rawB hs rs) rs.length := by
  refine ⟨h.r1, h.r6, h.one, fun n hn => ?_⟩
  have h8 := h.h8
  unfold rawB
  rw [if_neg (by omega), if_neg (by omega), show n + rs.length - hs.length = (n - hs.length) + rs.length by omega, Nat.add_mod_right]
/-- two raw lots that are alike as far as the program looks are alike -/
theorem raw_far {hs rs hs' rs' : List Bool} (h : RawOk hs rs) (h' : RawOk hs' rs') (e : rawL hs rs 68 = rawL hs' rs' 68) : ∀ n, rawB hs rs n = rawB hs' rs' n := by
  have near : ∀ n, n < 68 → rawB hs rs n = rawB hs' rs' n := fun n hn => by
    have := congrArg (fun l => l[n]?) e
    simp only [rawL_get hn] at this
    exact Option.some.inj this
  have sixty : ∀ {hs rs : List Bool}, RawOk hs rs → ∀ n, 8 ≤ n → rawB hs rs (n + 60) = rawB hs rs n := fun {hs rs} h n hn => by
    have : 60 = (60 / rs.length) * rs.length := by
      have a := h.r1
      have b := h.r6
      generalize rs.length = p at a b
      match p, a, b with
      | 1, _, _ => rfl
      | 2, _, _ => rfl
      | 3, _, _ => rfl
      | 4, _, _ => rfl
      | 5, _, _ => rfl
      | 6, _, _ => rfl
    have q := h.per.times hn (60 / rs.length)
    rw [← this] at q
    exact q
  intro n
  induction n using Nat.strongRecOn with | _ n ih =>
    by_cases c : n < 68
    · exact near n c
    · have a := sixty h (n - 60) (by omega)
      have b := sixty h' (n - 60) (by omega)
      rw [show n - 60 + 60 = n by omega] at a b
      rw [a, b]
      exact ih (n - 60) (by omega)
theorem raw_eq {hs rs hs' rs' : List Bool} (h : RawOk hs rs) (h' : RawOk hs' rs') (k : Nat) (hk : 68 ≤ k) : decide (rawL hs rs 68 = rawL hs' rs' 68) = decide (rawL hs rs k = rawL hs' rs' k) := by
  rw [Bool.eq_iff_iff]; rw [decide_eq_true_eq, decide_eq_true_eq]
  refine ⟨fun e => List.map_congr_left fun n _ => raw_far h h' e n, fun e => List.map_congr_left fun n hn => ?_⟩
  have hn' : n < k := Nat.lt_of_lt_of_le (List.mem_range.mp hn) hk
  have := congrArg (fun l => l[n]?) e
  simp only [rawL_get hn'] at this
  exact Option.some.inj this
/-! ### RawLot of the program -/
def RF2 (th tr : Addr) : List (Str × V) := [(("heads" : Str), .ref th), (("rounds" : Str), .ref tr)]
def RF3 (th tr tt : Addr) : List (Str × V) := [(("heads" : Str), .ref th), (("rounds" : Str), .ref tr), (("_told" : Str), .ref tt)]
theorem rf_1 {th tr : Addr} : putF "rounds" (.ref tr) (putF "heads" (.ref th) []) = RF2 th tr := by
  have h1 : ¬ (("heads" : Str) = "rounds") := by decide +kernel
  simp only [putF, if_neg h1, RF2]
theorem rf_2 {th tr tt : Addr} : putF "_told" (.ref tt) (RF2 th tr) = RF3 th tr tt := by
  have h1 : ¬ (("heads" : Str) = "_told") := by decide +kernel
  have h2 : ¬ (("rounds" : Str) = "_told") := by decide +kernel
  simp only [putF, RF2, RF3, if_neg h1, if_neg h2]
structure RawAt (K : PySem.W.Frag) (CR : Addr) (H : Hp) (x : Addr) (hs rs : List Bool) : Prop where
  ob : ∃ dx th tr tt, H x = some (.ins CR dx (RF3 th tr tt)) ∧ SqT K H th (hs.map V.bl) ∧ SqT K H tr (rs.map V.bl) ∧ H tt = some (.tup ((rawL hs rs 68).map V.bl))
  ok : RawOk hs rs
theorem RawAt.same {K : PySem.W.Frag} {CR : Addr} {H H' : Hp} {x : Addr} {hs rs : List Bool} (h : RawAt K CR H x hs rs) (s : Same H H') : RawAt K CR H' x hs rs := by
  obtain ⟨⟨dx, th, tr, tt, h1, h2, h3, h4⟩, ok⟩ := h
  exact ⟨⟨dx, th, tr, tt, s _ _ h1, sqt_same h2 s, sqt_same h3 s, s _ _ h4⟩, ok⟩
/-- what the written part says of RawLot -/
structure RawT (K : PySem.W.Frag) (mg : Str → Option Value) (CR fE : Addr) : Prop where
  cl : Cls K CR
  nH : NoAttr K CR "heads"
  nR : NoAttr K CR "rounds"
  nT : NoAttr K CR "_told"
  mgR : mg "RawLot" = some (.ref CR)
  ha : PySem.W.findIn K (.ref CR) "__class__" = some (some (.builtin "object.__class__"))
  cg : PySem.W.specialIn K (.builtin "object.__class__") "__get__" = some (some (.builtin "getset_descriptor.__get__"))
  cTk : PySem.W.takesIn K (.builtin "object.__class__") = some true
  ow : OwnE K CR fE
structure TxR (mg : Str → Option Value) : Prop where
  heads : ∃ u, mg "MOST_HEADS" = some (.int 8 u)
  rounds : ∃ u, mg "MOST_ROUNDS" = some (.int 6 u)
  enough : ∃ u, mg "ENOUGH" = some (.int 68 u)
def dueRaw (hd rd : Option (List (Option Bool))) : Option Str := if fgOk 0 8 hd = true then (if fgOk 1 6 rd = true then (match hd, rd with
  | some h, some r => if rawB (h.map (·.getD false)) (r.map (·.getD false)) 1 = true then none else some "one"
  | _, _ => some "one") else some "rounds") else some "heads"
def spRHas (K : PySem.W.Frag) (CR : Addr) : Sp := fun vs H Q _ => ∃ (x dx th tr : Addr) (fs : List (Str × V)) (n : Nat) (hs rs : List Bool), vs = [.ref x, .int (n : Int)] ∧ H x = some (.ins CR dx fs) ∧ fs.lookup ("heads" : Str) = some (.ref th) ∧ fs.lookup ("rounds" : Str) = some (.ref tr) ∧ SqT K H th (hs.map V.bl) ∧ SqT K H tr (rs.map V.bl) ∧ 1 ≤ rs.length ∧ Q (.bl (rawB hs rs n)) H
section
variable {P : Program} {w : World} {K : PySem.W.Frag} {mg : Str → Option Value} {base : Heap} {CR fE : Addr}
theorem scRHas : FnScope ["self", "number"] ["self", "number"] (defScope sRHas) := ⟨rfl, rfl, rfl, by decide +kernel, rfl, by decide +kernel, by decide +kernel⟩
theorem ok_rhas {f : Addr} {fd : FuncData} (F : Fun K "has" "RawLot.has" sRHas f fd) (T : TxB mg) (R : RawT K mg CR fE) : FnOk P w K mg base CX0 1 f fd ["self", "number"] (spRHas K CR) := by
  refine F.ok scRHas (fun vs H Q E h => ?_) (fun cdv A outer s H vs Q E hr h => ?_)
  · obtain ⟨_, _, _, _, _, _, _, _, rfl, _⟩ := h
    rfl
  · obtain ⟨x, dx, th, tr, fs, n, hs, rs, rfl, hx, l1, l2, h1, h2, r1, k⟩ := h
    refine ⟨_, pss_cons (ps_if (pt_cmpR op_lt (pv 1) (pe_callB call_len (by rfl) T.len PySem.boot_len (pa_cons (pe_fld (pv 0) rfl) pa_nil)) (nomark _)) (pss_one (ps_ret (pe_ix ix_tup (pe_fld (pv 0) rfl) (pv 1) (fun _ _ => rfl)))) pss_nil)
      (pss_one (ps_ret (pe_ix ix_tup (pe_fld (pv 0) rfl) (pe_op op_mod (pe_op op_sub (pv 1) (pe_callB call_len (by rfl) T.len PySem.boot_len (pa_cons (pe_fld (pv 0) rfl) pa_nil))) (pe_callB call_len (by rfl) T.len PySem.boot_len (pa_cons (pe_fld (pv 0) rfl) pa_nil))) (fun _ _ => rfl)))), ?_⟩
    refine ⟨_, rfl, _, rfl, x, CR, dx, _, _, rfl, hx, R.cl, R.nH, l1, _, _, rfl, .inr ⟨_, h1, rfl⟩, _, _, rfl, rfl, _, rfl, ?_⟩
    rw [List.length_map]
    refine ite2 (fun c => ?_) (fun c => ?_)
    · have c2 : n < hs.length := by have := of_decide_eq_true c; omega
      have e : rawB hs rs n = hs[n] := by unfold rawB; rw [if_pos c2, List.getD_eq_getElem?_getD, List.getElem?_eq_getElem c2]; rfl
      rw [e] at k
      exact ⟨_, rfl, x, CR, dx, _, _, rfl, hx, R.cl, R.nH, l1, _, rfl, th, _, _, _, rfl, rfl, h1, atI_nat (by rw [List.getElem?_map, List.getElem?_eq_getElem c2]; rfl), k⟩
    · have c2 : ¬ n < hs.length := fun z => c (decide_eq_true (by omega))
      have lt : (n - hs.length) % rs.length < rs.length := Nat.mod_lt _ (by omega)
      have e : rawB hs rs n = rs[(n - hs.length) % rs.length] := by unfold rawB; rw [if_neg c2, List.getD_eq_getElem?_getD, List.getElem?_eq_getElem lt]; rfl
      rw [e] at k
      refine ⟨_, rfl, x, CR, dx, _, _, rfl, hx, R.cl, R.nR, l2, _, rfl, _, rfl, x, CR, dx, _, _, rfl, hx, R.cl, R.nH, l1, _, _, rfl, .inr ⟨_, h1, rfl⟩, _, _, rfl, rfl, _, rfl, x, CR, dx, _, _, rfl, hx, R.cl, R.nR, l2, _, _, rfl, .inr ⟨_, h2, rfl⟩, ?_⟩
      rw [List.length_map, List.length_map]
      refine ⟨_, _, rfl, rfl, (by show (0 : Int) < _; omega), tr, _, (((n - hs.length) % rs.length : Nat) : Int), _, rfl, ?_, h2, atI_nat (by rw [List.getElem?_map, List.getElem?_eq_getElem lt]; rfl), k⟩
      show V.int (((n : Int) - (hs.length : Int)) % (rs.length : Int)) = _
      rw [show (n : Int) - (hs.length : Int) = ((n - hs.length : Nat) : Int) by omega, ← Int.natCast_emod]
end
end K03

set_option Elab.async false
set_option linter.all false
set_option maxRecDepth 100000
set_option maxHeartbeats 2000000
namespace K03
open PySem L2
theorem map_getD (l : List Bool) : (l.map some).map (·.getD false) = l := by
  rw [List.map_map]
  have : ((fun o : Option Bool => o.getD false) ∘ some) = id := by funext b; rfl
  rw [this, List.map_id]
theorem due_one {hs rs : List Bool} (h1 : fgOk 0 8 (some (hs.map some)) = true) (h2 : fgOk 1 6 (some (rs.map some)) = true) : dueRaw (some (hs.map some)) (some (rs.map some)) = if rawB hs rs 1 = true then none else some ("one" : Str) := by
  unfold dueRaw
  rw [if_pos h1, if_pos h2]
  show (if rawB ((hs.map some).map (·.getD false)) ((rs.map some).map (·.getD false)) 1 = true then none else some ("one" : Str)) = _
  rw [map_getD, map_getD]
/-- classes as isinstance asks them of a raw lot -/
structure RawK (K : PySem.W.Frag) (CR : Addr) : Prop where
  me : PySem.W.kitOne K (.ref CR) (.ref CR) = some true
  st : PySem.W.kitOne K (.type "str") (.ref CR) = some false
  tu : PySem.W.kitOne K (.type "tuple") (.ref CR) = some false
  no : PySem.W.kitOne K (.type "NoneType") (.ref CR) = some false
def spRInit (K : PySem.W.Frag) (CR CB : Addr) : Sp := fun vs H Q E => ∃ (x dx : Addr) (vh vr : V) (hd rd : Option (List (Option Bool))), vs = [.ref x, vh, vr] ∧ H x = some (.ins CR dx []) ∧ FgAt K H hd vh ∧ FgAt K H rd vr ∧
  (dueRaw hd rd = none → ∀ H' hs rs, hd = some (hs.map some) → rd = some (rs.map some) → (∀ b o, b ≠ x → H b = some o → H' b = some o) → RawAt K CR H' x hs rs → Q .non H') ∧
  (∀ part, dueRaw hd rd = some part → ∀ d H', (∀ b o, b ≠ x → H b = some o → H' b = some o) → H d = none → H' d = some (partO part) → E (.ref CB) (some d) H')
def spREq (K : PySem.W.Frag) (CR : Addr) : Sp := fun vs H Q _ => ∃ (x : Addr) (y : V) (hs rs : List Bool), vs = [.ref x, y] ∧ RawAt K CR H x hs rs ∧
  ((∃ (x' : Addr) (hs' rs' : List Bool), y = .ref x' ∧ RawAt K CR H x' hs' rs' ∧ Q (.bl (decide (rawL hs rs 68 = rawL hs' rs' 68))) H) ∨ (OddV K H y ∧ Q (.bl false) H))
section
variable {P : Program} {w : World} {K : PySem.W.Frag} {mg : Str → Option Value} {base : Heap} {CR fE CB fB : Addr} {fdB : FuncData}
theorem scREq : FnScope ["self", "other"] ["self", "other"] (defScope sREq) := ⟨rfl, rfl, rfl, by decide +kernel, rfl, by decide +kernel, by decide +kernel⟩
theorem ok_req {f : Addr} {fd : FuncData} (F : Fun K "__eq__" "RawLot.__eq__" sREq f fd) (T : TxB mg) (R : RawT K mg CR fE) (RK : RawK K CR) : FnOk P w K mg base CX0 1 f fd ["self", "other"] (spREq K CR) := by
  refine F.ok scREq (fun vs H Q E h => ?_) (fun cdv A outer s H vs Q E hr h => ?_)
  · obtain ⟨_, _, _, _, rfl, _⟩ := h
    rfl
  · obtain ⟨x, y, hs, rs, rfl, hx, h⟩ := h
    refine ⟨_, pss_one (ps_ret (pe_and (pe_callB call_isi (by rfl) T.isinstance (by decide +kernel) (pa_cons (pv 1) (pa_cons (pe_glob (v := .ref CR) (by rfl) R.mgR rfl) pa_nil)))
      (pe_one (pe_cmpR (op_eqD hr.units) (pe_fld (pv 0) rfl) (pe_fld (pv 1) rfl) (nomark _))))), ?_⟩
    obtain ⟨dx, th, tr, tt, ob, _, _, mt⟩ := hx.ob
    rcases h with ⟨x', hs', rs', rfl, hx', k⟩ | ⟨ho, k⟩
    · obtain ⟨dx', th', tr', tt', ob', _, _, mt'⟩ := hx'.ob
      refine ⟨_, rfl, _, _, _, _, _, rfl, .own _, .base (.ins ob' R.cl R.ha R.cg R.cTk R.ow.ob), RK.me, _, rfl, ?_⟩
      refine iteT ?_
      refine ⟨_, rfl, x, CR, dx, _, _, rfl, ob, R.cl, R.nT, rfl, _, rfl, x', CR, dx', _, _, rfl, ob', R.cl, R.nT, rfl, ?_⟩
      refine ⟨_, _, .tup (SqT.of mt) (dp_bools _), .tup (SqT.of mt') (dp_bools _), shaped_tup bools_flat, shaped_tup bools_flat, ?_⟩
      rw [← eqv_bools] at k
      exact k
    · obtain ⟨tv, ty, kt⟩ : ∃ tv, TyX K H y tv ∧ PySem.W.kitOne K tv (.ref CR) = some false := by
        rcases ho with ⟨u, rfl⟩ | rfl | ⟨a, xs, rfl, ha⟩
        · exact ⟨_, .base (.str u), RK.st⟩
        · exact ⟨_, .base .non, RK.no⟩
        · exact ⟨_, sqt_ty ha, RK.tu⟩
      refine ⟨_, rfl, _, _, _, _, _, rfl, .own _, ty, kt, _, rfl, ?_⟩
      exact iteF k
theorem scRI : FnScope ["self", "heads", "rounds", "number"] ["self", "heads", "rounds"] (defScope sRInit) := ⟨rfl, rfl, rfl, by decide +kernel, rfl, by decide +kernel, by decide +kernel⟩
theorem ok_rinit {f fF fH : Addr} {fd fdF fdH : FuncData} (F : Fun K "__init__" "RawLot.__init__" sRInit f fd) (T : TxB mg) (T2 : TxD mg) (TR : TxR mg) (R : RawT K mg CR fE) (NF : Fn K mg "is_flags_within" sFlags ["fewest", "most", "thing"] fF fdF)
    (FH : Fun K "has" "RawLot.has" sRHas fH fdH) (bH : Binds K fdH ["self", "number"] []) (mH : Meth K CR "has" fH) (B : BadT K mg CB fB fdB) : FnOk P w K mg base (L2.CX P w) 3 f fd ["self", "heads", "rounds"] (spRInit K CR CB) := by
  have GF : FnOk P w K mg base CX0 1 fF fdF ["fewest", "most", "thing"] (spFlags K) := ok_flags NF T T2
  have GH : FnOk P w K mg base CX0 1 fH fdH ["self", "number"] (spRHas K CR) := ok_rhas FH T R
  obtain ⟨u8, h8⟩ := TR.heads
  obtain ⟨u6, h6⟩ := TR.rounds
  obtain ⟨u68, h68⟩ := TR.enough
  refine F.okX scRI (fun vs H Q E h => ?_) (fun cdv A outer s H vs Q E hr h => ?_)
  · obtain ⟨_, _, _, _, _, _, rfl, _⟩ := h
    rfl
  · obtain ⟨x, dx, vh, vr, hd, rd, rfl, hx, hh, hv, kq, ke⟩ := h
    have nd := scRI.nd
    have hu := hu_of hr
    have hr1 := hr.mono (show 1 ≤ 2 by decide)
    refine ⟨_, pss_cons (ps_if (pt_not (pt_val (pe_call GF hr1 (by rfl) NF.m NF.F.kp NF.b .nil pass0 (pa_cons pe_int (pa_cons (pe_glob (v := .int 8) (by rfl) h8 ⟨_, rfl⟩) (pa_cons (pv 1) pa_nil)))))) (pss_one (ps_raise rfl (takes_of rfl rfl rfl rfl) (pmk_oex B.err.ox B.i B.t (ok_bad B.F B.err.ox B.no) hr B.b .nil pass0 (by rfl) B.m (pa_cons pe_str pa_nil)))) pss_nil)
      (pss_cons (ps_if (pt_not (pt_val (pe_call GF hr1 (by rfl) NF.m NF.F.kp NF.b .nil pass0 (pa_cons pe_int (pa_cons (pe_glob (v := .int 6) (by rfl) h6 ⟨_, rfl⟩) (pa_cons (pv 2) pa_nil)))))) (pss_one (ps_raise rfl (takes_of rfl rfl rfl rfl) (pmk_oex B.err.ox B.i B.t (ok_bad B.F B.err.ox B.no) hr B.b .nil pass0 (by rfl) B.m (pa_cons pe_str pa_nil)))) pss_nil)
      (pss_cons (ps_fld (pv 0) (pv 1) rfl)
      (pss_cons (ps_fld (pv 0) (pv 2) rfl)
      (pss_cons (ps_if (pt_not (pt_val (pe_meth (pv 0) R.cl mH GH hr1 bH .nil pass0 (pa_cons pe_int pa_nil)))) (pss_one (ps_raise rfl (takes_of rfl rfl rfl rfl) (pmk_oex B.err.ox B.i B.t (ok_bad B.F B.err.ox B.no) hr B.b .nil pass0 (by rfl) B.m (pa_cons pe_str pa_nil)))) pss_nil)
      (pss_one (ps_fld (pv 0) (pe_callTy call_tuple_of (by rfl) T2.tuple (by decide +kernel) (pa_cons (pe_lc (own := [("number", 3)]) (g := gName 3) (tt := tYes) rfl nd (pi_range1 (by rfl) T.range (pa_cons (pe_glob (v := .int 68) (by rfl) h68 ⟨_, rfl⟩) pa_nil))
        (blkOk_by (N := ["self", "heads", "rounds", "number"]) (sc := defScope sRInit) (by decide +kernel)) (fun _ _ _ _ _ => pg_name (i := 3) nd rfl (Or.inl rfl)) (fun _ _ _ _ _ => pts_nil)
        (fun _ _ _ _ _ => pe_meth (pv 0) R.cl mH GH hr1 bH .nil pass0 (pa_cons (pv 3) pa_nil))) pa_nil)) rfl)))))), ?_⟩
    have bad : ∀ {part : Str} {H1 : Hp}, (∀ b o, b ≠ x → H b = some o → H1 b = some o) → H1 x ≠ none → dueRaw hd rd = some part → ∀ a, H1 a = none → spBad K CB [.ref a, .str part] (upd H1 a (exo a CB none)) (fun v H2 => v = .non ∧ ∃ (d : Addr) (fs : List (Str × V)), H2 a = some (exo a CB (some d)) ∧ H2 d = some (exd d fs) ∧ H1 d = none ∧ E (.ref CB) (some d) (upd (del H2 a) d (.xd fs))) (fun _ _ _ => False) := by
      intro part H1 off h1x hdue a ha
      refine ⟨a, _, rfl, upd_same, fun d hd1 hda => ⟨rfl, d, _, upd_same, (by rw [upd_ne hda, upd_same]), ?_, ?_⟩⟩
      · rw [upd_ne hda] at hd1; exact hd1
      · rw [upd_ne hda] at hd1
        have dx' : d ≠ x := fun z => h1x (z ▸ hd1)
        have sb := bad_left (CB := CB) (part := part) ha hd1 hda
        refine ke part hdue d _ (fun b o hb e => sb _ _ (off b o hb e)) ?_ upd_same
        cases e : H d with
        | none => rfl
        | some o => have := off d o dx' e; rw [hd1] at this; cases this
    have hx0 : H x ≠ none := by rw [hx]; exact fun z => nomatch z
    refine ⟨_, rfl, 0, 8, vh, hd, rfl, hh, fun H1 s1 => ⟨_, rfl, ?_⟩⟩
    have hx1 := s1 _ _ hx
    have nx1 : H1 x ≠ none := by rw [hx1]; exact fun z => nomatch z
    refine ite2 (fun c => ?_) (fun c => ?_)
    · have c2 : ¬ fgOk 0 8 hd = true := by simpa using c
      exact ⟨(by show 1 ≤ 1000; decide), bad (fun b o _ e => s1 _ _ e) nx1 (by unfold dueRaw; rw [if_neg c2])⟩
    · have c2 : fgOk 0 8 hd = true := by simpa using c
      refine ⟨_, rfl, 1, 6, vr, rd, rfl, hv.same s1, fun H2 s2 => ⟨_, rfl, ?_⟩⟩
      have s12 := same_trans s1 s2
      have hx2 := s2 _ _ hx1
      have nx2 : H2 x ≠ none := by rw [hx2]; exact fun z => nomatch z
      refine ite2 (fun d => ?_) (fun d => ?_)
      · have d2 : ¬ fgOk 1 6 rd = true := by simpa using d
        exact ⟨(by show 1 ≤ 1000; decide), bad (fun b o _ e => s12 _ _ e) nx2 (by unfold dueRaw; rw [if_pos c2, if_neg d2])⟩
      · have d2 : fgOk 1 6 rd = true := by simpa using d
        obtain ⟨hs, rfl, _, l8⟩ := fg_bools c2
        obtain ⟨rs, rfl, l1, l6⟩ := fg_bools d2
        obtain ⟨th, rfl, hth⟩ := fg_at (hh.same s12)
        obtain ⟨tr, rfl, htr⟩ := fg_at (hv.same s12)
        have edue := due_one c2 d2
        refine ⟨_, rfl, _, rfl, x, CR, dx, _, rfl, hx2, R.cl, R.nH, (by show 0 < 1000; decide), ?_⟩
        refine ⟨_, rfl, _, rfl, x, CR, dx, _, rfl, upd_same, R.cl, R.nR, (by show 1 < 1000; decide), ?_⟩
        rw [rf_1]
        have x3 : upd (upd H2 x (.ins CR dx (putF "heads" (.ref th) []))) x (.ins CR dx (RF2 th tr)) x = some (.ins CR dx (RF2 th tr)) := upd_same
        have th3 : SqT K (upd (upd H2 x (.ins CR dx (putF "heads" (.ref th) []))) x (.ins CR dx (RF2 th tr))) th (hs.map V.bl) := sqt_upd (sqt_upd hth hx2) upd_same
        have tr3 : SqT K (upd (upd H2 x (.ins CR dx (putF "heads" (.ref th) []))) x (.ins CR dx (RF2 th tr))) tr (rs.map V.bl) := sqt_upd (sqt_upd htr hx2) upd_same
        have off3 : ∀ b o, b ≠ x → H b = some o → upd (upd H2 x (.ins CR dx (putF "heads" (.ref th) []))) x (.ins CR dx (RF2 th tr)) b = some o := fun b o hb e => by rw [upd_ne hb, upd_ne hb]; exact s12 _ _ e
        generalize upd (upd H2 x (.ins CR dx (putF "heads" (.ref th) []))) x (.ins CR dx (RF2 th tr)) = G3 at *
        refine ⟨_, rfl, x, dx, _, rfl, x3, rfl, x, dx, th, tr, _, 1, hs, rs, rfl, x3, rfl, rfl, th3, tr3, l1, _, rfl, ?_⟩
        refine ite2 (fun e => ?_) (fun e => ?_)
        · have e2 : ¬ rawB hs rs 1 = true := by simpa using e
          exact ⟨(by show 1 ≤ 1000; decide), bad off3 (by rw [x3]; exact fun z => nomatch z) (by rw [edue, if_neg e2])⟩
        · have e2 : rawB hs rs 1 = true := by simpa using e
          rw [if_pos e2] at edue
          refine ⟨68, rfl, by decide, by decide, fun D hD => ?_⟩
          have xD : x ≠ D := ne_of_none x3 hD
          refine lc_range (lo := 0) (n := (68 : Int).toNat) (fun i H' => Same G3 H' ∧ H' D = some (.lst ((rawL hs rs i).map V.bl))) ⟨same_new (same_refl G3) hD, upd_same⟩ ?_ ?_
          · rintro i H' hi ⟨h1, h2⟩
            have hi2 : i < 68 := hi
            refine ⟨rfl, ?_⟩
            refine yes_kept ?_
            refine ⟨_, rfl, x, dx, _, rfl, h1 _ _ x3, rfl, _, rfl, x, dx, th, tr, _, i, hs, rs, (by show [V.ref x, V.int (0 + (i : Int))] = [V.ref x, V.int (i : Int)]; rw [Int.zero_add]), h1 _ _ x3, rfl, rfl, sqt_same th3 h1, sqt_same tr3 h1, l1, ?_⟩
            refine ⟨_, h2, (by rw [List.length_map, rawL_len]; exact small1000 (by omega)), fun b o e => by rw [upd_ne (ne_of_none e hD)]; exact h1 b o e, ?_⟩
            rw [upd_same, rawL_succ, List.map_append]; rfl
          · rintro H' ⟨h1, h2⟩
            have h2' : H' D = some (.lst ((rawL hs rs 68).map V.bl)) := h2
            refine ⟨D, _, rfl, .inl ⟨SqL.of h2', fun tt htt => ?_⟩⟩
            have s4 := same_new (o := .tup ((rawL hs rs 68).map V.bl)) h1 htt
            have f4 : upd H' tt (.tup ((rawL hs rs 68).map V.bl)) tt = some (.tup ((rawL hs rs 68).map V.bl)) := upd_same
            have xtt : x ≠ tt := ne_of_none (h1 _ _ x3) htt
            have x4 := s4 _ _ x3
            generalize upd H' tt (.tup ((rawL hs rs 68).map V.bl)) = G4 at *
            refine ⟨_, rfl, x, CR, dx, _, rfl, x4, R.cl, R.nT, (by show 2 < 1000; decide), ?_⟩
            rw [rf_2]
            refine kq edue _ hs rs rfl rfl (fun b o hb e => by rw [upd_ne hb]; exact s4 _ _ (off3 b o hb e)) ⟨⟨dx, th, tr, tt, upd_same, sqt_upd (sqt_same th3 s4) x4, sqt_upd (sqt_same tr3 s4) x4, by rw [upd_ne xtt.symm]; exact f4⟩, l8, l1, l6, e2⟩
end
end K03

set_option Elab.async false
set_option linter.all false
set_option maxRecDepth 100000
set_option maxHeartbeats 2000000
namespace K03
open PySem L2
abbrev sMore : Stmt := top 21
/-- what the written part says of the making of a Lot -/
structure LotF (K : PySem.W.Frag) (mg : Str → Option Value) (CL fL : Addr) (fdL : FuncData) : Prop where
  M : Mk K CL fL
  b : Binds K fdL ["self", "word", "makers"] []
theorem spec_mk {K : PySem.W.Frag} {H : Hp} {t : Addr} {z : Str} {M : List Nat} (hz : SpecOk z M) (ht : SqT K H t (M.map nI)) : MkAt K H (some (M.map fun m : Nat => some (m : Int))) (.ref t) ∧ duePart (some z) (some (M.map fun m : Nat => some (m : Int))) = none := by
  refine ⟨⟨t, _, rfl, ht, by rw [List.length_map, List.length_map], by rw [List.length_map]; have := hz.l4; omega, fun i o y h1 h2 => ?_⟩, ?_⟩
  · rw [List.getElem?_map] at h1 h2
    cases e : M[i]? with
    | none => rw [e] at h1; cases h1
    | some m => rw [e] at h1 h2; cases h1; cases h2; exact rfl
  · have hw := hz.words
    have ok : mkOk z (some (M.map fun m : Nat => some (m : Int))) = true := by
      by_cases c : z = "more"
      · subst c
        rw [mkOk_more, List.length_map, decide_eq_true (show 1 ≤ M.length from hz.len rfl), decide_eq_true hz.l4, Bool.and_self, Bool.true_and, List.all_eq_true]
        intro o ho
        obtain ⟨m, hm, rfl⟩ := List.mem_map.mp ho
        show (decide (1 ≤ (m : Int)) && decide ((m : Int) ≤ 12)) = true
        have := hz.p m hm
        rw [decide_eq_true (by omega), decide_eq_true (by omega)]; rfl
      · rw [mkOk_else c, hz.no c]; rfl
    have : duePart (some z) (some (M.map fun m : Nat => some (m : Int))) = if mkOk z (some (M.map fun m : Nat => some (m : Int))) = true then none else some ("makers" : Str) := if_pos hw
    rw [this, if_pos ok]
theorem map_some_inj {M M' : List Nat} (h : M.map (fun m : Nat => some (m : Int)) = M'.map (fun m : Nat => some (m : Int))) : M = M' := by
  refine List.ext_getElem? fun i => ?_
  have := congrArg (fun l => l[i]?) h
  simp only [List.getElem?_map] at this
  cases e : M[i]? with
  | none =>
    rw [e] at this
    cases e' : M'[i]? with
    | none => rfl
    | some m => rw [e'] at this; cases this
  | some m =>
    rw [e] at this
    cases e' : M'[i]? with
    | none => rw [e'] at this; cases this
    | some m' => 
      rw [e'] at this
      have q : (m : Int) = (m' : Int) := Option.some.inj (Option.some.inj this)
      rw [show m = m' by omega]

theorem one_ok : SpecOk "more" [1] := ⟨.inr (.inr (.inr rfl)), fun h => absurd rfl h, fun _ => by decide, by decide, fun m hm => by rw [List.mem_singleton] at hm; subst hm; decide⟩
theorem SumOb.off {CS : Addr} {H H' : Hp} {s tk : Addr} {M : List Nat} {la : Addr} {a : Nat} {L : Nat → Option Nat} {kept : List Nat} {far : Nat} (h : SumOb CS H s tk M la a L kept far) (e : ∀ b o, H b = some o → H' b = some o) : SumOb CS H' s tk M la a L kept far := h.same e
def spTake2 (CL CS : Addr) : Sp := fun vs H Q _ => ∃ (x s dx dy t tk la : Addr) (z : Str) (sv : V) (g far : Nat), vs = [.ref x, .ref s] ∧ H x = some (.ins CL dx (LF3 z t sv)) ∧ H s = some (.ins CS dy (SFull la tk g far)) ∧ x ≠ s ∧
  ∀ H', (∀ b, b ≠ x → H' b = H b) → H' x = some (.ins CL dx (LF3 z tk (.ref s))) → Q .non H'
def spMore (CL CS : Addr) : Sp := fun vs H Q _ => ∃ (s tk la a : Addr) (M : List Nat) (L : Nat → Option Nat) (kept : List Nat) (far : Nat), vs = [.ref s] ∧ SumOb CS H s tk M la a L kept far ∧ 0 < M.length ∧ (∀ m ∈ M, 1 ≤ m ∧ m ≤ 100) ∧
  ∀ x H', Same H H' → H x = none → LotAt CL CS H' x "more" M tk kept → Q (.ref x) H'
section
variable {P : Program} {w : World} {K : PySem.W.Frag} {mg : Str → Option Value} {base : Heap} {CL CS aW fE CB fI : Addr} {fdI : FuncData}
theorem ok_take2 {f : Addr} {fd : FuncData} (F : Fun K "_take" "Lot._take" sTake f fd) (L : LotT K mg CL aW fE) (S : SumT K CS) : FnOk P w K mg base CX0 1 f fd ["self", "sums"] (spTake2 CL CS) := by
  refine F.ok scTake (fun vs H Q E h => ?_) (fun cdv A outer s H vs Q E hr h => ?_)
  · obtain ⟨_, _, _, _, _, _, _, _, _, _, _, rfl, _⟩ := h
    rfl
  · obtain ⟨x, s, dx, dy, t, tk, la, z, sv, g, far, rfl, hx, hs, xs, k⟩ := h
    refine ⟨_, pss_cons (ps_fld (pv 0) (pv 1) rfl) (pss_one (ps_fld (pv 0) (pe_fld (pv 1) rfl) rfl)), ?_⟩
    refine ⟨_, rfl, _, rfl, x, CL, dx, _, rfl, hx, L.cl, L.nS, (by show 3 < 1000; decide), ?_⟩
    refine ⟨_, rfl, s, CS, dy, _, _, rfl, (by rw [upd_ne xs.symm]; exact hs), S.cl, S.nM, sfull_makers, _, rfl, x, CL, dx, _, rfl, upd_same, L.cl, L.nM, (by have e : (putF "_sums" (.ref s) (LF3 z t sv)).length ≤ 4 := length_putF _ _ _; omega), ?_⟩
    rw [lf_2]
    exact k _ (fun b hb => by rw [upd_ne hb, upd_ne hb]) upd_same
theorem scMore : FnScope ["sums", "lot"] ["sums"] (defScope sMore) := ⟨rfl, rfl, rfl, by decide +kernel, rfl, by decide +kernel, by decide +kernel⟩
theorem ok_more {f fT : Addr} {fd fdT : FuncData} (F : Fn K mg "_more" sMore ["sums"] f fd) (GI : FnOk P w K mg base (L2.CX P w) 6 fI fdI ["self", "word", "makers"] (spLInit K CL CS CB)) (L : LotT K mg CL aW fE) (LF : LotF K mg CL fI fdI)
    (FT : Fun K "_take" "Lot._take" sTake fT fdT) (bT : Binds K fdT ["self", "sums"] []) (mT : Meth K CL "_take" fT) (S : SumT K CS) : FnOk P w K mg base CX0 8 f fd ["sums"] (spMore CL CS) := by
  have GT : FnOk P w K mg base CX0 1 fT fdT ["self", "sums"] (spTake2 CL CS) := ok_take2 FT L S
  refine F.F.ok scMore (fun vs H Q E h => ?_) (fun cdv A outer s H vs Q E hr h => ?_)
  · obtain ⟨_, _, _, _, _, _, _, _, rfl, _⟩ := h
    rfl
  · obtain ⟨s, tk, la, a, M, Lf, kept, far, rfl, so, m0, mp, k⟩ := h
    have nd := scMore.nd
    have hr1 := hr.mono (show 1 ≤ 7 by decide)
    refine ⟨_, pss_cons (ps_set (i := 1) nd rfl (Or.inl rfl) (pe_make LF.M GI hr (by rfl) L.mgL LF.b .nil passL (pa_cons pe_str (pa_cons (pe_tup (pa_cons pe_int pa_nil)) pa_nil))))
      (pss_cons (ps_expr (pe_meth (pv 1) L.cl mT GT hr1 bT .nil pass0 (pa_cons (pv 0) pa_nil)))
      (pss_one (ps_ret (pv 1)))), ?_⟩
    refine ⟨(by show 1 ≤ sizeLine; decide), fun t ht => ?_⟩
    have s1 := same_new (o := .tup [.int 1]) (same_refl H) ht
    have t1 : upd H t (.tup [.int 1]) t = some (.tup [.int 1]) := upd_same
    generalize upd H t (.tup [.int 1]) = G1 at *
    refine fun x dx nx ndx nex => ?_
    have s2 : Same G1 (upd (upd G1 dx (.own x)) x (.ins CL dx [])) := fun b o e => by rw [upd_ne (ne_of_none e nx), upd_ne (ne_of_none e ndx)]; exact e
    obtain ⟨q1, q2⟩ := spec_mk (K := K) one_ok (SqT.of (K := K) (s2 _ _ t1))
    refine ⟨x, dx, _, _, some "more", _, rfl, upd_same, rfl, q1, fun _ H' z M' t' kept' e1 e2 off hl => ⟨rfl, ?_⟩, fun part e => by rw [q2] at e; cases e⟩
    cases e1
    have sH : Same H H' := fun b o e => off b o (ne_of_none (s1 _ _ e) nx) (s2 _ _ (s1 _ _ e))
    have nxH : H x = none := same_none s1 nx
    obtain ⟨dx', sv, ob, _⟩ := hl.fields
    have so' := so.same sH
    obtain ⟨dy, hs⟩ := so'.ob
    have xs : x ≠ s := by
      obtain ⟨_, h0⟩ := so.ob
      exact (ne_of_none h0 nxH).symm
    refine ⟨_, rfl, x, dx', _, rfl, ob, lf_take, _, rfl, x, s, dx', dy, t', tk, la, "more", sv, gcdL kept, far, rfl, ob, hs, xs, fun H6 off6 x6 => ?_⟩
    have s6 : Same H H6 := fun b o e => by rw [off6 b (ne_of_none e nxH)]; exact sH b o e
    exact ⟨_, rfl, k x H6 s6 nxH (.more dx' s la a Lf far rfl x6 (so.same s6) mp m0)⟩
end
end K03

set_option Elab.async false
set_option linter.all false
set_option maxRecDepth 100000
set_option maxHeartbeats 4100000
namespace K03
open PySem L2
abbrev sToldLot : Stmt := top 22
def Match (f : Nat → Bool) (z : Str) (M : List Nat) : Prop := ∀ n, n < 68 → flagOf z M n = f n
theorem fl_free {M : List Nat} {n : Nat} : flagOf "free" M n = true := by unfold flagOf; rw [if_pos rfl]
theorem fl_more {M : List Nat} {n : Nat} : flagOf "more" M n = (decide (1 ≤ n) && smB M (n - 1)) := by
  unfold flagOf; rw [if_neg more_free, if_pos rfl]
theorem fl_loan {M : List Nat} {n : Nat} : flagOf "loan" M n = decide (n ≤ 1) := by
  unfold flagOf; rw [if_neg (by decide +kernel), if_neg (by decide +kernel), if_pos rfl]
theorem fl_once {M : List Nat} {n : Nat} : flagOf "once" M n = decide (n = 1) := by
  unfold flagOf; rw [if_neg (by decide +kernel), if_neg (by decide +kernel), if_neg (by decide +kernel)]
theorem m_once {f : Nat → Bool} {M : List Nat} (h : Match f "once" M) : f 0 = false ∧ ∀ n, 2 ≤ n → n < 68 → f n = false := by
  refine ⟨?_, fun n h1 h2 => ?_⟩
  · have := h 0 (by decide); rw [fl_once] at this; rw [← this]; decide
  · have := h n h2; rw [fl_once] at this; rw [← this]; exact decide_eq_false (by omega)
theorem m_loan {f : Nat → Bool} {M : List Nat} (h : Match f "loan" M) : f 0 = true ∧ ∀ n, 2 ≤ n → n < 68 → f n = false := by
  refine ⟨?_, fun n h1 h2 => ?_⟩
  · have := h 0 (by decide); rw [fl_loan] at this; rw [← this]; decide
  · have := h n h2; rw [fl_loan] at this; rw [← this]; exact decide_eq_false (by omega)
theorem m_free {f : Nat → Bool} {M : List Nat} (h : Match f "free" M) : ∀ n, n < 68 → f n = true := fun n h2 => by
  have := h n h2; rw [fl_free] at this; exact this.symm
theorem m_more {f : Nat → Bool} {M : List Nat} (h : Match f "more" M) : f 0 = false ∧ ∀ n, n ≤ 66 → f (n + 1) = smB M n := by
  refine ⟨?_, fun n h2 => ?_⟩
  · have := h 0 (by decide); rw [fl_more] at this; rw [← this]; rfl
  · have := h (n + 1) (by omega); rw [fl_more] at this; rw [← this, decide_eq_true (by omega), Bool.true_and, Nat.add_sub_cancel]
def cands (f : Nat → Bool) : List (Str × List Nat) := ([(("once" : Str), []), (("loan" : Str), []), (("free" : Str), [])] : List (Str × List Nat)) ++ if 0 < (mk66 f).length then [(("more" : Str), mk66 f)] else []
theorem cand_cases {f : Nat → Bool} {c : Str × List Nat} (h : c ∈ cands f) : (c.1 = "once" ∧ c.2 = []) ∨ (c.1 = "loan" ∧ c.2 = []) ∨ (c.1 = "free" ∧ c.2 = []) ∨ (c.1 = "more" ∧ c.2 = mk66 f ∧ 0 < (mk66 f).length) := by
  unfold cands at h
  obtain h | h := List.mem_append.mp h
  · rcases List.mem_cons.mp h with h | h
    · subst h; exact .inl ⟨rfl, rfl⟩
    · rcases List.mem_cons.mp h with h | h
      · subst h; exact .inr (.inl ⟨rfl, rfl⟩)
      · rw [List.mem_singleton] at h; subst h; exact .inr (.inr (.inl ⟨rfl, rfl⟩))
  · by_cases m : 0 < (mk66 f).length
    · rw [if_pos m, List.mem_singleton] at h; subst h; exact .inr (.inr (.inr ⟨rfl, rfl, m⟩))
    · rw [if_neg m] at h; cases h
theorem mk_some {f : Nat → Bool} (h : 0 < (mk66 f).length) : ∃ n, 2 ≤ n ∧ n < 68 ∧ f n = true := by
  obtain ⟨m, hm⟩ := List.exists_mem_of_length_pos h
  obtain ⟨a, b, c⟩ := mem_mk.mp hm
  exact ⟨m + 1, by omega, by omega, c⟩
theorem tf {b : Bool} (h1 : b = true) (h2 : b = false) : False := by rw [h1] at h2; cases h2
/-- what matches is due -/
theorem due_match {f : Nat → Bool} {p : Nat} (P : Per f p) {o : Option (Str × List Nat)} (D : Due f o) {c : Str × List Nat} (hc : c ∈ cands f) (m : Match f c.1 c.2) : ∃ kept, o = some (c.1, kept) ∧ (c.1 ≠ "more" → kept = []) ∧ (c.1 = "more" → ∀ kept', Kept kept' c.2 → kept = kept') := by
  obtain ⟨z, M⟩ := c
  have ne1 : (("once" : Str) = "more") → False := by decide +kernel
  have ne2 : (("loan" : Str) = "more") → False := by decide +kernel
  have ne3 : (("free" : Str) = "more") → False := by decide +kernel
  rcases cand_cases hc with ⟨e1, e2⟩ | ⟨e1, e2⟩ | ⟨e1, e2⟩ | ⟨e1, e2, e3⟩ <;> (dsimp only at e1 e2; subst e1; subst e2)
  · obtain ⟨q0, q⟩ := m_once m
    cases D with
    | free h => exact (tf (h 0) q0).elim
    | loan h0 h => exact (tf h0 q0).elim
    | none0 h0 a b => exact (tf h0 q0).elim
    | none1 h0 i j hi hj fi fj n =>
      have i0 : i = 0 := Classical.byContradiction fun z => tf fi (q (i + 1) (by omega) (by omega))
      have j0 : j = 0 := Classical.byContradiction fun z => tf fj (q (j + 1) (by omega) (by omega))
      subst i0; subst j0
      exact (tf P.one n).elim
    | once h0 h => exact ⟨[], rfl, fun _ => rfl, fun z => (ne1 z).elim⟩
    | more h0 c M0 kept k =>
      obtain ⟨n, n1, n2, n3⟩ := mk_some M0
      exact (tf n3 (q n n1 n2)).elim
  · obtain ⟨q0, q⟩ := m_loan m
    cases D with
    | free h => exact (tf (h 2) (q 2 (by decide) (by decide))).elim
    | loan h0 h => exact ⟨[], rfl, fun _ => rfl, fun z => (ne2 z).elim⟩
    | none0 h0 a b =>
      obtain ⟨n, n1, n2, n3⟩ := b
      exact (tf n3 (q n n1 (by omega))).elim
    | none1 h0 i j hi hj fi fj n => exact (tf q0 h0).elim
    | once h0 h => exact (tf q0 h0).elim
    | more h0 c M0 kept k => exact (tf q0 h0).elim
  · have q := m_free m
    cases D with
    | free h => exact ⟨[], rfl, fun _ => rfl, fun z => (ne3 z).elim⟩
    | loan h0 h => exact (tf (q 2 (by decide)) (h 2 (by decide))).elim
    | none0 h0 a b =>
      obtain ⟨n, n1, n2⟩ := a
      exact (tf (q n (by omega)) n2).elim
    | none1 h0 i j hi hj fi fj n => exact (tf (q 0 (by decide)) h0).elim
    | once h0 h => exact (tf (q 0 (by decide)) h0).elim
    | more h0 c M0 kept k => exact (tf (q 0 (by decide)) h0).elim
  · obtain ⟨q0, q⟩ := m_more m
    cases D with
    | free h => exact (tf (h 0) q0).elim
    | loan h0 h => exact (tf h0 q0).elim
    | none0 h0 a b => exact (tf h0 q0).elim
    | none1 h0 i j hi hj fi fj n =>
      rw [q i (by omega), smB_iff] at fi
      rw [q j (by omega), smB_iff] at fj
      rw [q (i + j) (by omega)] at n
      exact (tf (smB_iff.mpr (fi.plus fj)) n).elim
    | once h0 h =>
      obtain ⟨n, n1, n2, n3⟩ := mk_some e3
      exact (tf n3 (h n n1)).elim
    | more h0 c M0 kept k => exact ⟨kept, rfl, fun z => absurd rfl z, fun _ => k⟩
theorem due_nomatch {f : Nat → Bool} {p : Nat} (P : Per f p) {o : Option (Str × List Nat)} (D : Due f o) (no : ∀ c ∈ cands f, ¬ Match f c.1 c.2) : o = none := by
  have m1 : (("once" : Str), ([] : List Nat)) ∈ cands f := List.mem_append_left _ (by simp)
  have m2 : (("loan" : Str), ([] : List Nat)) ∈ cands f := List.mem_append_left _ (by simp)
  have m3 : (("free" : Str), ([] : List Nat)) ∈ cands f := List.mem_append_left _ (by simp)
  cases D with
  | free h => exact absurd (fun n _ => by rw [fl_free, h n]) (no _ m3)
  | loan h0 h =>
    refine absurd (fun n _ => ?_) (no _ m2)
    show flagOf "loan" [] n = f n
    rw [fl_loan]
    match n with
    | 0 => rw [h0]; rfl
    | 1 => rw [P.one]; rfl
    | n + 2 => rw [h (n + 2) (by omega)]; exact decide_eq_false (by omega)
  | none0 h0 a b => rfl
  | none1 h0 i j hi hj fi fj n => rfl
  | once h0 h =>
    refine absurd (fun n _ => ?_) (no _ m1)
    show flagOf "once" [] n = f n
    rw [fl_once]
    match n with
    | 0 => rw [h0]; rfl
    | 1 => rw [P.one]; rfl
    | n + 2 => rw [h (n + 2) (by omega)]; exact decide_eq_false (by omega)
  | more h0 c M0 kept k =>
    refine absurd (fun n hn => ?_) (no (("more" : Str), mk66 f) (List.mem_append_right _ (by rw [if_pos M0]; exact List.mem_singleton_self _)))
    show flagOf "more" (mk66 f) n = f n
    rw [fl_more]
    match n with
    | 0 => rw [h0]; rfl
    | n + 1 => rw [Nat.add_sub_cancel, smB_closed P.one c (by omega), decide_eq_true (by omega), Bool.true_and]
/-- one of the cases is there -/
theorem due_all {f : Nat → Bool} {p : Nat} (P : Per f p) : ∃ o, Due f o := by
  cases h0 : f 0 with
  | true =>
    by_cases a : ∃ n, n ≤ 60 ∧ f n = false
    · by_cases b : ∃ n, 2 ≤ n ∧ n ≤ 60 ∧ f n = true
      · exact ⟨_, .none0 h0 a b⟩
      · refine ⟨_, .loan h0 (P.far fun n n1 n2 => ?_)⟩
        cases q : f n with
        | false => rfl
        | true => exact absurd ⟨n, n1, n2, q⟩ b
    · refine ⟨_, .free fun n => ?_⟩
      have far := P.far (b := true) fun n n1 n2 => by
        cases q : f n with
        | true => rfl
        | false => exact absurd ⟨n, n2, q⟩ a
      match n with
      | 0 => exact h0
      | 1 => exact P.one
      | n + 2 => exact far _ (by omega)
  | false =>
    by_cases a : ∃ i j, i < 20 ∧ j < 20 ∧ f (i + 1) = true ∧ f (j + 1) = true ∧ f (i + j + 1) = false
    · obtain ⟨i, j, hi, hj, fi, fj, n⟩ := a
      exact ⟨_, .none1 h0 i j hi hj fi fj n⟩
    · have c : Closed f := P.closed fun i hi j hj fi fj => by
        cases q : f (i + j + 1) with
        | true => rfl
        | false => exact absurd ⟨i, j, hi, hj, fi, fj, q⟩ a
      by_cases M0 : 0 < (mk66 f).length
      · by_cases k : ∃ kept, Kept kept (mk66 f)
        · obtain ⟨kept, k⟩ := k
          refine ⟨_, .more h0 c M0 kept fun kept' k' => asc_eq k.asc k'.asc fun x => ?_⟩
          have pos : ∀ x ∈ mk66 f, 0 < x := fun x hx => (mem_mk.mp hx).1
          rw [k.gen pos, k'.gen pos]
        · exact ⟨_, .more h0 c M0 [] fun kept' k' => absurd ⟨kept', k'⟩ k⟩
      · refine ⟨_, .once h0 (P.far fun n n1 n2 => ?_)⟩
        cases q : f n with
        | false => rfl
        | true =>
          refine absurd (List.length_pos_of_mem (mem_mk (i := n - 1).mpr ⟨by omega, by omega, ?_⟩)) M0
          rw [Nat.sub_add_cancel (by omega)]; exact q
end K03

set_option Elab.async false
set_option linter.all false
set_option maxRecDepth 100000
set_option maxHeartbeats 8000000
namespace K03
open PySem L2
theorem plain_ok {z : Str} (h : z ∈ (["once", "loan", "free"] : List Str)) : SpecOk z [] := by
  have ne1 : (("once" : Str) = "more") → False := by decide +kernel
  have ne2 : (("loan" : Str) = "more") → False := by decide +kernel
  have ne3 : (("free" : Str) = "more") → False := by decide +kernel
  have ne : z ≠ "more" := by
    intro e
    subst e
    rcases List.mem_cons.mp h with h | h
    · exact ne1 h.symm
    · rcases List.mem_cons.mp h with h | h
      · exact ne2 h.symm
      · exact ne3 (List.mem_singleton.mp h).symm
  refine ⟨?_, fun _ => rfl, fun e => absurd e ne, Nat.zero_le _, fun m hm => by cases hm⟩
  rcases List.mem_cons.mp h with h | h
  · exact .inl h
  · rcases List.mem_cons.mp h with h | h
    · exact .inr (.inl h)
    · exact .inr (.inr (.inl (List.mem_singleton.mp h)))
def mkU (f : Nat → Bool) (k : Nat) : List Nat := (List.range (k + 1)).filter fun i => decide (1 ≤ i) && f (i + 1)
theorem mkU_succ {f : Nat → Bool} {k : Nat} : mkU f (k + 1) = mkU f k ++ if f (2 + k) = true then [k + 1] else [] := by
  unfold mkU
  rw [List.range_succ, List.filter_append]
  congr 1
  rw [List.filter_cons, decide_eq_true (show 1 ≤ k + 1 by omega), Bool.true_and, show k + 1 + 1 = 2 + k by omega]
  rfl
theorem mkU_len {f : Nat → Bool} {k : Nat} : (mkU f k).length ≤ k + 1 := by
  unfold mkU
  exact Nat.le_trans (List.length_filter_le _ _) (by rw [List.length_range]; exact Nat.le_refl _)
def LotsAt (CL CS : Addr) (H : Hp) (cs : List (Str × List Nat)) (xs : List V) : Prop := xs.length = cs.length ∧ ∀ (i : Nat) (c : Str × List Nat) (v : V), cs[i]? = some c → xs[i]? = some v → ∃ (x t : Addr) (kept : List Nat), v = V.ref x ∧ LotAt CL CS H x c.1 c.2 t kept
theorem LotsAt.same {CL CS : Addr} {H H' : Hp} {cs : List (Str × List Nat)} {xs : List V} (h : LotsAt CL CS H cs xs) (s : Same H H') : LotsAt CL CS H' cs xs := ⟨h.1, fun i c v e e' => by
  obtain ⟨x, t, kept, q, l⟩ := h.2 i c v e e'
  exact ⟨x, t, kept, q, l.same s⟩⟩
theorem LotsAt.snoc {CL CS : Addr} {H : Hp} {cs : List (Str × List Nat)} {xs : List V} (h : LotsAt CL CS H cs xs) {x t : Addr} {z : Str} {M kept : List Nat} (l : LotAt CL CS H x z M t kept) : LotsAt CL CS H (cs ++ [(z, M)]) (xs ++ [.ref x]) := by
  refine ⟨by rw [List.length_append, List.length_append, h.1]; rfl, fun i c v e e' => ?_⟩
  by_cases q : i < cs.length
  · rw [List.getElem?_append_left q] at e
    rw [List.getElem?_append_left (by rw [h.1]; exact q)] at e'
    exact h.2 i c v e e'
  · rw [List.getElem?_append_right (by omega)] at e
    rw [List.getElem?_append_right (by rw [h.1]; omega), h.1] at e'
    cases j : i - cs.length with
    | zero => rw [j] at e e'; cases e; cases e'; exact ⟨x, t, kept, rfl, l⟩
    | succ j' => rw [j] at e; cases e
theorem LotAt.upd_l {CL CS : Addr} {H : Hp} {x : Addr} {z : Str} {M : List Nat} {t : Addr} {kept : List Nat} {l y : Addr} {ys : List V} {o : HO} (h : LotAt CL CS H x z M t kept) (hl : H l = some (.lst (.ref y :: ys))) : LotAt CL CS (upd H l o) x z M t kept := by
  cases h with
  | plain dx n ob mk k0 m0 => exact .plain dx n (by rw [upd_ne (ne_of ob hl (fun z => by cases z))]; exact ob) (by rw [upd_ne (ne_of mk hl (fun z => by cases z))]; exact mk) k0 m0
  | more dx s la a L far n ob so p M0 =>
    have nla : la ≠ l := ne_of so.ls hl (fun z => by
      have pos := so.ok.pos
      have e := HO.lst.inj z
      cases a with
      | zero => exact absurd pos (Nat.lt_irrefl _)
      | succ a =>
        rw [List.range_succ_eq_map, List.map_cons] at e
        have e2 := (List.cons.inj e).1
        cases q : L 0 with
        | none => rw [q] at e2; cases e2
        | some v => rw [q] at e2; cases e2)
    obtain ⟨dy, hs⟩ := so.ob
    exact .more dx s la a L far n (by rw [upd_ne (ne_of ob hl (fun z => by cases z))]; exact ob) ⟨⟨dy, by rw [upd_ne (ne_of hs hl (fun z => by cases z))]; exact hs⟩, by rw [upd_ne nla]; exact so.ls, by rw [upd_ne (ne_of so.mkr hl (fun z => by cases z))]; exact so.mkr, so.ok, so.kp, so.ab, so.fr, so.fe⟩ p M0
/-- what told_lot tells -/
def LotO (CL CS : Addr) (H : Hp) : Option (Str × List Nat) → V → Prop
  | none, v => v = .non
  | some (z, kept), v => ∃ (x t : Addr) (M : List Nat), v = .ref x ∧ LotAt CL CS H x z M t kept
def spToldLot (K : PySem.W.Frag) (CL CS CR : Addr) : Sp := fun vs H Q _ => ∃ (x : Addr) (hs rs : List Bool) (o : Option (Str × List Nat)), vs = [.ref x] ∧ RawAt K CR H x hs rs ∧ Due (rawB hs rs) o ∧ ∀ v H', Same H H' → LotO CL CS H' o v → Q v H'
section
variable {P : Program} {w : World} {K : PySem.W.Frag} {mg : Str → Option Value} {base : Heap} {CL CS CR CB aW fE fR fI fS fSH fSW fSR : Addr} {fdI fdS fdSH fdSW fdSR : FuncData}
theorem scToldLot : FnScope ["raw", "lots", "makers", "lot", "number"] ["raw"] (defScope sToldLot) := ⟨rfl, rfl, rfl, by decide +kernel, rfl, by decide +kernel, by decide +kernel⟩
theorem ok_toldLot {f fM fT fLH fRH : Addr} {fd fdM fdT fdLH fdRH : FuncData} (F : Fn K mg "told_lot" sToldLot ["raw"] f fd) (NM : Fn K mg "_more" sMore ["sums"] fM fdM)
    (GI : FnOk P w K mg base (L2.CX P w) 6 fI fdI ["self", "word", "makers"] (spLInit K CL CS CB)) (L : LotT K mg CL aW fE) (LF : LotF K mg CL fI fdI)
    (FT : Fun K "_take" "Lot._take" sTake fT fdT) (bT : Binds K fdT ["self", "sums"] []) (mT : Meth K CL "_take" fT)
    (SF : SumsF K mg CS fS fSH fSW fSR fdS fdSH fdSW fdSR) (GS : FnOk P w K mg base CX0 4 fS fdS ["self", "numbers"] (spSInit K CS))
    (FLH : Fun K "has" "Lot.has" sLHas fLH fdLH) (bLH : Binds K fdLH ["self", "number"] []) (mLH : Meth K CL "has" fLH)
    (FRH : Fun K "has" "RawLot.has" sRHas fRH fdRH) (bRH : Binds K fdRH ["self", "number"] []) (mRH : Meth K CR "has" fRH)
    (T : TxB mg) (T2 : TxD mg) (TR : TxR mg) (R : RawT K mg CR fR) : FnOk P w K mg base CX0 9 f fd ["raw"] (spToldLot K CL CS CR) := by
  have GM : FnOk P w K mg base CX0 8 fM fdM ["sums"] (spMore CL CS) := ok_more NM GI L LF FT bT mT SF.S
  have GLH : FnOk P w K mg base CX0 2 fLH fdLH ["self", "number"] (spLHas CL CS) := ok_lhas FLH SF.FH SF.bH SF.mH T L SF.S
  have GRH : FnOk P w K mg base CX0 1 fRH fdRH ["self", "number"] (spRHas K CR) := ok_rhas FRH T R
  obtain ⟨u68, h68⟩ := TR.enough
  refine F.F.ok scToldLot (fun vs H Q E h => ?_) (fun cdv A outer s H vs Q E hr h => ?_)
  · obtain ⟨_, _, _, _, rfl, _⟩ := h
    rfl
  · obtain ⟨r, hs, rs, o, rfl, hx, due, k⟩ := h
    have nd := scToldLot.nd
    have hu := hu_of hr
    have hr1 := hr.mono (show 1 ≤ 8 by decide)
    have hr2 := hr.mono (show 2 ≤ 8 by decide)
    have hr5 := hr.mono (show 5 ≤ 8 by decide)
    have hr7 := hr.mono (show 7 ≤ 8 by decide)
    refine ⟨_, pss_cons (ps_set (i := 1) nd rfl (Or.inl rfl) (pe_lst
        (pa_cons (pe_make LF.M GI hr7 (by rfl) L.mgL LF.b .nil passL (pa_cons pe_str (pa_cons (pe_tup pa_nil) pa_nil)))
        (pa_cons (pe_make LF.M GI hr7 (by rfl) L.mgL LF.b .nil passL (pa_cons pe_str (pa_cons (pe_tup pa_nil) pa_nil)))
        (pa_cons (pe_make LF.M GI hr7 (by rfl) L.mgL LF.b .nil passL (pa_cons pe_str (pa_cons (pe_tup pa_nil) pa_nil))) pa_nil)))))
      (pss_cons (ps_setLc (i := 2) (own := [("number", 4)]) (g := gName 4) (tt := _) rfl nd rfl rfl (sw_true rfl rfl rfl (by decide +kernel)) (pi_range2 (by rfl) T.range (pa_cons pe_int (pa_cons (pe_glob (v := .int 68) (by rfl) h68 ⟨_, rfl⟩) pa_nil)))
        (blkOk_by (N := ["raw", "lots", "makers", "lot", "number"]) (sc := defScope sToldLot) (by decide +kernel)) (fun _ _ _ _ _ => pg_name (i := 4) nd rfl (Or.inl rfl))
        (fun _ _ _ _ _ => pts_one (pt_val (pe_meth (pv 0) R.cl mRH GRH hr1 bRH .nil pass0 (pa_cons (pv 4) pa_nil))))
        (fun _ _ _ _ _ => pe_op op_sub (pv 4) pe_int))
      (Evl.pss_cut (ps_if (pt_truth (pv 2) (by intro _; rfl)) (pss_one (ps_expr (pe_bm PySem.F.plainAttrs_list PySem.F.slot_list_append PySem.F.type_list_append mt_append (pv 1) (pa_cons
          (pe_call GM hr (by rfl) NM.m NM.F.kp NM.b .nil pass0 (pa_cons (pe_make SF.M GS hr5 (by rfl) SF.m SF.b .nil pass0 (pa_cons (pv 2) pa_nil)) pa_nil)) pa_nil)))) pss_nil)
      (pss_cons (ps_for PassesOwn.never rfl (pi_list (pv 1)) (pg_name (i := 3) nd rfl (Or.inr rfl))
        (pss_one (ps_if (pt_val (pe_callB (cr_all rfl) (by rfl) T.all (by decide +kernel) (pa_cons (pe_lc (own := [("number", 4)]) (g := gName 4) (tt := tYes) rfl nd (pi_range1 (by rfl) T.range (pa_cons (pe_glob (v := .int 68) (by rfl) h68 ⟨_, rfl⟩) pa_nil))
          (blkOk_by (N := ["raw", "lots", "makers", "lot", "number"]) (sc := defScope sToldLot) (by decide +kernel)) (fun _ _ _ _ _ => pg_name (i := 4) nd rfl (Or.inl rfl)) (fun _ _ _ _ _ => pts_nil)
          (fun _ _ _ _ _ => pe_cmpR op_eq (pe_meth (pv 3) L.cl mLH GLH hr2 bLH .nil pass0 (pa_cons (pv 4) pa_nil)) (pe_meth (pv 0) R.cl mRH GRH hr1 bRH .nil pass0 (pa_cons (pv 4) pa_nil)) (nomark _))) pa_nil)))
          (pss_one (ps_ret (pv 3))) pss_nil)))
      (pss_one (ps_ret pe_non))))), ?_⟩
    refine ⟨(by show 0 ≤ sizeLine; decide), fun t0 ht0 => ?_⟩
    have sa0 := same_new (o := .tup []) (same_refl H) ht0
    have ta0 : upd H t0 (.tup []) t0 = some (.tup []) := upd_same
    generalize upd H t0 (.tup []) = F0 at *
    refine fun x0 dx0 nx0 ndx0 nex0 => ?_
    have sb0 : Same F0 (upd (upd F0 dx0 (.own x0)) x0 (.ins CL dx0 [])) := fun b o e => by rw [upd_ne (ne_of_none e nx0), upd_ne (ne_of_none e ndx0)]; exact e
    obtain ⟨qa0, qb0⟩ := spec_mk (K := K) (M := []) (plain_ok (z := "once") (by simp)) (SqT.of (K := K) (sb0 _ _ ta0))
    refine ⟨x0, dx0, _, _, some "once", _, rfl, upd_same, rfl, qa0, fun _ G1 z' M' t' kept' e1 e2 off hl0 => ⟨rfl, ?_⟩, fun part e => by rw [qb0] at e; cases e⟩
    cases e1
    obtain rfl : M' = [] := (map_some_inj (Option.some.inj e2)).symm
    have s1 : Same H G1 := fun b o e => off b o (ne_of_none (sa0 _ _ e) nx0) (sb0 _ _ (sa0 _ _ e))
    clear off e2 qa0 qb0
    refine ⟨(by show 0 ≤ sizeLine; decide), fun t1 ht1 => ?_⟩
    have sa1 := same_new (o := .tup []) (same_refl G1) ht1
    have ta1 : upd G1 t1 (.tup []) t1 = some (.tup []) := upd_same
    generalize upd G1 t1 (.tup []) = F1 at *
    refine fun x1 dx1 nx1 ndx1 nex1 => ?_
    have sb1 : Same F1 (upd (upd F1 dx1 (.own x1)) x1 (.ins CL dx1 [])) := fun b o e => by rw [upd_ne (ne_of_none e nx1), upd_ne (ne_of_none e ndx1)]; exact e
    obtain ⟨qa1, qb1⟩ := spec_mk (K := K) (M := []) (plain_ok (z := "loan") (by simp)) (SqT.of (K := K) (sb1 _ _ ta1))
    refine ⟨x1, dx1, _, _, some "loan", _, rfl, upd_same, rfl, qa1, fun _ G2 z' M' t' kept' e1 e2 off hl1 => ⟨rfl, ?_⟩, fun part e => by rw [qb1] at e; cases e⟩
    cases e1
    obtain rfl : M' = [] := (map_some_inj (Option.some.inj e2)).symm
    have s2 : Same G1 G2 := fun b o e => off b o (ne_of_none (sa1 _ _ e) nx1) (sb1 _ _ (sa1 _ _ e))
    clear off e2 qa1 qb1
    refine ⟨(by show 0 ≤ sizeLine; decide), fun t2 ht2 => ?_⟩
    have sa2 := same_new (o := .tup []) (same_refl G2) ht2
    have ta2 : upd G2 t2 (.tup []) t2 = some (.tup []) := upd_same
    generalize upd G2 t2 (.tup []) = F2 at *
    refine fun x2 dx2 nx2 ndx2 nex2 => ?_
    have sb2 : Same F2 (upd (upd F2 dx2 (.own x2)) x2 (.ins CL dx2 [])) := fun b o e => by rw [upd_ne (ne_of_none e nx2), upd_ne (ne_of_none e ndx2)]; exact e
    obtain ⟨qa2, qb2⟩ := spec_mk (K := K) (M := []) (plain_ok (z := "free") (by simp)) (SqT.of (K := K) (sb2 _ _ ta2))
    refine ⟨x2, dx2, _, _, some "free", _, rfl, upd_same, rfl, qa2, fun _ G3 z' M' t' kept' e1 e2 off hl2 => ⟨rfl, ?_⟩, fun part e => by rw [qb2] at e; cases e⟩
    cases e1
    obtain rfl : M' = [] := (map_some_inj (Option.some.inj e2)).symm
    have s3 : Same G2 G3 := fun b o e => off b o (ne_of_none (sa2 _ _ e) nx2) (sb2 _ _ (sa2 _ _ e))
    clear off e2 qa2 qb2
    refine ⟨(by show 3 ≤ sizeLine; decide), fun l hl => ?_⟩
    have la : LotsAt CL CS G3 ([(("once" : Str), []), (("loan" : Str), []), (("free" : Str), [])] : List (Str × List Nat)) [.ref x0, .ref x1, .ref x2] := by
      have n0 : LotsAt CL CS G3 [] [] := ⟨rfl, fun i c v e _ => by cases e⟩
      exact ((n0.snoc ((hl0.same s2).same s3)).snoc (hl1.same s3)).snoc hl2
    have s4 := same_new (o := .lst [.ref x0, .ref x1, .ref x2]) (same_trans (same_trans s1 s2) s3) hl
    have l4 : upd G3 l (.lst [.ref x0, .ref x1, .ref x2]) l = some (.lst [.ref x0, .ref x1, .ref x2]) := upd_same
    replace la := la.same (same_new (o := .lst [.ref x0, .ref x1, .ref x2]) (same_refl G3) hl)
    have nl : H l = none := same_none (same_trans (same_trans s1 s2) s3) hl
    generalize upd G3 l (.lst [.ref x0, .ref x1, .ref x2]) = G4 at *
    clear hl0 hl1 hl2 hl
    have hx4 := hx.same s4
    obtain ⟨dr, th, tr, tt, ob, h1t, h2t, mt⟩ := hx4.ob
    have r1 := hx.ok.r1
    generalize hf : rawB hs rs = f at due
    refine ⟨2, 68, rfl, by decide, fun D hD => ?_⟩
    have nD : H D = none := same_none s4 hD
    have lD : l ≠ D := ne_of_none l4 hD
    refine lc_range (lo := 2) (n := ((68 : Int) - 2).toNat) (fun i H' => Same G4 H' ∧ H' D = some (.lst ((mkU f i).map nI))) ⟨same_new (same_refl G4) hD, upd_same⟩ ?_ ?_
    · rintro i H' hi ⟨p1, p2⟩
      have hi2 : i < 66 := hi
      refine ⟨rfl, ?_⟩
      refine ⟨_, rfl, r, dr, _, rfl, p1 _ _ ob, rfl, _, rfl, r, dr, th, tr, _, 2 + i, hs, rs, (by show [V.ref r, V.int (2 + (i : Int))] = [V.ref r, V.int ((2 + i : Nat) : Int)]; rw [show (2 : Int) + (i : Int) = ((2 + i : Nat) : Int) by omega]), p1 _ _ ob, rfl, rfl, sqt_same h1t p1, sqt_same h2t p1, r1, ?_⟩
      rw [hf]
      refine ⟨_, rfl, ?_⟩
      refine ite2 (fun c => ?_) (fun c => ?_)
      · refine ⟨_, rfl, _, _, rfl, rfl, _, p2, (by rw [List.length_map]; exact small1000 (Nat.le_trans mkU_len (by omega))), fun b o e => by rw [upd_ne (ne_of_none e hD)]; exact p1 b o e, ?_⟩
        rw [upd_same, mkU_succ, if_pos c, List.map_append]
        show some (HO.lst (_ ++ [V.int (2 + (i : Int) - 1)])) = some (HO.lst (_ ++ [V.int ((i + 1 : Nat) : Int)]))
        rw [show (2 : Int) + (i : Int) - 1 = ((i + 1 : Nat) : Int) by omega]
      · refine ⟨p1, ?_⟩
        rw [p2, mkU_succ, if_neg c, List.append_nil]
    · rintro H5 ⟨p1, p2⟩
      have p2' : H5 D = some (.lst ((mk66 f).map nI)) := p2
      clear p2
      have s5 := same_trans s4 p1
      have l5 := p1 _ _ l4
      have la5 := la.same p1
      refine ⟨fun σ' H' => ∃ xs, σ' = [some (.ref r), some (.ref l), some (.ref D), none, none] ∧ Same H H' ∧ H' l = some (.lst xs) ∧ LotsAt CL CS H' (cands f) xs ∧ xs.length ≤ 10, ?_, ?_⟩
      · refine ⟨_, rfl, _, .inl ⟨_, SqL.of p2', rfl⟩, ?_⟩
        refine ite2 (fun c => ?_) (fun c => ?_)
        · have c2 : 0 < (mk66 f).length := by
            cases q : mk66 f with
            | nil => rw [q] at c; cases c
            | cons a b => exact Nat.succ_pos _
          have len : (mk66 f).length ≤ 67 := by
            unfold mk66
            exact Nat.le_trans (List.length_filter_le _ _) (by rw [List.length_range]; exact Nat.le_refl _)
          refine ⟨_, rfl, .inl ⟨rfl, _, SqL.of l5⟩, ?_⟩
          refine ⟨_, rfl, fun s ds ns nds nes => ?_⟩
          have sd : Same H5 (upd (upd H5 ds (.own s)) s (.ins CS ds [])) := fun b o e => by rw [upd_ne (ne_of_none e ns), upd_ne (ne_of_none e nds)]; exact e
          refine ⟨s, D, ds, mk66 f, rfl, upd_same, .inr (SqL.of (sd _ _ p2')), c2, by omega, fun m hm => ⟨(mem_mk.mp hm).1, by have := (mem_mk.mp hm).2.1; omega⟩, fun H6 tk a0 a Lf kept far off so => ⟨rfl, ?_⟩⟩
          have s6 : Same H5 H6 := fun b o e => off b o (ne_of_none e ns) (sd b o e)
          refine ⟨s, tk, a0, a, mk66 f, Lf, kept, far, rfl, so, c2, fun m hm => ⟨(mem_mk.mp hm).1, by have := (mem_mk.mp hm).2.1; omega⟩, fun x H7 s7 nx hl7 => ?_⟩
          have s67 := same_trans s6 s7
          have l7 := s67 _ _ l5
          refine ⟨l, _, _, rfl, rfl, l7, (by show 3 < sizeLine; decide), ?_⟩
          refine ⟨_, rfl, fun b o e => ?_, upd_same, ?_, (by show 4 ≤ 10; decide)⟩
          · rw [upd_ne (ne_of_none e nl)]; exact s67 _ _ (s5 _ _ e)
          · have q := (la5.same s67).snoc hl7
            unfold cands
            rw [if_pos c2]
            refine ⟨q.1, fun i c v e e' => ?_⟩
            obtain ⟨x', t', kept', e1, hl'⟩ := q.2 i c v e e'
            exact ⟨x', t', kept', e1, hl'.upd_l l7⟩
        · have c2 : ¬ 0 < (mk66 f).length := fun z => by
            cases q : mk66 f with
            | nil => rw [q] at z; cases z
            | cons a b => rw [q] at c; exact c rfl
          refine ⟨_, rfl, s5, l5, ?_, (by show 3 ≤ 10; decide)⟩
          unfold cands
          rw [if_neg c2, List.append_nil]
          exact la5
      · rintro _ H6 ⟨xs, rfl, s6, l6, la6, hlen⟩
        have P := hx.ok.per
        rw [hf] at P
        have hx6 := hx.same s6
        obtain ⟨dr6, th6, tr6, tt6, ob6, h1t6, h2t6, mt6⟩ := hx6.ob
        refine ⟨_, rfl, l, rfl, ⟨_, SqL.of l6⟩, for_list (xs := xs) (fun i σ H' => ∃ t3 : Option V, σ = [some (.ref r), some (.ref l), some (.ref D), t3, none] ∧ Same H6 H' ∧ ∀ j c, j < i → (cands f)[j]? = some c → ¬ Match f c.1 c.2) ⟨none, rfl, same_refl H6, fun j c z => absurd z (Nat.not_lt_zero j)⟩ (fun i σ H' _ q => by
          obtain ⟨_, _, q, _⟩ := q
          exact SqL.of (q _ _ l6)) ?_ ?_⟩
        · rintro i v σ H' hv ⟨t3, rfl, q1, q2⟩
          have hi : i < (cands f).length := by rw [← la6.1]; exact (List.getElem?_eq_some_iff.mp hv).1
          have hc : (cands f)[i]? = some (cands f)[i] := List.getElem?_eq_getElem hi
          generalize (cands f)[i] = c at hc
          obtain ⟨z, M⟩ := c
          have hmem := List.mem_of_getElem? hc
          obtain ⟨x, t, kept, rfl, hlt⟩ := la6.2 i _ v hc hv
          have wd : words.contains z = true := by
            rcases cand_cases hmem with ⟨e1, _⟩ | ⟨e1, _⟩ | ⟨e1, _⟩ | ⟨e1, _⟩ <;> (dsimp only at e1; subst e1; decide +kernel)
          obtain ⟨dx, sv, obx, _⟩ := hlt.fields
          refine ⟨68, rfl, by decide, by decide, fun D2 hD2 => ?_⟩
          refine lc_range (lo := 0) (n := (68 : Int).toNat) (fun j H2 => Same H' H2 ∧ H2 D2 = some (.lst (((List.range j).map fun n => decide (V.bl (flagOf z M n) = V.bl (f n))).map V.bl))) ⟨same_new (same_refl H') hD2, upd_same⟩ ?_ ?_
          · rintro j H2 hj ⟨p1, p2⟩
            have s2 := same_trans q1 p1
            refine ⟨rfl, ?_⟩
            refine yes_kept ?_
            refine ⟨_, rfl, x, dx, _, rfl, s2 _ _ obx, lf_has, _, rfl, x, j, z, M, t, kept, (by show [V.ref x, V.int (0 + (j : Int))] = [V.ref x, V.int (j : Int)]; rw [Int.zero_add]), hlt.same s2, wd, ?_⟩
            refine ⟨_, rfl, r, dr6, _, rfl, s2 _ _ ob6, rfl, _, rfl, r, dr6, th6, tr6, _, j, hs, rs, (by show [V.ref r, V.int (0 + (j : Int))] = [V.ref r, V.int (j : Int)]; rw [Int.zero_add]), s2 _ _ ob6, rfl, rfl, sqt_same h1t6 s2, sqt_same h2t6 s2, r1, ?_⟩
            rw [hf]
            refine ⟨rfl, _, p2, (by rw [List.length_map, List.length_map, List.length_range]; exact small1000 (Nat.le_trans (Nat.le_of_lt hj) (by decide))), fun b o e => by rw [upd_ne (ne_of_none e hD2)]; exact p1 b o e, ?_⟩
            rw [upd_same, List.range_succ, List.map_append, List.map_append]; rfl
          · rintro H2 ⟨p1, p2⟩
            have s2 := same_trans q1 p1
            refine ⟨D2, _, rfl, SqL.of p2, _, rfl, ?_⟩
            refine ite2 (fun c => ?_) (fun c => ?_)
            · have m : Match f z M := fun n hn => by
                have := List.all_eq_true.mp c (decide (V.bl (flagOf z M n) = V.bl (f n))) (List.mem_map.mpr ⟨n, List.mem_range.mpr hn, rfl⟩)
                exact V.bl.inj (of_decide_eq_true this)
              obtain ⟨kept', e, k1, k2⟩ := due_match P due hmem m
              refine ⟨_, rfl, k _ H2 (same_trans s6 s2) ?_⟩
              rw [e]
              have ek : kept' = kept := by
                cases hlt with
                | plain dx n ob mk k0 m0 => rw [k1 n, k0]
                | more dx s la a L far n ob so p M0 => exact k2 n kept so.kp
              rw [ek]
              exact ⟨x, t, M, rfl, hlt.same s2⟩
            · refine ⟨_, rfl, s2, fun j c' hj hc' m => ?_⟩
              rcases Nat.lt_or_ge j i with lt | ge
              · exact q2 j c' lt hc' m
              · have : j = i := by omega
                subst this
                rw [hc] at hc'
                cases hc'
                refine c (List.all_eq_true.mpr fun b hb => ?_)
                obtain ⟨n, hn, rfl⟩ := List.mem_map.mp hb
                exact decide_eq_true (by rw [m n (List.mem_range.mp hn)])
        · rintro σ H' ⟨t3, rfl, q1, q2⟩
          have e : o = none := due_nomatch P due fun c hc m => by
            obtain ⟨j, hj, e⟩ := List.mem_iff_getElem.mp hc
            exact q2 j c (by rw [la6.1]; exact hj) (by rw [List.getElem?_eq_getElem hj, e]) m
          refine k _ H' (same_trans s6 q1) ?_
          rw [e]; rfl
end
end K03

set_option Elab.async false
set_option linter.all false
set_option maxRecDepth 100000
set_option maxHeartbeats 2000000
namespace K03
open PySem L2
theorem free_once : ¬ ("free" : Str) = "once" := by decide +kernel
theorem loan_once : ¬ ("loan" : Str) = "once" := by decide +kernel
theorem once_free : ¬ ("once" : Str) = "free" := by decide +kernel
theorem once_more : ¬ ("once" : Str) = "more" := by decide +kernel
theorem once_loan : ¬ ("once" : Str) = "loan" := by decide +kernel
theorem loan_free : ¬ ("loan" : Str) = "free" := by decide +kernel
theorem loan_more : ¬ ("loan" : Str) = "more" := by decide +kernel
theorem free_more : ¬ ("free" : Str) = "more" := by decide +kernel
theorem once_raw : ¬ ("once" : Str) = "raw" := by decide +kernel
theorem loan_raw : ¬ ("loan" : Str) = "raw" := by decide +kernel
theorem free_raw : ¬ ("free" : Str) = "raw" := by decide +kernel
theorem more_raw : ¬ ("more" : Str) = "raw" := by decide +kernel
theorem flag_zero {z : Str} {M : List Nat} (h : SpecOk z M) (n : z ≠ "more") : (!decide (V.str z = V.str "once")) = flagOf z M 0 := by
  rcases h.wd with rfl | rfl | rfl | rfl
  · simp [flagOf, once_free, once_more, once_loan]
  · simp [flagOf, loan_once, loan_free, loan_more]
  · simp [flagOf, free_once]
  · exact absurd rfl n
theorem flag_one {z : Str} {M : List Nat} (h : SpecOk z M) (n : z ≠ "more") : flagOf z M 1 = true := by
  rcases h.wd with rfl | rfl | rfl | rfl
  · simp [flagOf, once_free, once_more, once_loan]
  · simp [flagOf, loan_once, loan_free, loan_more]
  · simp [flagOf, free_once]
  · exact absurd rfl n
theorem flag_two {z : Str} {M : List Nat} (h : SpecOk z M) (n : z ≠ "more") {i : Nat} (h2 : 2 ≤ i) : decide (V.str z = V.str "free") = flagOf z M i := by
  rcases h.wd with rfl | rfl | rfl | rfl
  · have : ¬ i = 1 := by omega
    simp [flagOf, once_free, once_more, once_loan, this]
  · have : ¬ i ≤ 1 := by omega
    simp [flagOf, loan_once, loan_free, loan_more, this]
  · simp [flagOf, free_once]
  · exact absurd rfl n
section
variable {P : Program} {w : World} {K : PySem.W.Frag} {mg : Str → Option Value} {base : Heap}
theorem scTold : FnScope ["_law_spec", "_law_most", "_law_word", "_law_first", "_law_second", "_law_rows", "_law_number"] ["_law_spec", "_law_most"] (defScope sTold) := ⟨rfl, rfl, rfl, by decide +kernel, rfl, by decide +kernel, by decide +kernel⟩
theorem ok_toldN {f fS : Addr} {fd fdS : FuncData} (F : Fn K mg "_law_told_numbers" sTold ["_law_spec", "_law_most"] f fd) (NS : Fn K mg "_law_sums" sSums ["_law_makers", "_law_most"] fS fdS) (T : TxB mg) (T2 : TxD mg) : FnOk P w K mg base CX0 2 f fd ["_law_spec", "_law_most"] (spTold K) := by
  have GS : FnOk P w K mg base CX0 1 fS fdS ["_law_makers", "_law_most"] (spSums K) := ok_sums NS T T2
  refine F.F.ok scTold (fun vs H Q E h => ?_) (fun cdv A outer s H vs Q E hr h => ?_)
  · obtain ⟨_, _, _, _, rfl, _⟩ := h
    rfl
  · obtain ⟨v, z, M, most, rfl, hs, hz, m1, m2, k⟩ := h
    have nd := scTold.nd
    have hu := hu_of hr
    obtain ⟨a, m, rfl, ha, hm⟩ := hs
    refine ⟨_, pss_cons (ps_asg (pv 0) (pg_tup rfl (pgs_cons (pg_name (i := 2) nd rfl (Or.inr rfl)) (pgs_cons (pg_name (i := 3) nd rfl (Or.inl rfl)) (pgs_cons (pg_name (i := 4) nd rfl (Or.inl rfl)) pgs_nil)))))
      (pss_cons (ps_if (pt_cmpR op_eq (pv 2) pe_str (nomark _)) pss_never pss_nil)
      (pss_cons (ps_if (pt_cmpR op_eq (pv 2) pe_str (nomark _)) (pss_one (ps_ret (pe_op op_cat (pe_lst (pa_cons pe_bl pa_nil)) (pe_call GS hr (by rfl) NS.m NS.F.kp NS.b .nil pass0 (pa_cons (pv 3) (pa_cons (pe_op op_sub (pv 1) pe_int) pa_nil)))))) pss_nil)
      (pss_one (ps_ret (pe_lc (own := [("_law_number", 6)]) (g := gName 6) (tt := tYes) rfl nd (pi_range1 (by rfl) T.range (pa_cons (pe_op op_add (pv 1) pe_int) pa_nil))
            (blkOk_by (N := ["_law_spec", "_law_most", "_law_word", "_law_first", "_law_second", "_law_rows", "_law_number"]) (sc := defScope sTold) (by decide +kernel)) (fun _ _ _ _ _ => pg_name (i := 6) nd rfl (Or.inl rfl)) (fun _ _ _ _ _ => pts_nil)
            (fun _ _ _ _ _ => pe_ifExp (pt_cmpR op_eq (pv 6) pe_int (nomark _)) (pe_cmpR op_ne (pv 2) pe_str (nomark _)) (pe_or (pe_cmpR op_eq (pv 6) pe_int (nomark _)) (pe_one (pe_cmpR op_eq (pv 2) pe_str (nomark _)))))))))), ?_⟩
    refine ⟨_, rfl, a, _, rfl, SqT.of ha, rfl, _, _, rfl, _, _, rfl, _, _, rfl, rfl, ?_⟩
    refine ⟨_, rfl, rfl, _, rfl, ?_⟩
    have nraw : decide (V.str z = V.str "raw") = false := decide_eq_false fun e => by
      have e2 := V.str.inj e
      rcases hz.wd with rfl | rfl | rfl | rfl
      · exact once_raw e2
      · exact loan_raw e2
      · exact free_raw e2
      · exact more_raw e2
    refine ifF nraw ?_
    refine ⟨_, rfl, rfl, _, rfl, ?_⟩
    refine ite2 (fun c => ?_) (fun c => ?_)
    · have c2 : z = "more" := V.str.inj (of_decide_eq_true c)
      subst c2
      obtain ⟨mm, rfl⟩ : ∃ mm, most = mm + 1 := ⟨most - 1, by omega⟩
      refine ⟨(by show 1 ≤ sizeLine; decide), fun l0 hl0 => ?_⟩
      have s1 := same_new (o := .lst [.bl false]) (same_refl H) hl0
      have f1 : upd H l0 (.lst [.bl false]) l0 = some (.lst [.bl false]) := upd_same
      generalize upd H l0 (.lst [.bl false]) = G1 at *
      refine ⟨_, rfl, _, rfl, _, _, rfl, rfl, m, M, mm, ?_, SqT.of (s1 _ _ hm), by omega, by have := hz.l4; omega, fun m hm => (hz.p m hm).1, fun p H' s2 np hp => ?_⟩
      · show [V.ref m, V.int (((mm + 1 : Nat) : Int) - 1)] = _
        rw [show ((mm + 1 : Nat) : Int) - 1 = (mm : Int) by omega]
      · refine ⟨l0, p, _, _, rfl, rfl, s2 _ _ f1, hp, (by rw [List.length_map, smL_len]; exact Nat.le_of_lt (Nat.lt_of_le_of_lt (m := 2000) (by show 1 + _ ≤ _; omega) (by decide))), fun q hq => ?_⟩
        have s12 := same_trans s1 s2
        refine k q _ (same_new s12 hq) (same_none s12 hq) ?_
        rw [upd_same, flL_more]
        rfl
    · have c2 : z ≠ "more" := fun e => c (decide_eq_true (by rw [e]))
      refine ⟨_, rfl, _, _, rfl, rfl, (most : Int) + 1, rfl, by omega, by omega, fun D hD => ?_⟩
      refine lc_range (lo := 0) (n := ((most : Int) + 1).toNat) (fun i H' => Same H H' ∧ H' D = some (.lst ((flL z M i).map V.bl))) ⟨same_new (same_refl H) hD, upd_same⟩ ?_ ?_
      · rintro i H' hi ⟨h1, h2⟩
        refine ⟨rfl, ?_⟩
        refine yes_kept ?_
        have put : ∀ b : Bool, b = flagOf z M i → ∃ acc, H' D = some (.lst acc) ∧ acc.length < sizeLine ∧ Same H (upd H' D (.lst (acc ++ [V.bl b]))) ∧ upd H' D (.lst (acc ++ [V.bl b])) D = some (.lst ((flL z M (i + 1)).map V.bl)) := fun b e => by
          refine ⟨_, h2, (by rw [List.length_map, flL_len]; exact Nat.lt_of_le_of_lt (m := 2000) (by omega) (by decide)), fun c u e => by rw [upd_ne (ne_of_none e hD)]; exact h1 c u e, ?_⟩
          rw [upd_same, flL_succ, e, List.map_append]; rfl
        refine ⟨_, rfl, rfl, _, rfl, ?_⟩
        refine ite2 (fun d => ?_) (fun d => ?_)
        · have d2 : i = 0 := by
            have := V.int.inj (of_decide_eq_true d)
            omega
          subst d2
          exact ⟨_, rfl, rfl, put _ (flag_zero hz c2)⟩
        · have d2 : i ≠ 0 := fun e => d (decide_eq_true (by rw [e]; rfl))
          refine ⟨_, rfl, rfl, _, rfl, ?_⟩
          refine ite2 (fun e => ?_) (fun e => ?_)
          · have e2 : i = 1 := by
              have := V.int.inj (of_decide_eq_true e)
              omega
            subst e2
            exact put true (flag_one hz c2).symm
          · have e2 : i ≠ 1 := fun q => e (decide_eq_true (by rw [q]; rfl))
            exact ⟨_, rfl, rfl, put _ (flag_two hz c2 (by omega))⟩
      · rintro H' ⟨h1, h2⟩
        rw [show ((most : Int) + 1).toNat = most + 1 by omega] at h2
        exact k D H' h1 hD h2
theorem scLeast : FnScope ["_law_flags", "_law_found", "_law_sums_here", "_law_number", "_law_told", "_law_maker"] ["_law_flags"] (defScope sLeast) := ⟨rfl, rfl, rfl, by decide +kernel, rfl, by decide +kernel, by decide +kernel⟩
end
end K03

set_option Elab.async false
set_option linter.all false
set_option maxRecDepth 100000
set_option maxHeartbeats 2000000
namespace K03
open PySem L2
section
variable {P : Program} {w : World} {K : PySem.W.Frag} {mg : Str → Option Value} {base : Heap}
theorem gens_told_smB {M found : List Nat} {sums : List Bool} {n : Nat} (h : Gens M found sums n) (hp : ∀ m ∈ M, 0 < m) : (if smB M (n + 1) && !toldB found sums (n + 1) then true else toldB found sums (n + 1)) = smB M (n + 1) := by
  cases e : smB M (n + 1) with
  | true =>
    cases q : toldB found sums (n + 1) <;> rfl
  | false =>
    cases q : toldB found sums (n + 1) with
    | false => rfl
    | true =>
      have := ((h.told hp).mp q).1
      rw [← smB_iff, e] at this
      cases this
theorem ok_least {f : Addr} {fd : FuncData} (F : Fn K mg "_law_least_makers" sLeast ["_law_flags"] f fd) (T : TxB mg) (T2 : TxD mg) : FnOk P w K mg base CX0 1 f fd ["_law_flags"] (spLeast K) := by
  refine F.F.ok scLeast (fun vs H Q E h => ?_) (fun cdv A outer s H vs Q E hr h => ?_)
  · obtain ⟨_, _, _, _, rfl, _⟩ := h
    rfl
  · obtain ⟨a, fs, M, N, rfl, ha, hl, hN, hp, hfs, k⟩ := h
    have nd := scLeast.nd
    have hu := hu_of hr
    refine ⟨_, pss_cons (ps_set (i := 1) nd rfl (Or.inl rfl) (pe_lst pa_nil))
      (pss_cons (ps_set (i := 2) nd rfl (Or.inr rfl) (pe_lst (pa_cons pe_bl pa_nil)))
      (pss_cons (ps_for PassesOwn.never rfl (pi_range2 (by rfl) T.range (pa_cons pe_int (pa_cons (pe_callB call_len (by rfl) T.len PySem.boot_len (pa_cons (pv 0) pa_nil)) pa_nil))) (pg_name (i := 3) nd rfl (Or.inr rfl))
        (pss_cons (ps_set (i := 4) nd rfl (Or.inl rfl) (pe_callB (cr_any rfl) (by rfl) T2.any (by decide +kernel) (pa_cons
          (pe_lc (own := [("_law_maker", 5)]) (g := gName 5) (tt := tYes) rfl nd (pi_list (pv 1))
            (blkOk_by (N := ["_law_flags", "_law_found", "_law_sums_here", "_law_number", "_law_told", "_law_maker"]) (sc := defScope sLeast) (by decide +kernel)) (fun _ _ _ _ _ => pg_name (i := 5) nd rfl (Or.inl rfl)) (fun _ _ _ _ _ => pts_nil)
            (fun _ _ _ _ _ => pe_and (pe_cmpR op_le (pv 5) (pv 3) (nomark _)) (pe_one (pe_ix (ix_list : IxR _ (rIxL K)) (pv 2) (pe_op op_sub (pv 3) (pv 5)) (fun _ _ => rfl))))) pa_nil)))
        (Evl.pss_cut (ps_if (PW.pt (pw_and (pt_val (pe_ix ix_list (pv 0) (pv 3) (fun _ _ => rfl))) (pw_and1 (pt_not (pt_val (pv 4))))))
          (pss_cons (ps_expr (pe_bm PySem.F.plainAttrs_list PySem.F.slot_list_append PySem.F.type_list_append mt_append (pv 1) (pa_cons (pv 3) pa_nil)))
          (pss_one (ps_set (i := 4) nd rfl (Or.inl rfl) pe_bl))) pss_nil)
        (pss_one (ps_expr (pe_bm PySem.F.plainAttrs_list PySem.F.slot_list_append PySem.F.type_list_append mt_append (pv 2) (pa_cons (pv 4) pa_nil)))))))
      (pss_one (ps_ret (pe_callTy call_tuple_of (by rfl) T2.tuple (by decide +kernel) (pa_cons (pv 1) pa_nil)))))), ?_⟩
    refine ⟨(by show 0 ≤ sizeLine; decide), fun fa hfa => ?_⟩
    have s1 := same_new (o := .lst []) (same_refl H) hfa
    have f1 : upd H fa (.lst []) fa = some (.lst []) := upd_same
    generalize upd H fa (.lst []) = G1 at *
    refine ⟨(by show 1 ≤ sizeLine; decide), fun sa hsa => ?_⟩
    have s2 := same_new (o := .lst [.bl true]) s1 hsa
    have fasa : fa ≠ sa := ne_of_none f1 hsa
    have nsa : H sa = none := same_none s1 hsa
    have f2 : upd G1 sa (.lst [.bl true]) fa = some (.lst []) := by rw [upd_ne fasa]; exact f1
    have g2 : upd G1 sa (.lst [.bl true]) sa = some (.lst [.bl true]) := upd_same
    generalize upd G1 sa (.lst [.bl true]) = G2 at *
    refine ⟨_, rfl, _, _, rfl, .inl ⟨_, SqL.of (s2 _ _ ha), rfl⟩, 1, ((fs.map V.bl).length : Int), rfl, ?_⟩
    rw [List.length_map, hl]
    refine ⟨⟨by omega, by omega, by omega, by omega⟩, for_range (lo := 1) (n := (((N + 1 : Nat) : Int) - 1).toNat) (fun i σ H' => ∃ (found : List Nat) (sums : List Bool) (t3 t4 : Option V), σ = [some (.ref a), some (.ref fa), some (.ref sa), t3, t4, none] ∧ Gens M found sums i ∧ found.length ≤ i ∧ Same H H' ∧ H' fa = some (.lst (found.map nI)) ∧ H' sa = some (.lst (sums.map V.bl))) ⟨[], [true], none, none, rfl, gens_zero, Nat.le_refl _, s2, f2, g2⟩ ?_ ?_⟩
    · rintro i σ H' hi ⟨found, sums, t3, t4, rfl, hg, hle, h1, h2, h3⟩
      refine ⟨_, rfl, fa, rfl, ⟨_, SqL.of h2⟩, fun D hD => ?_⟩
      refine lc_list (K := K) (a := fa) (xs := found.map nI) (fun j H2 => Same H' H2 ∧ H2 D = some (.lst (((found.map fun m => decide (m ≤ i + 1) && sums.getD (i + 1 - m) false).take j).map V.bl))) ⟨same_new (same_refl H') hD, upd_same⟩ (fun j H2 _ p => SqL.of (p.1 _ _ h2)) ?_ ?_
      · rintro j v H2 hv ⟨h4, h5⟩
        obtain ⟨m, hm', rfl⟩ : ∃ m, found[j]? = some m ∧ v = nI m := by
          rw [List.getElem?_map] at hv
          cases e : found[j]? with
          | none => rw [e] at hv; cases hv
          | some m => rw [e] at hv; exact ⟨m, rfl, (Option.some.inj hv).symm⟩
        have hmM := (hg.mem m).mp (List.mem_of_getElem? hm')
        have h1m := hmM.1.1
        have hj : j < found.length := (List.getElem?_eq_some_iff.mp hm').1
        refine ⟨rfl, ?_⟩
        refine yes_kept ?_
        refine ⟨_, rfl, _, rfl, _, _, rfl, rfl, _, rfl, ?_⟩
        have c2 : m ≤ i + 1 := by omega
        have c3 : decide ((m : Int) ≤ 1 + (i : Int)) = true := decide_eq_true (by omega)
        refine ifT c3 ?_
        have lt : i + 1 - m < sums.length := by rw [hg.len]; omega
        have hat : atI (sums.map V.bl) ((i + 1 - m : Nat) : Int) = some (.bl (sums.getD (i + 1 - m) false)) := atI_nat (by rw [List.getElem?_map, List.getElem?_eq_getElem lt, List.getD_eq_getElem?_getD, List.getElem?_eq_getElem lt]; rfl)
        refine ⟨_, rfl, _, rfl, _, rfl, _, _, rfl, rfl, sa, _, ((i + 1 - m : Nat) : Int), _, rfl, ?_, SqL.of (h4 _ _ h3), hat, ?_⟩
        · show V.int ((1 + (i : Int)) - (m : Int)) = _
          rw [show (1 + (i : Int)) - (m : Int) = ((i + 1 - m : Nat) : Int) by omega]
        · refine ⟨_, h5, (by rw [List.length_map, List.length_take, List.length_map]; exact Nat.lt_of_le_of_lt (m := 2000) (by omega) (by decide)), fun c u e => by rw [upd_ne (ne_of_none e hD)]; exact h4 c u e, ?_⟩
          rw [upd_same, List.take_add_one, List.getElem?_map, hm', List.map_append]
          show _ = some (HO.lst (_ ++ [V.bl (decide (m ≤ i + 1) && sums.getD (i + 1 - m) false)]))
          rw [decide_eq_true c2, Bool.true_and]
      · rintro H2 ⟨h4, h5⟩
        rw [List.length_map, List.take_of_length_le (by rw [List.length_map]; exact Nat.le_refl _)] at h5
        refine ⟨D, (found.map fun m => decide (m ≤ i + 1) && sums.getD (i + 1 - m) false), rfl, SqL.of h5, ?_⟩
        have et : ((found.map fun m => decide (m ≤ i + 1) && sums.getD (i + 1 - m) false).any id) = toldB found sums (i + 1) := by
          rw [List.any_map]; rfl
        rw [et]
        have hsame := same_trans h1 h4
        have h2' := h4 _ _ h2
        have h3' := h4 _ _ h3
        have fl : fs[i + 1]? = some (smB M (i + 1)) := hfs (i + 1) (by omega) (by omega)
        have hat : atI (fs.map V.bl) (1 + (i : Int)) = some (.bl (smB M (i + 1))) := by
          rw [show 1 + (i : Int) = ((i + 1 : Nat) : Int) by omega]
          exact atI_nat (by rw [List.getElem?_map, fl]; rfl)
        have nx := hg.next hp
        have q := gens_told_smB hg hp
        refine ⟨fun σ' H3 => ∃ found', σ' = [some (.ref a), some (.ref fa), some (.ref sa), some (.int (1 + (i : Int))), some (.bl (smB M (i + 1))), none] ∧ Gens M found' (sums ++ [smB M (i + 1)]) (i + 1) ∧ found'.length ≤ i + 1 ∧ Same H H3 ∧ H3 fa = some (.lst (found'.map nI)) ∧ H3 sa = some (.lst (sums.map V.bl)), ?_, ?_⟩
        · refine ⟨_, rfl, _, rfl, a, _, _, _, rfl, rfl, SqL.of (hsame _ _ ha), hat, _, rfl, ?_⟩
          cases c1 : smB M (i + 1) with
          | true =>
            refine ifT rfl ?_
            cases c2 : toldB found sums (i + 1) with
            | true =>
              rw [c1, c2] at nx
              refine ⟨_, rfl, _, rfl, ?_⟩
              refine ifF rfl ?_
              exact ⟨found, rfl, nx, by omega, hsame, h2', h3'⟩
            | false =>
              rw [c1, c2] at nx
              refine ⟨_, rfl, _, rfl, ?_⟩
              refine ifT rfl ?_
              refine ⟨_, rfl, .inl ⟨rfl, _, SqL.of h2'⟩, _, rfl, fa, _, _, rfl, rfl, h2', (by rw [List.length_map]; exact Nat.lt_of_le_of_lt (m := 2000) (by omega) (by decide)), ?_⟩
              refine ⟨found ++ [i + 1], rfl, nx, ?_, fun b u e => ?_, ?_, ?_⟩
              · rw [List.length_append]; show found.length + 1 ≤ _; omega
              · rw [upd_ne (ne_of_none e hfa)]; exact hsame b u e
              · rw [upd_same, List.map_append]
                have e : V.int (1 + (i : Int)) = nI (i + 1) := by
                  unfold nI
                  rw [show ((i + 1 : Nat) : Int) = 1 + (i : Int) by omega]
                rw [e]
                rfl
              · rw [upd_ne fasa.symm]; exact h3'
          | false =>
            have c2 : toldB found sums (i + 1) = false := by
              rw [c1] at q
              simpa using q
            rw [c1, c2] at nx
            refine ifF rfl ?_
            exact ⟨found, by rw [c2]; rfl, nx, by omega, hsame, h2', h3'⟩
        · rintro _ H3 ⟨found', rfl, hg', hle', h6, h7, h8⟩
          refine ⟨_, rfl, .inl ⟨rfl, _, SqL.of h8⟩, _, rfl, sa, _, _, rfl, rfl, h8, (by rw [List.length_map, hg.len]; exact Nat.lt_of_le_of_lt (m := 2000) (by omega) (by decide)), ?_⟩
          refine ⟨found', sums ++ [smB M (i + 1)], _, _, rfl, hg', hle', fun b u e => ?_, ?_, ?_⟩
          · rw [upd_ne (ne_of_none e nsa)]; exact h6 b u e
          · rw [upd_ne fasa]; exact h7
          · rw [upd_same, List.map_append]; rfl
    · rintro σ H' ⟨found, sums, t3, t4, rfl, hg, hle, h1, h2, h3⟩
      rw [show (((N + 1 : Nat) : Int) - 1).toNat = N by omega] at hg
      refine ⟨_, rfl, fa, _, rfl, .inl ⟨SqL.of h2, fun l hl => ?_⟩⟩
      exact k found sums l _ hg (same_new h1 hl) (same_none h1 hl) upd_same
end
end K03

set_option Elab.async false
set_option linter.all false
set_option maxRecDepth 100000
set_option maxHeartbeats 4100000
namespace L2
open PySem PySem.Spec PyProof.Rows
/-- xs.extend(t), t a tuple -/
theorem extend_by_tuple {l b : Addr} {as bs : Array Value} {n m : Nat} {dd : Option Addr} {sl : Array (Option Value)} (short : ¬(!as.isEmpty && Builtin.List.listTooLong (as.size + bs.size)) = true) (z1 : as.size ≤ sizeLine) (z2 : as.size + bs.size ≤ sizeLine + 1) :
    Meets (Builtin.«list.extend» ⟨[.ref l, .ref b], []⟩) (fun _ R s => (s.heap.get? l = some { cls := .type "list", dict := none, data := .seq as n, slots := #[] } ∧ s.heap.get? b = some { cls := .type "tuple", dict := dd, data := .seq bs m, slots := sl }) ∧
      R (.ok (.ret Value.none)) { s with heap := s.heap.update l (Obj.mapSeq fun x => x ++ bs), toks := s.toks }) := by
  refine .of_wp fun _ _ _ R s h => ?_
  rcases s with ⟨hp, g, d, tk, os⟩
  rcases h with ⟨⟨at_l, at_b⟩, h⟩
  have z3 : (as ++ bs).size ≤ sizeLine + 1 := by
    rw [Array.size_append]
    exact z2
  have s1 := sub_tuple_tuple
  have s2 := sub_list_list
  have s3 := sub_tuple_list
  have s4 := sub_list_tuple
  wp_walk using (wpAny_updateSeq at_l rfl (hz := z1) (_hz' := z3)), wpAny_loadPart' at_l, wpAny_loadPart' at_b
  exact ⟨_, rfl, h⟩
def rExtT (K : PySem.W.Frag) : V → List V → Hp → VK → Prop := fun x vs G Q => ∃ l b xs ys, x = .ref l ∧ vs = [.ref b] ∧ G l = some (.lst xs) ∧ SqT K G b ys ∧ xs.length + ys.length ≤ sizeLine ∧ Q .non (upd G l (.lst (xs ++ ys)))
theorem mt_extendT {X : Cx} : MtM X "list.extend" (rExtT X.K) := by
  rintro pins s σ G _ _ v us Q I rl ra ⟨l, b, xs, ys, rfl, rfl, hl, hb, hz, q⟩
  obtain rfl : v = Value.ref l := rl
  match us, ra with
  | [w], .cons rb .nil =>
    obtain rfl : w = Value.ref b := rb
    obtain ⟨z, its, n, r, len1, e⟩ := I.lstM hl
    obtain ⟨its2, r2, ⟨o, here, c, m, dt⟩, _⟩ := I.tuple hb
    obtain ⟨oc, od, oda, osl⟩ := o
    dsimp only at c dt
    subst c
    subst dt
    have len2 := r2.length
    have total : its.toArray.size + its2.toArray.size ≤ sizeLine := by rw [List.size_toArray, List.size_toArray]; omega
    have short : ¬ (!its.toArray.isEmpty && Builtin.List.listTooLong (its.toArray.size + its2.toArray.size)) = true := by
      rw [notLongL total]
      simp
    refine call_meets F.slot_list_extend ⟨_, e, rfl⟩ F.entry_list_extend (F.args_list_extend_2 _ _) (extend_by_tuple short (by rw [List.size_toArray]; omega) (by omega)) ⟨⟨e, here⟩, ?_⟩
    refine ⟨.non, _, I.lset (its' := its ++ its2) hl e (by simp) (r.append r2) (by rw [List.length_append]; omega), rfl, q⟩
end L2
namespace K03
open PySem L2
theorem rawL_add {hs rs : List Bool} (a b : Nat) : rawL hs rs (a + b) = rawL hs rs a ++ (List.range b).map fun k => rawB hs rs (a + k) := by
  unfold rawL
  rw [List.range_add, List.map_append, List.map_map]; rfl
theorem rawL_heads {hs rs : List Bool} : rawL hs rs hs.length = hs := by
  refine List.ext_getElem? fun i => ?_
  by_cases c : i < hs.length
  · rw [rawL_get c]
    unfold rawB
    rw [if_pos c, List.getD_eq_getElem?_getD, List.getElem?_eq_getElem c]; rfl
  · rw [List.getElem?_eq_none (by rw [rawL_len]; omega), List.getElem?_eq_none (by omega)]
theorem rawL_round {hs rs : List Bool} {j : Nat} : rawL hs rs (hs.length + (j + 1) * rs.length) = rawL hs rs (hs.length + j * rs.length) ++ rs := by
  rw [Nat.succ_mul, ← Nat.add_assoc, rawL_add]
  congr 1
  refine List.ext_getElem? fun i => ?_
  rw [List.getElem?_map]
  by_cases c : i < rs.length
  · rw [List.getElem?_range c, List.getElem?_eq_getElem c]
    unfold rawB
    show some (if _ then _ else _) = _
    rw [if_neg (by omega), show hs.length + j * rs.length + i - hs.length = i + rs.length * j by rw [Nat.mul_comm rs.length]; omega, Nat.add_mul_mod_self_left, Nat.mod_eq_of_lt c, List.getD_eq_getElem?_getD, List.getElem?_eq_getElem c]; rfl
  · rw [List.getElem?_eq_none (by rw [List.length_range]; omega), List.getElem?_eq_none (by omega)]; rfl
theorem rawL_take {hs rs : List Bool} {a b : Nat} (h : a ≤ b) : (rawL hs rs b).take a = rawL hs rs a := by
  obtain ⟨c, rfl⟩ : ∃ c, b = a + c := ⟨b - a, by omega⟩
  rw [rawL_add, List.take_append_of_le_length (by rw [rawL_len]; exact Nat.le_refl _), List.take_of_length_le (by rw [rawL_len]; exact Nat.le_refl _)]
/-- a spec of the law: "raw", heads and rounds -/
def RawSp (K : PySem.W.Frag) (H : Hp) (v : V) (hs rs : List Bool) : Prop := ∃ a th tr, v = .ref a ∧ H a = some (.tup [.str "raw", .ref th, .ref tr]) ∧ SqT K H th (hs.map V.bl) ∧ SqT K H tr (rs.map V.bl)
theorem RawSp.same {K : PySem.W.Frag} {H H' : Hp} {v : V} {hs rs : List Bool} (h : RawSp K H v hs rs) (s : Same H H') : RawSp K H' v hs rs := by
  obtain ⟨a, th, tr, e, h1, h2, h3⟩ := h
  exact ⟨a, th, tr, e, s _ _ h1, sqt_same h2 s, sqt_same h3 s⟩
def spToldR (K : PySem.W.Frag) : Sp := fun vs H Q _ => ∃ (v : V) (hs rs : List Bool) (most : Nat), vs = [v, .int (most : Int)] ∧ RawSp K H v hs rs ∧ hs.length ≤ 10 ∧ 1 ≤ rs.length ∧ rs.length ≤ 10 ∧ most ≤ 100 ∧
  ∀ p H', Same H H' → H p = none → H' p = some (.lst ((rawL hs rs (most + 1)).map V.bl)) → Q (.ref p) H'
section
variable {P : Program} {w : World} {K : PySem.W.Frag} {mg : Str → Option Value} {base : Heap}
theorem ok_toldR {f : Addr} {fd : FuncData} (F : Fn K mg "_law_told_numbers" sTold ["_law_spec", "_law_most"] f fd) (T : TxB mg) (T2 : TxD mg) : FnOk P w K mg base CX0 2 f fd ["_law_spec", "_law_most"] (spToldR K) := by
  refine F.F.ok scTold (fun vs H Q E h => ?_) (fun cdv A outer s H vs Q E hr h => ?_)
  · obtain ⟨_, _, _, _, rfl, _⟩ := h
    rfl
  · obtain ⟨v, hs, rs, most, rfl, hsp, l8, r1, r6, m1, k⟩ := h
    have nd := scTold.nd
    have hu := hu_of hr
    obtain ⟨a, th, tr, rfl, ha, hth, htr⟩ := hsp
    refine ⟨_, pss_cons (ps_asg (pv 0) (pg_tup rfl (pgs_cons (pg_name (i := 2) nd rfl (Or.inr rfl)) (pgs_cons (pg_name (i := 3) nd rfl (Or.inl rfl)) (pgs_cons (pg_name (i := 4) nd rfl (Or.inl rfl)) pgs_nil)))))
      (pss_cons (ps_if (pt_cmpR op_eq (pv 2) pe_str (nomark _))
        (pss_cons (ps_set (i := 5) nd rfl (Or.inl rfl) (pe_callTy call_list_of (by rfl) T2.list (by decide +kernel) (pa_cons (pv 3) pa_nil)))
        (pss_cons (ps_while PassesOwn.never (pt_cmpR op_le (pe_callB call_len (by rfl) T.len PySem.boot_len (pa_cons (pv 5) pa_nil)) (pv 1) (nomark _))
          (pss_one (ps_expr (pe_bm PySem.F.plainAttrs_list PySem.F.slot_list_extend PySem.F.type_list_extend mt_extendT (pv 5) (pa_cons (pv 4) pa_nil)))))
        (pss_one (ps_ret (pe_slice sl_list (pv 5) po_none (po_some (pe_op op_add (pv 1) pe_int))))))) pss_nil)
      pss_never), ?_⟩
    refine ⟨_, rfl, a, _, rfl, SqT.of ha, rfl, _, _, rfl, _, _, rfl, _, _, rfl, rfl, ?_⟩
    refine ⟨_, rfl, rfl, _, rfl, ?_⟩
    refine ite2 (fun _ => ?_) (fun c => absurd (decide_eq_true rfl) c)
    refine ⟨_, rfl, th, _, rfl, .inr hth, fun l hl => ?_⟩
    have s1 := same_new (o := .lst (hs.map V.bl)) (same_refl H) hl
    have f1 : upd H l (.lst (hs.map V.bl)) l = some (.lst (hs.map V.bl)) := upd_same
    generalize upd H l (.lst (hs.map V.bl)) = G1 at *
    refine ⟨fun n σ H' => ∃ (j : Nat), n = 200 - j ∧ (j = 0 ∨ hs.length + (j - 1) * rs.length ≤ most) ∧ σ = [some (.ref a), some (.int (most : Int)), some (.str "raw"), some (.ref th), some (.ref tr), some (.ref l), none] ∧ Same H H' ∧ H' l = some (.lst ((rawL hs rs (hs.length + j * rs.length)).map V.bl)),
      ⟨_, 0, rfl, .inl rfl, rfl, s1, by rw [Nat.zero_mul, Nat.add_zero, rawL_heads]; exact f1⟩, ?_⟩
    rintro n σ H' ⟨j, rfl, hj, rfl, q1, q2⟩
    refine ⟨_, rfl, _, _, rfl, .inl ⟨_, SqL.of q2, rfl⟩, _, rfl, _, _, rfl, rfl, _, rfl, ?_⟩
    rw [List.length_map, rawL_len]
    have jle : j ≤ 101 := by
      rcases hj with h | h
      · omega
      · have := Nat.le_mul_of_pos_right (j - 1) r1
        omega
    refine ite2 (fun d => ?_) (fun d => ?_)
    · have d2 : hs.length + j * rs.length ≤ most := by have := of_decide_eq_true d; omega
      refine ⟨fun σ'' H'' => ∃ m', m' < 200 - j ∧ ∃ (j' : Nat), m' = 200 - j' ∧ (j' = 0 ∨ hs.length + (j' - 1) * rs.length ≤ most) ∧ σ'' = [some (.ref a), some (.int (most : Int)), some (.str "raw"), some (.ref th), some (.ref tr), some (.ref l), none] ∧ Same H H'' ∧ H'' l = some (.lst ((rawL hs rs (hs.length + j' * rs.length)).map V.bl)), fun σ'' H'' z => z, ?_⟩
      refine ⟨_, rfl, .inl ⟨rfl, _, SqL.of q2⟩, _, rfl, l, tr, _, _, rfl, rfl, q2, sqt_same htr q1, ?_, ?_⟩
      · rw [List.length_map, List.length_map, rawL_len]
        exact Nat.le_of_lt (small1000 (by omega))
      · refine ⟨200 - (j + 1), by omega, j + 1, rfl, .inr (by rw [Nat.add_sub_cancel]; exact d2), rfl, fun b o e => by rw [upd_ne (ne_of_none e hl)]; exact q1 b o e, ?_⟩
        rw [upd_same, rawL_round, List.map_append]
    · have d2 : most + 1 ≤ hs.length + j * rs.length := by
        have : ¬ ((hs.length + j * rs.length : Nat) : Int) ≤ (most : Int) := fun z => d (decide_eq_true z)
        omega
      refine ⟨_, rfl, _, rfl, _, _, rfl, rfl, _, rfl, l, _, rfl, SqL.of q2, fun sl hsl => ?_⟩
      · have ecut : cutV ((rawL hs rs (hs.length + j * rs.length)).map V.bl) none (some ((most : Int) + 1)) = (rawL hs rs (most + 1)).map V.bl := by
          unfold cutV
          rw [HT.sIx_none, show ((most : Int) + 1) = ((most + 1 : Nat) : Int) from rfl, HT.sIx_nat, List.length_map, rawL_len, Nat.min_eq_left d2, Nat.sub_zero, List.drop_zero, ← List.map_take, rawL_take d2]
        rw [ecut]
        exact k sl _ (same_new q1 hsl) (same_none q1 hsl) upd_same
end
end K03

set_option Elab.async false
set_option linter.all false
set_option maxRecDepth 100000
set_option maxHeartbeats 2000000
namespace K03
open PySem L2
abbrev sSpec : Stmt := top 33
theorem del_same_of {H H' : Hp} {p : Addr} (s : Same H H') : Same (del H p) (del H' p) := fun b o e => by
  by_cases hb : b = p
  · rw [hb, del_same] at e; cases e
  · rw [del_ne hb] at e ⊢; exact s b o e
theorem del_off {H H' : Hp} {p : Addr} (k : ∀ b, b ≠ p → H' b = H b) : Same (del H p) (del H' p) := fun b o e => by
  by_cases hb : b = p
  · rw [hb, del_same] at e; cases e
  · rw [del_ne hb] at e ⊢; rw [k b hb]; exact e
theorem del_le {H : Hp} {p : Addr} : Same (del H p) H := fun b o e => by
  by_cases hb : b = p
  · rw [hb, del_same] at e; cases e
  · rw [del_ne hb] at e; exact e
theorem HandAt.same {H H' : Hp} {p c : Addr} {cells : List Int} (h : HandAt H p c cells) (s : Same H H') : HandAt H' p c cells := by
  obtain ⟨⟨i, z, s0, n, hi, e⟩, l⟩ := h
  exact ⟨⟨i, z, s0, n, hi, s _ _ e⟩, s _ _ l⟩
theorem HandAt.some {H : Hp} {p c : Addr} {cells : List Int} (h : HandAt H p c cells) : ∃ l, H p = .some (.lst l) := by
  obtain ⟨⟨i, z, s0, n, hi, e⟩, _⟩ := h
  exact ⟨_, e⟩
theorem HandAt.fresh {H : Hp} {p c q : Addr} {cells : List Int} (h : HandAt H p c cells) (hq : H q = none) : q ≠ p := by
  obtain ⟨l, e⟩ := h.some
  exact fun z => by rw [z, e] at hq; cases hq
theorem same_upd {G H' : Hp} {p D : Addr} {o : HO} (s : Same G (del H' p)) (hd : G D = none) : Same G (del (upd H' D o) p) := fun b u e => by
  have nb : b ≠ D := ne_of_none e hd
  have h := s b u e
  by_cases hb : b = p
  · rw [hb, del_same] at h; cases h
  · rw [del_ne hb] at h ⊢
    rw [upd_ne nb]
    exact h
theorem HandAt.upd {H : Hp} {p c D : Addr} {cells : List Int} {o : HO} (h : HandAt H p c cells) (h1 : D ≠ p) (h2 : D ≠ c) : HandAt (upd H D o) p c cells := by
  obtain ⟨⟨i, z, s0, n, hi, e⟩, l⟩ := h
  exact ⟨⟨i, z, s0, n, hi, by rw [upd_ne h1.symm]; exact e⟩, by rw [upd_ne h2.symm]; exact l⟩

theorem seqIx {i : Int} {n : Nat} (h0 : 0 ≤ i) (h : i < (n : Int)) : seqIndex? i n = some i.toNat := by
  unfold seqIndex?
  simp
  omega
def spSpec (K : PySem.W.Frag) : Sp := fun vs H Q _ => ∃ (p c : Addr) (cells : List Int), vs = [.ref p] ∧ HandAt H p c cells ∧
  ∀ v z M H', HandAt H' p c cells → Same (del H p) (del H' p) → SpecAt K (del H' p) v z M → SpecOk z M → Q v H'
section
variable {P : Program} {w : World} {K : PySem.W.Frag} {mg : Str → Option Value} {base : Heap}
theorem scSpec : FnScope ["_law_hand_here", "_law_word", "_law_turn"] ["_law_hand_here"] (defScope sSpec) := ⟨rfl, rfl, rfl, by decide +kernel, rfl, by decide +kernel, by decide +kernel⟩
theorem ok_spec {f fD fS : Addr} {fd fdD fdS : FuncData} (F : Fn K mg "_law_lot_spec" sSpec ["_law_hand_here"] f fd) (ND : Fn K mg "_law_draw" sDraw ["_law_hand_here", "_law_many"] fD fdD) (NS : Fn K mg "_law_some" sSome ["_law_hand_here", "_law_things"] fS fdS) (T : TxB mg) (T2 : TxD mg) : FnOk P w K mg base CX0 3 f fd ["_law_hand_here"] (spSpec K) := by
  have GD : FnOk P w K mg base CX0 1 fD fdD ["_law_hand_here", "_law_many"] spDraw := ok_draw ND.F T
  have GS : FnOk P w K mg base CX0 2 fS fdS ["_law_hand_here", "_law_things"] (spSome K) := ok_some NS.F T ND.F ND.b ND.m
  refine F.F.ok scSpec (fun vs H Q E h => ?_) (fun cdv A outer s H vs Q E hr h => ?_)
  · obtain ⟨_, _, _, rfl, _⟩ := h
    rfl
  · obtain ⟨p, c, cells, rfl, hA, k⟩ := h
    have nd := scSpec.nd
    have hu := hu_of hr
    have hr1 := hr.mono (show 1 ≤ 2 by decide)
    refine ⟨_, Evl.pss_cut (ps_set (i := 1) nd rfl (Or.inl rfl) (pe_call GS hr (by rfl) NS.m NS.F.kp NS.b .nil pass0 (pa_cons (pv 0) (pa_cons (pe_lst (pa_cons pe_str (pa_cons pe_str (pa_cons pe_str (pa_cons pe_str (pa_cons pe_str (pa_cons pe_str (pa_cons pe_str pa_nil)))))))) pa_nil))))
      (pss_cons (ps_if (pt_cmpR op_ne (pv 1) pe_str (nomark _)) (pss_one (ps_ret (pe_tup (pa_cons (pv 1) (pa_cons (pe_tup pa_nil) (pa_cons pe_non pa_nil)))))) pss_nil)
      (pss_one (ps_ret (pe_tup (pa_cons (pv 1) (pa_cons (pe_callTy call_tuple_of (by rfl) T2.tuple (by decide +kernel) (pa_cons
        (pe_lc (own := [("_law_turn", 2)]) (g := gName 2) (tt := tYes) rfl nd (pi_range1 (by rfl) T.range (pa_cons (pe_op op_add pe_int (pe_call GD hr1 (by rfl) ND.m ND.F.kp ND.b .nil pass0 (pa_cons (pv 0) (pa_cons pe_int pa_nil)))) pa_nil))
          (blkOk_by (N := ["_law_hand_here", "_law_word", "_law_turn"]) (sc := defScope sSpec) (by decide +kernel)) (fun _ _ _ _ _ => pg_name (i := 2) nd rfl (Or.inl rfl)) (fun _ _ _ _ _ => pts_nil)
          (fun _ _ _ _ _ => pe_op op_add pe_int (pe_call GD hr1 (by rfl) ND.m ND.F.kp ND.b .nil pass0 (pa_cons (pv 0) (pa_cons pe_int pa_nil))))) pa_nil)) (pa_cons pe_non pa_nil))))))), ?_⟩
    refine ⟨fun σ' H' => ∃ z : Str, σ' = [some (.ref p), some (.str z), none] ∧ (z = "once" ∨ z = "loan" ∨ z = "free" ∨ z = "more") ∧ HandAt H' p c cells ∧ Same (del H p) (del H' p), ?_, ?_⟩
    · refine ⟨_, rfl, (by show 7 ≤ sizeLine; decide), fun l hl => ?_⟩
      have s1 := same_new (o := .lst [.str "once", .str "loan", .str "free", .str "more", .str "more", .str "more", .str "more"]) (same_refl H) hl
      have f1 : upd H l (.lst [.str "once", .str "loan", .str "free", .str "more", .str "more", .str "more", .str "more"]) l = some (.lst [.str "once", .str "loan", .str "free", .str "more", .str "more", .str "more", .str "more"]) := upd_same
      generalize upd H l (.lst [.str "once", .str "loan", .str "free", .str "more", .str "more", .str "more", .str "more"]) = G1 at *
      refine ⟨p, c, l, cells, _, rfl, hA.same s1, SqL.of f1, hA.fresh hl, (by decide), (by decide), fun k v H' hv hA' off => ?_⟩
      have mem := List.mem_of_getElem? hv
      simp only [List.mem_cons, List.not_mem_nil, or_false] at mem
      have sd := same_trans (del_same_of (p := p) s1) (del_off off)
      rcases mem with rfl | rfl | rfl | rfl | rfl | rfl | rfl
      · exact ⟨_, rfl, .inl rfl, hA', sd⟩
      · exact ⟨_, rfl, .inr (.inl rfl), hA', sd⟩
      · exact ⟨_, rfl, .inr (.inr (.inl rfl)), hA', sd⟩
      · exact ⟨_, rfl, .inr (.inr (.inr rfl)), hA', sd⟩
      · exact ⟨_, rfl, .inr (.inr (.inr rfl)), hA', sd⟩
      · exact ⟨_, rfl, .inr (.inr (.inr rfl)), hA', sd⟩
      · exact ⟨_, rfl, .inr (.inr (.inr rfl)), hA', sd⟩
    · rintro _ H1 ⟨z, rfl, hz, hA1, sd1⟩
      refine ⟨_, rfl, rfl, _, rfl, ?_⟩
      refine ite2 (fun d => ?_) (fun d => ?_)
      · have d2 : z ≠ "more" := fun e => by subst e; revert d; simp
        refine ⟨_, rfl, (by show 0 ≤ sizeLine; decide), fun t ht => ?_⟩
        have s1 := same_new (o := .tup []) (same_refl H1) ht
        have f1 : upd H1 t (.tup []) t = some (.tup []) := upd_same
        have ntp := hA1.fresh ht
        generalize upd H1 t (.tup []) = G1 at *
        refine ⟨(by show 3 ≤ sizeLine; decide), fun a ha => ?_⟩
        have s2 := same_new (o := .tup [.str z, .ref t, .non]) s1 ha
        have nap := (hA1.same s1).fresh ha
        have hta : t ≠ a := ne_of_none f1 ha
        refine k (.ref a) z [] _ (hA1.same s2) (same_trans sd1 (del_same_of s2)) ⟨a, t, rfl, by rw [del_ne nap, upd_same], by rw [del_ne ntp, upd_ne hta]; exact f1⟩ ⟨hz, fun _ => rfl, fun e => absurd e d2, Nat.zero_le _, fun m hm => by cases hm⟩
      · have d2 : z = "more" := by
          have : ¬ ((!decide (V.str z = V.str "more")) = true) := d
          simp at this
          exact this
        subst d2
        refine ⟨_, rfl, _, rfl, p, c, cells, 4, rfl, hA1, by decide, by decide, fun r H2 r0 r4 hA2 o2 => ?_⟩
        refine ⟨_, _, rfl, rfl, _, rfl, by omega, by omega, fun D hD => ?_⟩
        have sd2 := same_trans sd1 (del_off o2)
        have hDp := hA2.fresh hD
        have hDc : D ≠ c := fun z => by rw [z, hA2.cl] at hD; cases hD
        have hDG : del H p D = none := same_none sd2 (by rw [del_ne hDp]; exact hD)
        have a0 := same_new (o := .lst []) (same_refl H2) hD
        refine lc_range (lo := 0) (n := (1 + r).toNat) (fun i H' => HandAt H' p c cells ∧ Same (del H p) (del H' p) ∧ ∃ M : List Nat, M.length = i ∧ (∀ m ∈ M, 1 ≤ m ∧ m ≤ 12) ∧ H' D = some (.lst (M.map nI))) ⟨hA2.same a0, same_trans sd2 (del_same_of a0), [], rfl, fun m hm => (by cases hm), upd_same⟩ ?_ ?_
        · rintro i H' hi ⟨hA3, sd3, M, hM, hp, hD3⟩
          refine ⟨rfl, ?_⟩
          refine yes_kept ?_
          refine ⟨_, rfl, p, c, cells, 12, rfl, hA3, by decide, by decide, fun x H4 x0 x1 hA4 o4 => ?_⟩
          have hD4 := (o4 D hDp).trans hD3
          refine ⟨_, _, rfl, rfl, _, hD4, (by rw [List.length_map]; exact small1000 (by omega)), hA4.upd hDp hDc, same_upd (same_trans sd3 (del_off o4)) hDG, M ++ [(1 + x).toNat], by rw [List.length_append, hM]; rfl, fun m hm => ?_, ?_⟩
          · obtain hm | hm := List.mem_append.mp hm
            · exact hp m hm
            · rw [List.mem_singleton] at hm
              omega
          · rw [upd_same, List.map_append]
            show some (HO.lst (_ ++ [V.int (1 + x)])) = some (HO.lst (_ ++ [V.int (((1 + x).toNat : Nat) : Int)]))
            rw [Int.toNat_of_nonneg (show 0 ≤ 1 + x by omega)]
        · rintro H' ⟨hA3, sd3, M, hM, hp, hD3⟩
          refine ⟨D, _, rfl, .inl ⟨SqL.of hD3, fun t ht => ?_⟩⟩
          have s1 := same_new (o := .tup (M.map nI)) (same_refl H') ht
          have f1 : upd H' t (.tup (M.map nI)) t = some (.tup (M.map nI)) := upd_same
          have ntp := hA3.fresh ht
          generalize upd H' t (.tup (M.map nI)) = G1 at *
          refine ⟨(by show 3 ≤ sizeLine; decide), fun a ha => ?_⟩
          have s2 := same_new (o := .tup [.str "more", .ref t, .non]) s1 ha
          have nap := (hA3.same s1).fresh ha
          have hta : t ≠ a := ne_of_none f1 ha
          exact k (.ref a) "more" M _ (hA3.same s2) (same_trans sd3 (del_same_of s2)) ⟨a, t, rfl, by rw [del_ne nap, upd_same], by rw [del_ne ntp, upd_ne hta]; exact f1⟩ ⟨hz, fun e => absurd rfl e, fun _ => by omega, by omega, hp⟩
end
end K03

set_option Elab.async false
set_option linter.all false
set_option maxRecDepth 100000
set_option maxHeartbeats 8000000
namespace K03
open PySem L2
abbrev sRawSpec : Stmt := top 34
def spRawSpec (K : PySem.W.Frag) : Sp := fun vs H Q _ => ∃ (p c : Addr) (cells : List Int), vs = [.ref p] ∧ HandAt H p c cells ∧
  ∀ v hs rs H', HandAt H' p c cells → Same (del H p) (del H' p) → RawSp K (del H' p) v hs rs → RawOk hs rs → Q v H'
theorem one_heads {hs rs : List Bool} (h : hs[1]? = some true) : rawB hs rs 1 = true := by
  obtain ⟨l, e⟩ := List.getElem?_eq_some_iff.mp h
  unfold rawB
  rw [if_pos l, List.getD_eq_getElem?_getD, h]; rfl
theorem fl_one {z : Str} {M : List Nat} (h : SpecOk z M) : flagOf z M 1 = true := by
  by_cases c : z = "more"
  · subst c
    rw [fl_more]
    show (decide (1 ≤ 1) && smB M 0) = true
    rw [smB_zero]; rfl
  · exact flag_one h c
section
variable {P : Program} {w : World} {K : PySem.W.Frag} {mg : Str → Option Value} {base : Heap}
theorem scRawSpec : FnScope ["_law_hand_here", "_law_rounds", "_law_heads", "_law_size", "_law_flags", "_law_maker", "_law_at", "_law_turn", "_law_number"] ["_law_hand_here"] (defScope sRawSpec) := ⟨rfl, rfl, rfl, by decide +kernel, rfl, by decide +kernel, by decide +kernel⟩
theorem ok_rawSpec {f fD fT fSp : Addr} {fd fdD fdT fdSp : FuncData} (F : Fn K mg "_law_raw_spec" sRawSpec ["_law_hand_here"] f fd) (ND : Fn K mg "_law_draw" sDraw ["_law_hand_here", "_law_many"] fD fdD) (GD : FnOk P w K mg base CX0 1 fD fdD ["_law_hand_here", "_law_many"] spDraw)
    (NT : Fn K mg "_law_told_numbers" sTold ["_law_spec", "_law_most"] fT fdT) (GT : FnOk P w K mg base CX0 2 fT fdT ["_law_spec", "_law_most"] (spTold K))
    (NSp : Fn K mg "_law_lot_spec" sSpec ["_law_hand_here"] fSp fdSp) (GSp : FnOk P w K mg base CX0 3 fSp fdSp ["_law_hand_here"] (spSpec K)) (T : TxB mg) (T2 : TxD mg) : FnOk P w K mg base CX0 4 f fd ["_law_hand_here"] (spRawSpec K) := by
  refine F.F.ok scRawSpec (fun vs H Q E h => ?_) (fun cdv A outer s H vs Q E hr h => ?_)
  · obtain ⟨_, _, _, rfl, _⟩ := h
    rfl
  · obtain ⟨p, c, cells, rfl, hA, k⟩ := h
    have nd := scRawSpec.nd
    have hu := hu_of hr
    have hr1 := hr.mono (show 1 ≤ 3 by decide)
    have hr2 := hr.mono (show 2 ≤ 3 by decide)
    refine ⟨_, pss_cons (ps_if (pt_cmpR op_eq (pe_call GD hr1 (by rfl) ND.m ND.F.kp ND.b .nil pass0 (pa_cons (pv 0) (pa_cons pe_int pa_nil))) pe_int (nomark _))
        (pss_cons (ps_set (i := 1) nd rfl (Or.inl rfl) (pe_callTy call_tuple_of (by rfl) T2.tuple (by decide +kernel) (pa_cons (pe_lc (own := [("_law_turn", 7)]) (g := gName 7) (tt := tYes) rfl nd (pi_range1 (by rfl) T.range (pa_cons (pe_op op_add pe_int (pe_call GD hr1 (by rfl) ND.m ND.F.kp ND.b .nil pass0 (pa_cons (pv 0) (pa_cons pe_int pa_nil)))) pa_nil)) (blkOk_by (N := ["_law_hand_here", "_law_rounds", "_law_heads", "_law_size", "_law_flags", "_law_maker", "_law_at", "_law_turn", "_law_number"]) (sc := defScope sRawSpec) (by decide +kernel)) (fun _ _ _ _ _ => pg_name (i := 7) nd rfl (Or.inl rfl)) (fun _ _ _ _ _ => pts_nil) (fun _ _ _ _ _ => pe_cmpR op_eq (pe_call GD hr1 (by rfl) ND.m ND.F.kp ND.b .nil pass0 (pa_cons (pv 0) (pa_cons pe_int pa_nil))) pe_int (nomark _))) pa_nil)))
        (pss_cons (ps_setLc (i := 2) (own := [("_law_turn", 7)]) (g := gName 7) (tt := tYes) rfl nd rfl rfl (sw_true rfl rfl rfl (by decide +kernel)) (pi_range1 (by rfl) T.range (pa_cons (pe_op op_add pe_int (pe_call GD hr1 (by rfl) ND.m ND.F.kp ND.b .nil pass0 (pa_cons (pv 0) (pa_cons pe_int pa_nil)))) pa_nil)) (blkOk_by (N := ["_law_hand_here", "_law_rounds", "_law_heads", "_law_size", "_law_flags", "_law_maker", "_law_at", "_law_turn", "_law_number"]) (sc := defScope sRawSpec) (by decide +kernel)) (fun _ _ _ _ _ => pg_name (i := 7) nd rfl (Or.inl rfl)) (fun _ _ _ _ _ => pts_nil) (fun _ _ _ _ _ => pe_cmpR op_eq (pe_call GD hr1 (by rfl) ND.m ND.F.kp ND.b .nil pass0 (pa_cons (pv 0) (pa_cons pe_int pa_nil))) pe_int (nomark _)))
        (pss_cons (ps_asg pe_bl (pg_sub (pv 2) pe_int set_list))
        (pss_one (ps_ret (pe_tup (pa_cons pe_str (pa_cons (pe_callTy call_tuple_of (by rfl) T2.tuple (by decide +kernel) (pa_cons (pv 2) pa_nil)) (pa_cons (pv 1) pa_nil))))))))) pss_nil)
      (pss_cons (ps_set (i := 3) nd rfl (Or.inl rfl) (pe_op op_add pe_int (pe_call GD hr1 (by rfl) ND.m ND.F.kp ND.b .nil pass0 (pa_cons (pv 0) (pa_cons pe_int pa_nil)))))
      (pss_cons (ps_set (i := 4) nd rfl (Or.inl rfl) (pe_call GT hr2 (by rfl) NT.m NT.F.kp NT.b .nil pass0 (pa_cons (pe_call GSp hr (by rfl) NSp.m NSp.F.kp NSp.b .nil pass0 (pa_cons (pv 0) pa_nil)) (pa_cons (pe_op op_add pe_int (pv 3)) pa_nil))))
      (Evl.pss_cut (ps_if (pt_cmpR op_eq (pe_call GD hr1 (by rfl) ND.m ND.F.kp ND.b .nil pass0 (pa_cons (pv 0) (pa_cons pe_int pa_nil))) pe_int (nomark _))
        (pss_cons (ps_set (i := 5) nd rfl (Or.inr rfl) (pe_op op_add pe_int (pe_call GD hr1 (by rfl) ND.m ND.F.kp ND.b .nil pass0 (pa_cons (pv 0) (pa_cons pe_int pa_nil)))))
        (pss_one (ps_setLc (i := 4) (own := [("_law_number", 8)]) (g := gName 8) (tt := tYes) rfl nd rfl rfl (sw_true rfl rfl rfl (by decide +kernel)) (pi_range1 (by rfl) T.range (pa_cons (pe_op op_add pe_int (pv 3)) pa_nil)) (blkOk_by (N := ["_law_hand_here", "_law_rounds", "_law_heads", "_law_size", "_law_flags", "_law_maker", "_law_at", "_law_turn", "_law_number"]) (sc := defScope sRawSpec) (by decide +kernel)) (fun _ _ _ _ _ => pg_name (i := 8) nd rfl (Or.inl rfl)) (fun _ _ _ _ _ => pts_nil) (fun _ _ _ _ _ => pe_and (pe_cmpR op_gt (pv 8) pe_int (nomark _)) (pe_one (pe_cmpR op_eq (pe_op op_mod (pe_callTy call_int1 (by rfl) T.int (by decide +kernel) (pa_cons (pe_op op_sub (pv 8) pe_int) pa_nil)) (pv 5)) pe_int (nomark _))))))) pss_nil)
      (Evl.pss_cut (ps_if (pt_cmpR op_eq (pe_call GD hr1 (by rfl) ND.m ND.F.kp ND.b .nil pass0 (pa_cons (pv 0) (pa_cons pe_int pa_nil))) pe_int (nomark _))
        (pss_cons (ps_set (i := 6) nd rfl (Or.inl rfl) (pe_call GD hr1 (by rfl) ND.m ND.F.kp ND.b .nil pass0 (pa_cons (pv 0) (pa_cons (pe_op op_add pe_int (pv 3)) pa_nil))))
        (pss_one (ps_asg (pe_or (pe_not (pe_ix ix_list (pv 4) (pv 6) (fun _ _ => rfl))) (pe_one (pe_cmpR op_eq (pv 6) pe_int (nomark _)))) (pg_sub (pv 4) (pv 6) set_list)))) pss_nil)
      (pss_one (ps_ret (pe_tup (pa_cons pe_str (pa_cons (pe_callTy call_tuple_of (by rfl) T2.tuple (by decide +kernel) (pa_cons (pe_slice sl_list (pv 4) po_none (po_some pe_int)) pa_nil)) (pa_cons (pe_callTy call_tuple_of (by rfl) T2.tuple (by decide +kernel) (pa_cons (pe_slice sl_list (pv 4) (po_some pe_int) (po_some (pe_op op_add pe_int (pv 3)))) pa_nil)) pa_nil)))))))))), ?_⟩
    refine ⟨_, rfl, p, c, cells, 2, rfl, hA, by decide, by decide, fun r0 H0 r00 r01 hA0 o0 => ?_⟩
    have sd0 := del_off o0
    refine ⟨rfl, _, rfl, ?_⟩
    refine ite2 (fun d => ?_) (fun d => ?_)
    · refine ⟨_, rfl, p, c, cells, 6, rfl, hA0, by decide, by decide, fun r1 H1 r10 r11 hA1 o1 => ?_⟩
      have sd1 := same_trans sd0 (del_off o1)
      refine ⟨_, _, rfl, rfl, _, rfl, by omega, by omega, fun D hD => ?_⟩
      have hDp := hA1.fresh hD
      have hDc : D ≠ c := fun z => by rw [z, hA1.cl] at hD; cases hD
      have hDG : del H p D = none := same_none sd1 (by rw [del_ne hDp]; exact hD)
      have a0 := same_new (o := .lst []) (same_refl H1) hD
      refine lc_range (lo := 0) (n := (1 + r1).toNat) (fun i H' => HandAt H' p c cells ∧ Same (del H p) (del H' p) ∧ ∃ bs : List Bool, bs.length = i ∧ H' D = some (.lst (bs.map V.bl))) ⟨hA1.same a0, same_trans sd1 (del_same_of a0), [], rfl, upd_same⟩ ?_ ?_
      · rintro i H' hi ⟨hA3, sd3, bs, hM, hD3⟩
        refine ⟨rfl, ?_⟩
        refine yes_kept ?_
        refine ⟨_, rfl, p, c, cells, 2, rfl, hA3, by decide, by decide, fun x H4 x0 x1 hA4 o4 => ?_⟩
        have hD4 := (o4 D hDp).trans hD3
        refine ⟨rfl, _, hD4, (by rw [List.length_map]; exact small1000 (by omega)), hA4.upd hDp hDc, same_upd (same_trans sd3 (del_off o4)) hDG, bs ++ [decide (V.int x = V.int 0)], by rw [List.length_append, hM]; rfl, ?_⟩
        rw [upd_same, List.map_append]; rfl
      · rintro H2 ⟨hA2, sd2, rs, hrs, hD2⟩
        refine ⟨D, _, rfl, .inl ⟨SqL.of hD2, fun t ht => ?_⟩⟩
        have st := same_new (o := .tup (rs.map V.bl)) (same_refl H2) ht
        have ft : upd H2 t (.tup (rs.map V.bl)) t = some (.tup (rs.map V.bl)) := upd_same
        have ntp := hA2.fresh ht
        generalize upd H2 t (.tup (rs.map V.bl)) = G1 at *
        refine ⟨_, rfl, p, c, cells, 7, rfl, hA2.same st, by decide, by decide, fun r2 H5 r20 r21 hA5 o5 => ?_⟩
        have sd5 := same_trans (same_trans sd2 (del_same_of st)) (del_off o5)
        have ft5 : H5 t = some (.tup (rs.map V.bl)) := (o5 t ntp).trans ft
        clear hD2 hD hDp hDc hDG a0
        refine ⟨_, _, rfl, rfl, _, rfl, by omega, by omega, fun D hD => ?_⟩
        have hDp := hA5.fresh hD
        have hDc : D ≠ c := fun z => by rw [z, hA5.cl] at hD; cases hD
        have hDG : del H p D = none := same_none sd5 (by rw [del_ne hDp]; exact hD)
        have tD : t ≠ D := ne_of_none ft5 hD
        have a0 := same_new (o := .lst []) (same_refl H5) hD
        refine lc_range (lo := 0) (n := (2 + r2).toNat) (fun i H' => HandAt H' p c cells ∧ Same (del H p) (del H' p) ∧ H' t = some (.tup (rs.map V.bl)) ∧ ∃ bs : List Bool, bs.length = i ∧ H' D = some (.lst (bs.map V.bl))) ⟨hA5.same a0, same_trans sd5 (del_same_of a0), a0 _ _ ft5, [], rfl, upd_same⟩ ?_ ?_
        · rintro i H' hi ⟨hA3, sd3, ft3, bs, hM, hD3⟩
          refine ⟨rfl, ?_⟩
          refine yes_kept ?_
          refine ⟨_, rfl, p, c, cells, 2, rfl, hA3, by decide, by decide, fun x H4 x0 x1 hA4 o4 => ?_⟩
          have hD4 := (o4 D hDp).trans hD3
          refine ⟨rfl, _, hD4, (by rw [List.length_map]; exact small1000 (by omega)), hA4.upd hDp hDc, same_upd (same_trans sd3 (del_off o4)) hDG, (by rw [upd_ne tD]; exact (o4 t ntp).trans ft3), bs ++ [decide (V.int x = V.int 0)], by rw [List.length_append, hM]; rfl, ?_⟩
          rw [upd_same, List.map_append]; rfl
        · rintro H6 ⟨hA6, sd6, ft6, hs, hhs, hD6⟩
          have l1 : 1 < hs.length := by omega
          refine ⟨_, rfl, D, _, 1, 1, rfl, rfl, hD6, ixN_nat (by rw [List.length_map]; exact l1), ?_⟩
          have e1 : (hs.map V.bl).set 1 (V.bl true) = (hs.set 1 true).map V.bl := (List.map_set ..).symm
          rw [e1]
          have hA7 := hA6.upd (o := .lst ((hs.set 1 true).map V.bl)) hDp hDc
          have sd7 := same_upd (o := .lst ((hs.set 1 true).map V.bl)) sd6 hDG
          have ft7 : upd H6 D (.lst ((hs.set 1 true).map V.bl)) t = some (.tup (rs.map V.bl)) := by rw [upd_ne tD]; exact ft6
          have hD7 : upd H6 D (.lst ((hs.set 1 true).map V.bl)) D = some (.lst ((hs.set 1 true).map V.bl)) := upd_same
          generalize upd H6 D (.lst ((hs.set 1 true).map V.bl)) = G7 at *
          refine ⟨_, rfl, D, _, rfl, .inl ⟨SqL.of hD7, fun th hth => ?_⟩⟩
          have s8 := same_new (o := .tup ((hs.set 1 true).map V.bl)) (same_refl G7) hth
          have f8 : upd G7 th (.tup ((hs.set 1 true).map V.bl)) th = some (.tup ((hs.set 1 true).map V.bl)) := upd_same
          have nthp := hA7.fresh hth
          generalize upd G7 th (.tup ((hs.set 1 true).map V.bl)) = G8 at *
          refine ⟨_, rfl, (by show 3 ≤ sizeLine; decide), fun a ha => ?_⟩
          have s9 := same_new (o := .tup [.str "raw", .ref th, .ref t]) (same_refl G8) ha
          have nap := (hA7.same s8).fresh ha
          refine k (.ref a) (hs.set 1 true) rs _ ((hA7.same s8).same s9) (same_trans (same_trans sd7 (del_same_of s8)) (del_same_of s9)) ⟨a, th, t, rfl, by rw [del_ne nap, upd_same], SqT.of (by rw [del_ne nthp]; exact s9 _ _ f8), SqT.of (by rw [del_ne ntp]; exact s9 _ _ (s8 _ _ ft7))⟩ ⟨by rw [List.length_set]; omega, by omega, by omega, one_heads (by rw [List.getElem?_set_self l1])⟩
    · refine ⟨_, rfl, p, c, cells, 6, rfl, hA0, by decide, by decide, fun r1 H1 r10 r11 hA1 o1 => ?_⟩
      have sd1 := same_trans sd0 (del_off o1)
      obtain ⟨sz, rfl⟩ : ∃ sz : Nat, r1 = (sz : Int) := ⟨r1.toNat, (Int.toNat_of_nonneg r10).symm⟩
      refine ⟨_, _, rfl, rfl, _, rfl, p, c, cells, rfl, hA1, fun v z M H2 hA2 sd2 hs2 hz => ?_⟩
      refine ⟨_, rfl, _, _, rfl, rfl, v, z, M, 9 + sz, (by show [v, V.int (8 + (1 + (sz : Int)))] = [v, V.int ((9 + sz : Nat) : Int)]; rw [show (8 : Int) + (1 + (sz : Int)) = ((9 + sz : Nat) : Int) by omega]), hs2.same del_le, hz, by omega, by omega, fun l H3 s3 nl hl3 => ?_⟩
      have hA3 := hA2.same s3
      have sd3 := same_trans (same_trans sd1 sd2) (del_same_of s3)
      have nlp : l ≠ p := hA2.fresh nl
      have nlc : l ≠ c := fun z => by rw [z, hA2.cl] at nl; cases nl
      have dl : del H p l = none := same_none (same_trans sd1 sd2) (by rw [del_ne nlp]; exact nl)
      clear hs2
      obtain ⟨F0, lF0, oF0, hF0⟩ : ∃ F0 : List Bool, F0.length = 10 + sz ∧ F0[1]? = some true ∧ H3 l = some (.lst (F0.map V.bl)) := ⟨_, by rw [flL_len]; omega, by rw [flL_get (by omega), fl_one hz], hl3⟩
      clear hl3
      refine ⟨fun σ' H' => ∃ (l : Addr) (F : List Bool) (t5 : Option V), σ' = [some (.ref p), none, none, some (.int (1 + (sz : Int))), some (.ref l), t5, none, none, none] ∧ HandAt H' p c cells ∧ Same (del H p) (del H' p) ∧ F.length = 10 + sz ∧ F[1]? = some true ∧ H' l = some (.lst (F.map V.bl)) ∧ l ≠ p ∧ l ≠ c ∧ del H p l = none, ?_, ?_⟩
      · refine ⟨_, rfl, p, c, cells, 3, rfl, hA3, by decide, by decide, fun r4 H4 _ _ hA4 o4 => ?_⟩
        have sd4 := same_trans sd3 (del_off o4)
        refine ⟨rfl, _, rfl, ?_⟩
        refine ite2 (fun d => ?_) (fun d => ?_)
        · refine ⟨_, rfl, p, c, cells, 4, rfl, hA4, by decide, by decide, fun r5 H5 r50 r51 hA5 o5 => ?_⟩
          have sd5 := same_trans sd4 (del_off o5)
          refine ⟨_, _, rfl, rfl, _, rfl, _, _, rfl, rfl, _, rfl, by omega, by omega, fun D hD => ?_⟩
          have hDp := hA5.fresh hD
          have hDc : D ≠ c := fun z => by rw [z, hA5.cl] at hD; cases hD
          have hDG : del H p D = none := same_none sd5 (by rw [del_ne hDp]; exact hD)
          have a0 := same_new (o := .lst []) (same_refl H5) hD
          refine lc_range (lo := 0) (n := (9 + (1 + (sz : Int))).toNat) (fun i H' => HandAt H' p c cells ∧ Same (del H p) (del H' p) ∧ ∃ bs : List Bool, bs.length = i ∧ (2 ≤ i → bs[1]? = some true) ∧ H' D = some (.lst (bs.map V.bl))) ⟨hA5.same a0, same_trans sd5 (del_same_of a0), [], rfl, fun z => absurd z (by decide), upd_same⟩ ?_ ?_
          · rintro i H' hi ⟨hA6, sd6, bs, hM, hone, hD6⟩
            refine ⟨rfl, ?_⟩
            refine yes_kept ?_
            have put : ∀ b : Bool, (i = 1 → b = true) → ∃ acc, H' D = some (.lst acc) ∧ acc.length < sizeLine ∧ HandAt (upd H' D (.lst (acc ++ [V.bl b]))) p c cells ∧ Same (del H p) (del (upd H' D (.lst (acc ++ [V.bl b]))) p) ∧ ∃ bs : List Bool, bs.length = i + 1 ∧ (2 ≤ i + 1 → bs[1]? = some true) ∧ upd H' D (.lst (acc ++ [V.bl b])) D = some (.lst (bs.map V.bl)) := fun b hb => by
              refine ⟨_, hD6, (by rw [List.length_map]; exact small1000 (by omega)), hA6.upd hDp hDc, same_upd sd6 hDG, bs ++ [b], by rw [List.length_append, hM]; rfl, fun h2 => ?_, ?_⟩
              · by_cases e : i = 1
                · subst e
                  rw [List.getElem?_append_right (by omega), hM]
                  show some b = some true
                  rw [hb rfl]
                · rw [List.getElem?_append_left (by omega)]
                  exact hone (by omega)
              · rw [upd_same, List.map_append]; rfl
            refine ⟨_, rfl, _, _, rfl, rfl, _, rfl, ?_⟩
            refine ite2 (fun e => ?_) (fun e => ?_)
            · refine ⟨_, rfl, _, _, rfl, rfl, .inl ⟨_, rfl, _, rfl, _, _, rfl, rfl, (by show (0 : Int) < 1 + r5; omega), rfl, put _ fun i1 => ?_⟩⟩
              subst i1
              exact decide_eq_true (by show V.int (((0 : Int) + ((1 : Nat) : Int) - 1) % (1 + r5)) = V.int 0; rw [show (0 : Int) + ((1 : Nat) : Int) - 1 = 0 by omega, Int.zero_emod])
            · exact put false fun i1 => absurd (decide_eq_true (by omega)) e
          · rintro H7 ⟨hA7, sd7, bs, hM, hone, hD7⟩
            exact ⟨D, bs, _, rfl, hA7, sd7, by rw [hM]; omega, hone (by omega), hD7, hDp, hDc, hDG⟩
        · exact ⟨l, F0, _, rfl, hA4, sd4, lF0, oF0, (o4 l nlp).trans hF0, nlp, nlc, dl⟩
      · rintro _ H4 ⟨l, F, t5, rfl, hA4, sd4, lF, oF, hF, nlp, nlc, dl⟩
        refine ⟨fun σ' H' => ∃ (F : List Bool) (t6 : Option V), σ' = [some (.ref p), none, none, some (.int (1 + (sz : Int))), some (.ref l), t5, t6, none, none] ∧ HandAt H' p c cells ∧ Same (del H p) (del H' p) ∧ F.length = 10 + sz ∧ F[1]? = some true ∧ H' l = some (.lst (F.map V.bl)), ?_, ?_⟩
        · refine ⟨_, rfl, p, c, cells, 3, rfl, hA4, by decide, by decide, fun r5 H5 _ _ hA5 o5 => ?_⟩
          have sd5 := same_trans sd4 (del_off o5)
          have hF5 := (o5 l nlp).trans hF
          refine ⟨rfl, _, rfl, ?_⟩
          refine ite2 (fun d => ?_) (fun d => ?_)
          · refine ⟨_, rfl, _, rfl, _, _, rfl, rfl, p, c, cells, _, rfl, hA5, by omega, by omega, fun r6 H6 r60 r61 hA6 o6 => ?_⟩
            obtain ⟨kk, rfl⟩ : ∃ kk : Nat, r6 = (kk : Int) := ⟨r6.toNat, (Int.toNat_of_nonneg r60).symm⟩
            have sd6 := same_trans sd5 (del_off o6)
            have hF6 := (o6 l nlp).trans hF5
            have lt : kk < F.length := by omega
            have put : ∀ b : Bool, (kk = 1 → b = true) → HandAt (upd H6 l (.lst ((F.map V.bl).set kk (V.bl b)))) p c cells ∧ Same (del H p) (del (upd H6 l (.lst ((F.map V.bl).set kk (V.bl b)))) p) ∧ ∃ F' : List Bool, F'.length = 10 + sz ∧ F'[1]? = some true ∧ upd H6 l (.lst ((F.map V.bl).set kk (V.bl b))) l = some (.lst (F'.map V.bl)) := fun b hb => by
              refine ⟨hA6.upd nlp nlc, same_upd sd6 dl, F.set kk b, by rw [List.length_set]; exact lF, ?_, by rw [upd_same, List.map_set]⟩
              by_cases e : kk = 1
              · subst e
                rw [List.getElem?_set_self lt, hb rfl]
              · rw [List.getElem?_set_ne e]; exact oF
            have hat : atI (F.map V.bl) (kk : Int) = some (.bl F[kk]) := atI_nat (by rw [List.getElem?_map, List.getElem?_eq_getElem lt]; rfl)
            have fin : ∀ b : Bool, (kk = 1 → b = true) → ∃ (F' : List Bool) (t6 : Option V), [some (V.ref p), none, none, some (.int (1 + (sz : Int))), some (.ref l), t5, some (.int (kk : Int)), none, none] = [some (.ref p), none, none, some (.int (1 + (sz : Int))), some (.ref l), t5, t6, none, none] ∧ HandAt (upd H6 l (.lst ((F.map V.bl).set kk (V.bl b)))) p c cells ∧ Same (del H p) (del (upd H6 l (.lst ((F.map V.bl).set kk (V.bl b)))) p) ∧ F'.length = 10 + sz ∧ F'[1]? = some true ∧ upd H6 l (.lst ((F.map V.bl).set kk (V.bl b))) l = some (.lst (F'.map V.bl)) := fun b hb => by
              obtain ⟨q1, q2, F', q3, q4, q5⟩ := put b hb
              exact ⟨F', _, rfl, q1, q2, q3, q4, q5⟩
            refine ⟨_, rfl, _, rfl, l, _, _, _, rfl, rfl, SqL.of hF6, hat, _, rfl, _, rfl, ?_⟩
            refine ite2 (fun e => ?_) (fun e => ?_)
            · exact ⟨_, rfl, _, rfl, l, _, _, kk, rfl, rfl, hF6, ixN_nat (by rw [List.length_map]; exact lt), fin _ fun _ => rfl⟩
            · refine ⟨_, rfl, rfl, ?_⟩
              exact ⟨_, rfl, _, rfl, l, _, _, kk, rfl, rfl, hF6, ixN_nat (by rw [List.length_map]; exact lt), fin _ fun e1 => by subst e1; rfl⟩
          · exact ⟨F, _, rfl, hA5, sd5, lF, oF, hF5⟩
        · rintro _ H5 ⟨F, t6, rfl, hA5, sd5, lF, oF, hF⟩
          have nlc2 := nlc
          refine ⟨_, rfl, 8, rfl, l, _, rfl, SqL.of hF, fun s1 hs1 => ?_⟩
          have e1 : cutV (F.map V.bl) none (some 8) = (F.take 8).map V.bl := by
            unfold cutV
            rw [HT.sIx_none, show ((8 : Int)) = ((8 : Nat) : Int) from rfl, HT.sIx_nat, List.length_map, Nat.min_eq_left (by omega), Nat.sub_zero, List.drop_zero, ← List.map_take]
          rw [e1]
          have a1 := same_new (o := .lst ((F.take 8).map V.bl)) (same_refl H5) hs1
          have b1 : upd H5 s1 (.lst ((F.take 8).map V.bl)) s1 = some (.lst ((F.take 8).map V.bl)) := upd_same
          generalize upd H5 s1 (.lst ((F.take 8).map V.bl)) = G1 at *
          refine ⟨s1, _, rfl, .inl ⟨SqL.of b1, fun th hth => ?_⟩⟩
          have a2 := same_new (o := .tup ((F.take 8).map V.bl)) a1 hth
          have b2 : upd G1 th (.tup ((F.take 8).map V.bl)) th = some (.tup ((F.take 8).map V.bl)) := upd_same
          have nthp := (hA5.same a1).fresh hth
          generalize upd G1 th (.tup ((F.take 8).map V.bl)) = G2 at *
          refine ⟨_, rfl, 8, rfl, _, rfl, _, _, rfl, rfl, _, rfl, l, _, rfl, SqL.of (a2 _ _ hF), fun s2 hs2 => ?_⟩
          have e2 : cutV (F.map V.bl) (some 8) (some (8 + (1 + (sz : Int)))) = ((F.drop 8).take (1 + sz)).map V.bl := by
            unfold cutV
            rw [show (8 + (1 + (sz : Int))) = ((9 + sz : Nat) : Int) by omega, show ((8 : Int)) = ((8 : Nat) : Int) from rfl, HT.sIx_nat, HT.sIx_nat, List.length_map, Nat.min_eq_left (by omega), Nat.min_eq_left (by omega), show 9 + sz - 8 = 1 + sz by omega, ← List.map_drop, ← List.map_take]
          rw [e2]
          have a3 := same_new (o := .lst (((F.drop 8).take (1 + sz)).map V.bl)) (same_refl G2) hs2
          have b3 : upd G2 s2 (.lst (((F.drop 8).take (1 + sz)).map V.bl)) s2 = some (.lst (((F.drop 8).take (1 + sz)).map V.bl)) := upd_same
          generalize upd G2 s2 (.lst (((F.drop 8).take (1 + sz)).map V.bl)) = G3 at *
          refine ⟨s2, _, rfl, .inl ⟨SqL.of b3, fun tr htr => ?_⟩⟩
          have a4 := same_new (o := .tup (((F.drop 8).take (1 + sz)).map V.bl)) a3 htr
          have b4 : upd G3 tr (.tup (((F.drop 8).take (1 + sz)).map V.bl)) tr = some (.tup (((F.drop 8).take (1 + sz)).map V.bl)) := upd_same
          have ntrp := ((hA5.same a2).same a3).fresh htr
          generalize upd G3 tr (.tup (((F.drop 8).take (1 + sz)).map V.bl)) = G4 at *
          refine ⟨(by show 3 ≤ sizeLine; decide), fun a ha => ?_⟩
          have a5 := same_new (o := .tup [.str "raw", .ref th, .ref tr]) (same_refl G4) ha
          have s24 := same_trans a2 a4
          have nap := (hA5.same s24).fresh ha
          have lr : ((F.drop 8).take (1 + sz)).length = 1 + sz := by rw [List.length_take, List.length_drop]; omega
          refine k (.ref a) (F.take 8) ((F.drop 8).take (1 + sz)) _ ((hA5.same s24).same a5) (same_trans (same_trans sd5 (del_same_of s24)) (del_same_of a5)) ⟨a, th, tr, rfl, by rw [del_ne nap, upd_same], SqT.of (by rw [del_ne nthp]; exact a5 _ _ (a4 _ _ b2)), SqT.of (by rw [del_ne ntrp]; exact a5 _ _ b4)⟩ ⟨by rw [List.length_take]; omega, by omega, by omega, one_heads (by rw [List.getElem?_take_of_lt (by decide)]; exact oF)⟩
end
end K03

set_option Elab.async false
set_option linter.all false
set_option maxRecDepth 100000
set_option maxHeartbeats 4100000
namespace K03
open PySem L2
abbrev sAny : Stmt := top 35
abbrev sDueP : Stmt := top 37
abbrev sToldP : Stmt := top 38
def oS : Option Str → V
  | none => .non
  | some z => .str z
/-- what the written part says of the making of a RawLot -/
structure RawF (K : PySem.W.Frag) (mg : Str → Option Value) (CR fR : Addr) (fdR : FuncData) : Prop where
  M : Mk K CR fR
  b : Binds K fdR ["self", "heads", "rounds"] []
structure ToldT (K : PySem.W.Frag) (mg : Str → Option Value) (CB CE : Addr) : Prop where
  gE : mg "CountsError" = some (.ref CE)
  exm : PySem.W.exmOne K (.ref CB) (.ref CE) = some true
  k1 : PySem.W.kitOne K (.ref CB) (.ref CB) = some true
def spAny (K : PySem.W.Frag) (CR : Addr) : Sp := fun vs H Q _ => ∃ (v : V) (hs rs : List Bool), vs = [v] ∧ RawSp K H v hs rs ∧ RawOk hs rs ∧ ∀ x H', Same H H' → H x = none → RawAt K CR H' x hs rs → Q (.ref x) H'
def spDueP (K : PySem.W.Frag) : Sp := fun vs H Q _ => ∃ (vh vr : V) (hd rd : Option (List (Option Bool))), vs = [vh, vr] ∧ FgAt K H hd vh ∧ FgAt K H rd vr ∧ ∀ H', Same H H' → Q (oS (dueRaw hd rd)) H'
theorem some_inj {hs hs' : List Bool} (h : some (hs.map some) = some (hs'.map some)) : hs = hs' := by
  have := congrArg (List.map fun o : Option Bool => o.getD false) (Option.some.inj h)
  rwa [map_getD, map_getD] at this
theorem fg_ok {lo hi : Nat} {bs : List Bool} (h1 : lo ≤ bs.length) (h2 : bs.length ≤ hi) : fgOk lo hi (some (bs.map some)) = true := by
  rw [fgOk_some, List.length_map, decide_eq_true h1, decide_eq_true h2, Bool.and_self, Bool.true_and, List.all_eq_true]
  intro o ho
  obtain ⟨b, _, rfl⟩ := List.mem_map.mp ho
  rfl
theorem RawOk.due {hs rs : List Bool} (h : RawOk hs rs) : dueRaw (some (hs.map some)) (some (rs.map some)) = none := by
  rw [due_one (fg_ok (Nat.zero_le _) h.h8) (fg_ok h.r1 h.r6), if_pos h.one]
section
variable {P : Program} {w : World} {K : PySem.W.Frag} {mg : Str → Option Value} {base : Heap} {CR CB fR fE fB CE : Addr} {fdR fdB : FuncData}
theorem scAny : FnScope ["_law_spec"] ["_law_spec"] (defScope sAny) := ⟨rfl, rfl, rfl, by decide +kernel, rfl, by decide +kernel, by decide +kernel⟩
theorem ok_any {f : Addr} {fd : FuncData} (F : Fn K mg "_law_any_lot" sAny ["_law_spec"] f fd) (GR : FnOk P w K mg base (L2.CX P w) 3 fR fdR ["self", "heads", "rounds"] (spRInit K CR CB)) (R : RawT K mg CR fE) (RF : RawF K mg CR fR fdR) : FnOk P w K mg base CX0 5 f fd ["_law_spec"] (spAny K CR) := by
  refine F.F.ok scAny (fun vs H Q E h => ?_) (fun cdv A outer s H vs Q E hr h => ?_)
  · obtain ⟨_, _, _, rfl, _⟩ := h
    rfl
  · obtain ⟨v, hs, rs, rfl, hsp, ok, k⟩ := h
    refine ⟨_, pss_one (ps_ret (pe_ifExp (pt_cmpR op_eq (pe_ix ix_tup (pv 0) pe_int (fun _ _ => rfl)) pe_str (nomark _)) (pe_make RF.M GR hr (by rfl) R.mgR RF.b .nil passL (pa_cons (pe_ix ix_tup (pv 0) pe_int (fun _ _ => rfl)) (pa_cons (pe_ix ix_tup (pv 0) pe_int (fun _ _ => rfl)) pa_nil))) (tb := fun _ _ _ => False) ⟨fun _ _ _ _ _ _ h => h.elim⟩)), ?_⟩
    obtain ⟨a, th, tr, rfl, ha, hth, htr⟩ := hsp
    refine ⟨_, rfl, a, _, _, _, rfl, rfl, SqT.of ha, rfl, rfl, _, rfl, ?_⟩
    refine ite2 (fun _ => ?_) (fun c => absurd (decide_eq_true rfl) c)
    refine ⟨_, rfl, a, _, _, _, rfl, rfl, SqT.of ha, rfl, _, rfl, a, _, _, _, rfl, rfl, SqT.of ha, rfl, fun x dx nx ndx nex => ?_⟩
    have s1 : Same H (upd (upd H dx (.own x)) x (.ins CR dx [])) := fun b o e => by rw [upd_ne (ne_of_none e nx), upd_ne (ne_of_none e ndx)]; exact e
    have h8 := ok.h8
    have r6 := ok.r6
    refine ⟨x, dx, _, _, some (hs.map some), some (rs.map some), rfl, upd_same, fg_of (sqt_same hth s1) (by omega), fg_of (sqt_same htr s1) (by omega), fun _ H' hs' rs' e1 e2 off hl => ⟨rfl, ?_⟩, fun part e => by rw [ok.due] at e; cases e⟩
    have q1 := some_inj e1
    have q2 := some_inj e2
    subst q1 q2
    exact k x H' (fun b o e => off b o (ne_of_none e nx) (s1 b o e)) nx hl
theorem scDueP : FnScope ["_law_heads", "_law_rounds"] ["_law_heads", "_law_rounds"] (defScope sDueP) := ⟨rfl, rfl, rfl, by decide +kernel, rfl, by decide +kernel, by decide +kernel⟩
theorem ok_dueP {f fA fT : Addr} {fd fdA fdT : FuncData} (F : Fn K mg "_law_due_part" sDueP ["_law_heads", "_law_rounds"] f fd) (NA : Fn K mg "_law_are_flags" sAre ["_law_thing", "_law_least", "_law_most"] fA fdA) (GA : FnOk P w K mg base CX0 1 fA fdA ["_law_thing", "_law_least", "_law_most"] (spAre K))
    (NT : Fn K mg "_law_told_numbers" sTold ["_law_spec", "_law_most"] fT fdT) (GT : FnOk P w K mg base CX0 2 fT fdT ["_law_spec", "_law_most"] (spToldR K)) : FnOk P w K mg base CX0 3 f fd ["_law_heads", "_law_rounds"] (spDueP K) := by
  refine F.F.ok scDueP (fun vs H Q E h => ?_) (fun cdv A outer s H vs Q E hr h => ?_)
  · obtain ⟨_, _, _, _, rfl, _⟩ := h
    rfl
  · obtain ⟨vh, vr, hd, rd, rfl, hh, hv, k⟩ := h
    have hr1 := hr.mono (show 1 ≤ 2 by decide)
    refine ⟨_, pss_cons (ps_if (pt_not (pt_val (pe_call GA hr1 (by rfl) NA.m NA.F.kp NA.b .nil pass0 (pa_cons (pv 0) (pa_cons pe_int (pa_cons pe_int pa_nil)))))) (pss_one (ps_ret pe_str)) pss_nil)
      (pss_cons (ps_if (pt_not (pt_val (pe_call GA hr1 (by rfl) NA.m NA.F.kp NA.b .nil pass0 (pa_cons (pv 1) (pa_cons pe_int (pa_cons pe_int pa_nil)))))) (pss_one (ps_ret pe_str)) pss_nil)
      (pss_one (ps_ret (pe_ifExp (pt_val (pe_ix (ix_list : IxR _ (rIxL K)) (pe_call GT hr (by rfl) NT.m NT.F.kp NT.b .nil pass0 (pa_cons (pe_tup (pa_cons pe_str (pa_cons (pv 0) (pa_cons (pv 1) pa_nil)))) (pa_cons pe_int pa_nil))) pe_int (fun _ _ => rfl))) pe_non pe_str)))), ?_⟩
    refine ⟨_, rfl, 0, 8, vh, hd, rfl, hh, fun H1 s1 => ⟨_, rfl, ?_⟩⟩
    refine ite2 (fun c => ?_) (fun c => ?_)
    · have c2 : ¬ fgOk 0 8 hd = true := by simpa using c
      have e : dueRaw hd rd = some ("heads" : Str) := by unfold dueRaw; rw [if_neg c2]
      rw [e] at k
      exact k H1 s1
    · have c2 : fgOk 0 8 hd = true := by simpa using c
      refine ⟨_, rfl, 1, 6, vr, rd, rfl, hv.same s1, fun H2 s2 => ⟨_, rfl, ?_⟩⟩
      have s12 := same_trans s1 s2
      refine ite2 (fun d => ?_) (fun d => ?_)
      · have d2 : ¬ fgOk 1 6 rd = true := by simpa using d
        have e : dueRaw hd rd = some ("rounds" : Str) := by unfold dueRaw; rw [if_pos c2, if_neg d2]
        rw [e] at k
        exact k H2 s12
      · have d2 : fgOk 1 6 rd = true := by simpa using d
        obtain ⟨hs, rfl, _, l8⟩ := fg_bools c2
        obtain ⟨rs, rfl, l1, l6⟩ := fg_bools d2
        obtain ⟨th, rfl, hth⟩ := fg_at (hh.same s12)
        obtain ⟨tr, rfl, htr⟩ := fg_at (hv.same s12)
        rw [due_one c2 d2] at k
        refine ⟨_, rfl, _, rfl, (by show 3 ≤ sizeLine; decide), fun a ha => ?_⟩
        have s3 := same_new (o := .tup [.str "raw", .ref th, .ref tr]) (same_refl H2) ha
        have f3 : upd H2 a (.tup [.str "raw", .ref th, .ref tr]) a = some (.tup [.str "raw", .ref th, .ref tr]) := upd_same
        generalize upd H2 a (.tup [.str "raw", .ref th, .ref tr]) = G3 at *
        refine ⟨_, hs, rs, 1, rfl, ⟨a, th, tr, rfl, f3, sqt_same hth s3, sqt_same htr s3⟩, by omega, l1, by omega, by decide, fun p H4 s4 _ hp => ?_⟩
        have hat : atI ((rawL hs rs (1 + 1)).map V.bl) ((1 : Nat) : Int) = some (.bl (rawB hs rs 1)) := atI_nat (by rw [List.getElem?_map, rawL_get (by decide)]; rfl)
        refine ⟨p, _, _, _, rfl, rfl, SqL.of hp, hat, _, rfl, ?_⟩
        have s := same_trans s12 (same_trans s3 s4)
        refine ite2 (fun e => ?_) (fun e => ?_)
        · rw [if_pos e] at k
          exact k H4 s
        · rw [if_neg e] at k
          exact k H4 s
theorem scToldP : FnScope ["_law_heads", "_law_rounds", "_law_found", "e"] ["_law_heads", "_law_rounds"] (defScope sToldP) := ⟨rfl, rfl, rfl, by decide +kernel, rfl, by decide +kernel, by decide +kernel⟩
theorem ok_toldP {f : Addr} {fd : FuncData} (F : Fn K mg "_law_told_part" sToldP ["_law_heads", "_law_rounds"] f fd) (GR : FnOk P w K mg base (L2.CX P w) 3 fR fdR ["self", "heads", "rounds"] (spRInit K CR CB)) (R : RawT K mg CR fE) (RF : RawF K mg CR fR fdR)
    (B : BadT K mg CB fB fdB) (TT : ToldT K mg CB CE) (T : TxB mg) : FnOk P w K mg base CX0 5 f fd ["_law_heads", "_law_rounds"] (spDueP K) := by
  refine F.F.ok scToldP (fun vs H Q E h => ?_) (fun cdv A outer s H vs Q E hr h => ?_)
  · obtain ⟨_, _, _, _, rfl, _⟩ := h
    rfl
  · obtain ⟨vw, vm, wd, mk, rfl, hw, hm, k⟩ := h
    have nd := scToldP.nd
    refine ⟨_, pss_cons (ps_set (i := 2) nd rfl (Or.inl rfl) pe_non)
      (pss_cons (ps_try_as (i := 3) (Wout := fun _ _ _ _ => False) rfl rfl nd rfl rfl ⟨rfl, by decide, Or.inl TT.gE⟩ takes0
        (fun W pn xe tk _ => pss_one (ps_expr (pe_makeS RF.M GR hr (by rfl) R.mgR RF.b (fun σ => passAt tk σ) (pa_cons (pv 0) (pa_cons (pv 1) pa_nil)))))
        (fun a oe cls d pn hz hf => pss_one (ps_set (i := 2) nd rfl (Or.inl rfl) (pe_ifExp (pt_val (pe_callB (call_isES hz hf) (by rfl) T.isinstance (by decide +kernel) (pa_cons (pv 3) (pa_cons (pe_glob (v := .ref CB) (by rfl) B.m rfl) pa_nil))))
          (pe_xf B.err.xf B.no hz hf (pv 3)) pe_str))))
      (pss_one (ps_ret (pv 2)))), ?_⟩
    refine ⟨_, rfl, _, rfl, fun x dx nx ndx nex => ?_⟩
    have s1 : Same H (upd (upd H dx (.own x)) x (.ins CR dx [])) := fun b o e => by rw [upd_ne (ne_of_none e nx), upd_ne (ne_of_none e ndx)]; exact e
    refine ⟨x, dx, vw, vm, wd, mk, rfl, upd_same, hw.same s1, hm.same s1, fun e H' hs rs e1 e2 off hl => ⟨rfl, ?_⟩, fun part e d H' s2 nd2 hd => ?_⟩
    · have q := k H' (fun b o eb => off b o (ne_of_none eb nx) (s1 b o eb))
      rw [e] at q
      exact ⟨_, rfl, q⟩
    · have q := k H' (fun b o eb => s2 b o (ne_of_none eb nx) (s1 b o eb))
      rw [e] at q
      refine ⟨true, TT.exm, fun _ a0 ha0 => ?_, fun z => nomatch z⟩
      refine ⟨_, rfl, CB, d, _, .ref CB, .ref CB, _, rfl, rfl, rfl, hd, .own _, B.err, TT.k1, _, rfl, ?_⟩
      refine iteT ?_
      refine ⟨_, rfl, rfl, rfl, d, _, .str part, rfl, hd, rfl, ?_⟩
      exact ⟨_, rfl, q⟩
end
end K03

set_option Elab.async false
set_option linter.all false
set_option maxRecDepth 100000
set_option maxHeartbeats 8000000
namespace K03
open PySem L2
abbrev sDueLot : Stmt := top 39
def DueV (H : Hp) : Option (Str × List Nat) → V → Prop
  | none, v => v = .non
  | some (z, kept), v => ∃ a t, v = .ref a ∧ H a = some (.tup [.str z, .ref t]) ∧ H t = some (.tup (kept.map nI))
def spDueLot (K : PySem.W.Frag) : Sp := fun vs H Q _ => ∃ (v : V) (hs rs : List Bool) (o : Option (Str × List Nat)), vs = [v] ∧ RawSp K H v hs rs ∧ RawOk hs rs ∧ Due (rawB hs rs) o ∧ ∀ v' H', Same H H' → DueV H' o v' → Q v' H'
theorem due_none {f : Nat → Bool} (one : f 1 = true) {o : Option (Str × List Nat)} (D : Due f o) (h0 : f 0 = false) {i j : Nat} (fi : f (i + 1) = true) (fj : f (j + 1) = true) (n : f (i + j + 1) = false) : o = none := by
  cases D with
  | free h => exact (tf (h 0) h0).elim
  | loan h h' => exact (tf h h0).elim
  | none0 h0 a b => rfl
  | none1 h0 i j hi hj fi fj n => rfl
  | once h0 h =>
    have i0 : i = 0 := Classical.byContradiction fun z => tf fi (h (i + 1) (by omega))
    have j0 : j = 0 := Classical.byContradiction fun z => tf fj (h (j + 1) (by omega))
    subst i0; subst j0
    exact (tf one n).elim
  | more h0 c M0 kept k => exact (tf (c i j fi fj) n).elim
theorem Gens.keptOf {M found : List Nat} {sums : List Bool} {n : Nat} (h : Gens M found sums n) (hp : ∀ x ∈ M, 0 < x) (hl : ∀ x, IsGen M x → x ≤ n) : Kept found M := by
  have mem : ∀ x, x ∈ found ↔ IsGen M x := fun x => by rw [h.mem]; exact ⟨fun z => z.1, fun z => ⟨z, hl x z⟩⟩
  have all : ∀ n, Sm M n → Sm found n := fun n => by
    induction n using Nat.strongRecOn with | _ n ih =>
      intro s
      rcases Nat.eq_zero_or_pos n with e | e
      · rw [e]; exact .zero
      · obtain ⟨g, hg, gl, gs⟩ := gen_in hp s e
        have := Sm.add (ih (n - g) (by have := hg.1; omega) gs) ((mem g).mpr hg)
        rwa [Nat.sub_add_cancel gl] at this
  refine ⟨h.asc, fun x hx => gen_mem ((mem x).mp hx), fun x hx => all x (.one hx), fun x hx z => ((mem x).mp hx).2.2 (z.mono fun y hy => ?_)⟩
  have hy2 := List.mem_filter.mp hy
  exact List.mem_filter.mpr ⟨gen_mem ((mem y).mp hy2.1), hy2.2⟩
theorem due_zero {hs rs : List Bool} {f : Nat → Bool} (hf : rawB hs rs = f) {o : Option (Str × List Nat)} (D : Due f o) (h0 : f 0 = true) :
    (((rawL hs rs 61).drop 2).any id = true ∧ (rawL hs rs 61).all id = true ∧ o = some (("free" : Str), [])) ∨ (((rawL hs rs 61).drop 2).any id = false ∧ (rawL hs rs 61).all id = false ∧ o = some (("loan" : Str), [])) ∨ (((rawL hs rs 61).drop 2).any id = true ∧ (rawL hs rs 61).all id = false ∧ o = none) := by
  have al : (∀ n, n < 61 → f n = true) → (rawL hs rs 61).all id = true := fun h => by
    rw [List.all_eq_true]
    intro x hx
    obtain ⟨n, hn, rfl⟩ := List.mem_map.mp hx
    rw [hf]
    exact h n (List.mem_range.mp hn)
  have nal : (∃ n, n < 61 ∧ f n = false) → (rawL hs rs 61).all id = false := fun ⟨n, hn, e⟩ => by
    cases q : (rawL hs rs 61).all id with
    | false => rfl
    | true =>
      have := List.all_eq_true.mp q (f n) (by rw [← hf]; exact List.mem_map.mpr ⟨n, List.mem_range.mpr hn, rfl⟩)
      exact (tf this e).elim
  have dr : ∀ n, 2 ≤ n → n < 61 → f n ∈ (rawL hs rs 61).drop 2 := fun n n2 n61 => by
    refine List.mem_iff_getElem?.mpr ⟨n - 2, ?_⟩
    rw [List.getElem?_drop, show 2 + (n - 2) = n by omega, rawL_get n61, hf]
  have an : (∃ n, 2 ≤ n ∧ n < 61 ∧ f n = true) → ((rawL hs rs 61).drop 2).any id = true := fun ⟨n, n2, n61, e⟩ => List.any_eq_true.mpr ⟨f n, dr n n2 n61, e⟩
  have nan : (∀ n, 2 ≤ n → f n = false) → ((rawL hs rs 61).drop 2).any id = false := fun h => by
    cases q : ((rawL hs rs 61).drop 2).any id with
    | false => rfl
    | true =>
      obtain ⟨b, hb, e⟩ := List.any_eq_true.mp q
      obtain ⟨i, hi⟩ := List.mem_iff_getElem?.mp hb
      rw [List.getElem?_drop] at hi
      have lt : 2 + i < 61 := by
        have lt61 := (List.getElem?_eq_some_iff.mp hi).1; have := lt61
        rwa [rawL_len] at this
      rw [rawL_get lt, hf] at hi
      have : b = f (2 + i) := (Option.some.inj hi).symm
      rw [this] at e
      exact (tf e (h (2 + i) (by omega))).elim
  cases D with
  | free h => exact .inl ⟨an ⟨2, by decide, by decide, h 2⟩, al fun n _ => h n, rfl⟩
  | loan h0 h => exact .inr (.inl ⟨nan h, nal ⟨2, by decide, h 2 (by decide)⟩, rfl⟩)
  | none0 h0 a b =>
    obtain ⟨n, n1, n2⟩ := a
    obtain ⟨m, m1, m2, m3⟩ := b
    exact .inr (.inr ⟨an ⟨m, m1, by omega, m3⟩, nal ⟨n, by omega, n2⟩, rfl⟩)
  | none1 h i j hi hj fi fj n => exact (tf h0 h).elim
  | once h h' => exact (tf h0 h).elim
  | more h c M0 kept k => exact (tf h0 h).elim
theorem due_found {f : Nat → Bool} {p : Nat} (P : Per f p) {o : Option (Str × List Nat)} (D : Due f o) (h0 : f 0 = false) (c : Closed f) {found : List Nat} {sums : List Bool} (g : Gens (mk66 f) found sums 59) : (0 < found.length ∧ o = some (("more" : Str), found)) ∨ (found = [] ∧ o = some (("once" : Str), [])) := by
  have pos : ∀ x ∈ mk66 f, 0 < x := fun x hx => (mem_mk.mp hx).1
  have kp := g.keptOf pos fun x hx => P.gens c hx
  cases D with
  | free h => exact (tf (h 0) h0).elim
  | loan h h' => exact (tf h h0).elim
  | none0 h a b => exact (tf h h0).elim
  | none1 h0 i j hi hj fi fj n => exact (tf (c i j fi fj) n).elim
  | once h0 h =>
    refine .inr ⟨List.eq_nil_of_length_eq_zero (Classical.byContradiction fun z => ?_), rfl⟩
    obtain ⟨m, hm⟩ := List.exists_mem_of_length_pos (Nat.pos_of_ne_zero z)
    obtain ⟨a, _, b⟩ := mem_mk.mp (kp.sub m hm)
    exact tf b (h (m + 1) (by omega))
  | more h0 c' M0 kept k =>
    refine .inl ⟨Classical.byContradiction fun z => ?_, by rw [k found kp]⟩
    obtain ⟨m, hm⟩ := List.exists_mem_of_length_pos M0
    have e : found = [] := List.eq_nil_of_length_eq_zero (by omega)
    have s := kp.all m hm
    rw [e] at s
    obtain ⟨x, hx, _⟩ := s.last (pos m hm) (fun m hm => by cases hm)
    cases hx
section
variable {P : Program} {w : World} {K : PySem.W.Frag} {mg : Str → Option Value} {base : Heap}
theorem scDueLot : FnScope ["_law_spec", "_law_flags", "_law_one", "_law_other", "_law_makers"] ["_law_spec"] (defScope sDueLot) := ⟨rfl, rfl, rfl, by decide +kernel, rfl, by decide +kernel, by decide +kernel⟩
theorem ok_dueLot {f fT fL : Addr} {fd fdT fdL : FuncData} (F : Fn K mg "_law_due_lot" sDueLot ["_law_spec"] f fd) (NT : Fn K mg "_law_told_numbers" sTold ["_law_spec", "_law_most"] fT fdT) (GT : FnOk P w K mg base CX0 2 fT fdT ["_law_spec", "_law_most"] (spToldR K))
    (NL : Fn K mg "_law_least_makers" sLeast ["_law_flags"] fL fdL) (GL : FnOk P w K mg base CX0 1 fL fdL ["_law_flags"] (spLeast K)) (T : TxB mg) (T2 : TxD mg) : FnOk P w K mg base CX0 3 f fd ["_law_spec"] (spDueLot K) := by
  refine F.F.ok scDueLot (fun vs H Q E h => ?_) (fun cdv A outer s H vs Q E hr h => ?_)
  · obtain ⟨_, _, _, _, rfl, _⟩ := h
    rfl
  · obtain ⟨v, hs, rs, o, rfl, hsp, ok, due, k⟩ := h
    have nd := scDueLot.nd
    have hu := hu_of hr
    have hr1 := hr.mono (show 1 ≤ 2 by decide)
    refine ⟨_, pss_cons (ps_set (i := 1) nd rfl (Or.inl rfl) (pe_call GT hr (by rfl) NT.m NT.F.kp NT.b .nil pass0 (pa_cons (pv 0) (pa_cons pe_int pa_nil))))
      (pss_cons (ps_if (pt_val (pe_ix (ix_list : IxR _ (rIxL K)) (pv 1) pe_int (fun _ _ => rfl)))
        (pss_one (ps_ret (pe_ix (ix_list : IxR _ (rIxL K)) (pe_lst (pa_cons pe_non (pa_cons (pe_tup (pa_cons pe_str (pa_cons (pe_tup pa_nil) pa_nil))) (pa_cons (pe_tup (pa_cons pe_str (pa_cons (pe_tup pa_nil) pa_nil))) pa_nil))))
          (pe_op op_add (pe_callTy call_int1 (by rfl) T.int (by decide +kernel) (pa_cons (pe_not (pe_callB (cr_any rfl) (by rfl) T2.any (by decide +kernel) (pa_cons (pe_slice sl_list (pv 1) (po_some pe_int) po_none) pa_nil))) pa_nil))
            (pe_op op_mul pe_int (pe_callTy call_int1 (by rfl) T.int (by decide +kernel) (pa_cons (pe_callB (cr_all rfl) (by rfl) T.all (by decide +kernel) (pa_cons (pv 1) pa_nil)) pa_nil)))) (fun _ _ => rfl)))) pss_nil)
      (pss_cons (ps_for PassesOwn.never rfl (pi_range1 (by rfl) T.range (pa_cons pe_int pa_nil)) (pg_name (i := 2) nd rfl (Or.inl rfl))
        (pss_one (ps_for PassesOwn.never rfl (pi_range1 (by rfl) T.range (pa_cons pe_int pa_nil)) (pg_name (i := 3) nd rfl (Or.inl rfl))
          (pss_one (ps_if (PW.pt (pw_and (pt_val (pe_ix (ix_list : IxR _ (rIxL K)) (pv 1) (pe_op op_add (pv 2) pe_int) (fun _ _ => rfl))) (pw_and (pt_val (pe_ix (ix_list : IxR _ (rIxL K)) (pv 1) (pe_op op_add (pv 3) pe_int) (fun _ _ => rfl)))
            (pw_and1 (pt_not (pt_val (pe_ix (ix_list : IxR _ (rIxL K)) (pv 1) (pe_op op_add (pe_op op_add (pv 2) (pv 3)) pe_int) (fun _ _ => rfl)))))))) (pss_one (ps_ret pe_non)) pss_nil)))))
      (pss_cons (ps_set (i := 4) nd rfl (Or.inl rfl) (pe_call GL hr1 (by rfl) NL.m NL.F.kp NL.b .nil pass0 (pa_cons (pe_op op_cat (pe_lst (pa_cons pe_bl pa_nil)) (pe_slice sl_list (pv 1) (po_some pe_int) po_none)) pa_nil)))
      (pss_one (ps_ret (pe_ifExp (pt_cmpR op_gt (pe_callB call_len (by rfl) T.len PySem.boot_len (pa_cons (pv 4) pa_nil)) pe_int (nomark _)) (pe_tup (pa_cons pe_str (pa_cons (pv 4) pa_nil))) (pe_tup (pa_cons pe_str (pa_cons (pe_tup pa_nil) pa_nil))))))))), ?_⟩
    have h8 := ok.h8
    have r6 := ok.r6
    have PP := ok.per
    refine ⟨_, rfl, v, hs, rs, 60, rfl, hsp, by omega, ok.r1, by omega, by decide, fun fa H1 s1 nfa hfa => ?_⟩
    clear hsp
    have get : ∀ n : Nat, n < 61 → atI ((rawL hs rs (60 + 1)).map V.bl) (n : Int) = some (.bl (rawB hs rs n)) := fun n hn => atI_nat (by rw [List.getElem?_map, rawL_get hn]; rfl)
    have ecut : cutV ((rawL hs rs (60 + 1)).map V.bl) (some 2) none = ((rawL hs rs 61).drop 2).map V.bl := by
      unfold cutV
      rw [HT.sIx_none, show ((2 : Int)) = ((2 : Nat) : Int) from rfl, HT.sIx_nat]
      rw [List.take_of_length_le (by rw [List.length_drop]; exact Nat.le_refl _), ← List.map_drop, List.length_map, rawL_len]
      rfl
    have one := ok.one
    generalize hf : rawB hs rs = f at *
    refine ⟨_, rfl, fa, _, ((0 : Nat) : Int), _, rfl, rfl, SqL.of hfa, get 0 (by decide), _, rfl, ?_⟩
    refine ite2 (fun c => ?_) (fun c => ?_)
    · have h0 : f 0 = true := c
      refine ⟨(by show 0 ≤ sizeLine; decide), fun t1 ht1 => ?_⟩
      have st1 := same_new (o := .tup []) (same_refl H1) ht1
      have ft1 : upd H1 t1 (.tup []) t1 = some (.tup []) := upd_same
      generalize upd H1 t1 (.tup []) = G1 at *
      refine ⟨(by show 2 ≤ sizeLine; decide), fun a1 ha1 => ?_⟩
      have sa1 := same_new (o := .tup [.str "loan", .ref t1]) (same_refl G1) ha1
      have fa1 : upd G1 a1 (.tup [.str "loan", .ref t1]) a1 = some (.tup [.str "loan", .ref t1]) := upd_same
      generalize upd G1 a1 (.tup [.str "loan", .ref t1]) = G2 at *
      refine ⟨(by show 0 ≤ sizeLine; decide), fun t2 ht2 => ?_⟩
      have st2 := same_new (o := .tup []) (same_refl G2) ht2
      have ft2 : upd G2 t2 (.tup []) t2 = some (.tup []) := upd_same
      generalize upd G2 t2 (.tup []) = G3 at *
      refine ⟨(by show 2 ≤ sizeLine; decide), fun a2 ha2 => ?_⟩
      have sa2 := same_new (o := .tup [.str "free", .ref t2]) (same_refl G3) ha2
      have fa2 : upd G3 a2 (.tup [.str "free", .ref t2]) a2 = some (.tup [.str "free", .ref t2]) := upd_same
      generalize upd G3 a2 (.tup [.str "free", .ref t2]) = G4 at *
      refine ⟨(by show 3 ≤ sizeLine; decide), fun l hl => ?_⟩
      have sl := same_new (o := .lst [.non, .ref a1, .ref a2]) (same_refl G4) hl
      have fl : upd G4 l (.lst [.non, .ref a1, .ref a2]) l = some (.lst [.non, .ref a1, .ref a2]) := upd_same
      generalize upd G4 l (.lst [.non, .ref a1, .ref a2]) = G5 at *
      have s5 : Same H1 G5 := same_trans (same_trans (same_trans (same_trans st1 sa1) st2) sa2) sl
      have b1 : G5 a1 = some (.tup [.str "loan", .ref t1]) := sl _ _ (sa2 _ _ (st2 _ _ fa1))
      have b2 : G5 t1 = some (.tup []) := sl _ _ (sa2 _ _ (st2 _ _ (sa1 _ _ ft1)))
      have b3 : G5 a2 = some (.tup [.str "free", .ref t2]) := sl _ _ fa2
      have b4 : G5 t2 = some (.tup []) := sl _ _ (sa2 _ _ ft2)
      refine ⟨_, rfl, 2, rfl, fa, _, rfl, SqL.of (s5 _ _ hfa), fun sl2 hsl2 => ?_⟩
      rw [ecut]
      have s6 := same_new (o := .lst (((rawL hs rs 61).drop 2).map V.bl)) (same_refl G5) hsl2
      have f6 : upd G5 sl2 (.lst (((rawL hs rs 61).drop 2).map V.bl)) sl2 = some (.lst (((rawL hs rs 61).drop 2).map V.bl)) := upd_same
      generalize upd G5 sl2 (.lst (((rawL hs rs 61).drop 2).map V.bl)) = G6 at *
      have s16 := same_trans s1 (same_trans s5 s6)
      refine ⟨sl2, _, rfl, SqL.of f6, _, rfl, .inr ⟨_, rfl, _, rfl, fa, _, rfl, SqL.of (s6 _ _ (s5 _ _ hfa)), .inr ⟨_, rfl, _, _, rfl, rfl, .inl ⟨by decide, by decide⟩, _, _, rfl, rfl, ?_⟩⟩⟩
      rcases due_zero hf due h0 with ⟨q1, q2, q3⟩ | ⟨q1, q2, q3⟩ | ⟨q1, q2, q3⟩
      · refine ⟨l, _, ((2 : Nat) : Int), .ref a2, rfl, ?_, SqL.of (s6 _ _ fl), atI_nat rfl, k _ _ s16 ?_⟩
        · rw [q1, q2]; rfl
        · rw [q3]; exact ⟨a2, t2, rfl, s6 _ _ b3, s6 _ _ b4⟩
      · refine ⟨l, _, ((1 : Nat) : Int), .ref a1, rfl, ?_, SqL.of (s6 _ _ fl), atI_nat rfl, k _ _ s16 ?_⟩
        · rw [q1, q2]; rfl
        · rw [q3]; exact ⟨a1, t1, rfl, s6 _ _ b1, s6 _ _ b2⟩
      · refine ⟨l, _, ((0 : Nat) : Int), .non, rfl, ?_, SqL.of (s6 _ _ fl), atI_nat rfl, k _ _ s16 ?_⟩
        · rw [q1, q2]; rfl
        · rw [q3]; rfl
    · have h0 : f 0 = false := by cases q : f 0 with
        | false => rfl
        | true => exact absurd q c
      refine ⟨20, rfl, by decide, by decide, for_range (lo := 0) (n := (20 : Int).toNat) (fun i σ H' => ∃ t2 t3 : Option V, σ = [some v, some (.ref fa), t2, t3, none] ∧ H' = H1 ∧ ∀ a b, a < i → b < 20 → f (a + 1) = true → f (b + 1) = true → f (a + b + 1) = true) ⟨none, none, rfl, rfl, fun a b z => absurd z (Nat.not_lt_zero a)⟩ ?_ ?_⟩
      · rintro i σ H' hi ⟨t2, t3, rfl, rfl, q1⟩
        have hi2 : i < 20 := hi
        refine ⟨20, rfl, by decide, by decide, for_range (lo := 0) (n := (20 : Int).toNat) (fun j σ H'' => ∃ t3 : Option V, σ = [some v, some (.ref fa), some (.int (0 + (i : Int))), t3, none] ∧ H'' = H' ∧ ∀ b, b < j → f (i + 1) = true → f (b + 1) = true → f (i + b + 1) = true) ⟨t3, rfl, rfl, fun b z => absurd z (Nat.not_lt_zero b)⟩ ?_ ?_⟩
        · rintro j σ H'' hj ⟨t3, rfl, rfl, q2⟩
          have hj2 : j < 20 := hj
          have next : (f (i + 1) = true → f (j + 1) = true → f (i + j + 1) = true) → ∀ b, b < j + 1 → f (i + 1) = true → f (b + 1) = true → f (i + b + 1) = true := fun z b hb => by
            rcases Nat.lt_or_ge b j with lt | ge
            · exact q2 b lt
            · rw [show b = j by omega]; exact z
          refine ⟨_, rfl, _, rfl, _, _, rfl, rfl, fa, _, ((i + 1 : Nat) : Int), _, rfl, (by show V.int (0 + (i : Int) + 1) = V.int ((i + 1 : Nat) : Int); rw [show (0 : Int) + (i : Int) + 1 = ((i + 1 : Nat) : Int) by omega]), SqL.of hfa, get (i + 1) (by omega), _, rfl, ?_⟩
          refine ite2 (fun c1 => ?_) (fun c1 => ?_)
          · refine ⟨_, rfl, _, rfl, _, _, rfl, rfl, fa, _, ((j + 1 : Nat) : Int), _, rfl, (by show V.int (0 + (j : Int) + 1) = V.int ((j + 1 : Nat) : Int); rw [show (0 : Int) + (j : Int) + 1 = ((j + 1 : Nat) : Int) by omega]), SqL.of hfa, get (j + 1) (by omega), _, rfl, ?_⟩
            refine ite2 (fun c2 => ?_) (fun c2 => ?_)
            · refine ⟨_, rfl, _, rfl, _, rfl, _, _, rfl, rfl, _, _, rfl, rfl, fa, _, ((i + j + 1 : Nat) : Int), _, rfl, (by show V.int (0 + (i : Int) + (0 + (j : Int)) + 1) = V.int ((i + j + 1 : Nat) : Int); rw [show (0 : Int) + (i : Int) + (0 + (j : Int)) + 1 = ((i + j + 1 : Nat) : Int) by omega]), SqL.of hfa, get (i + j + 1) (by omega), _, rfl, ?_⟩
              refine ite2 (fun c3 => ?_) (fun c3 => ?_)
              · have c4 : f (i + j + 1) = false := by simpa using c3
                have e := due_none one due h0 c1 c2 c4
                refine k _ _ s1 ?_
                rw [e]; rfl
              · have c4 : f (i + j + 1) = true := by simpa using c3
                exact ⟨_, rfl, rfl, next fun _ _ => c4⟩
            · exact ⟨_, rfl, rfl, next fun _ z => absurd z c2⟩
          · exact ⟨_, rfl, rfl, next fun z => absurd z c1⟩
        · rintro σ H'' ⟨t3, rfl, rfl, q2⟩
          refine ⟨_, _, rfl, rfl, fun a b ha hb => ?_⟩
          rcases Nat.lt_or_ge a i with lt | ge
          · exact q1 a b lt hb
          · rw [show a = i by omega]; exact q2 b hb
      · rintro σ H' ⟨t2, t3, rfl, rfl, q1⟩
        have cl : Closed f := PP.closed fun i hi j hj fi fj => q1 i j hi hj fi fj
        refine ⟨(by show 1 ≤ sizeLine; decide), fun l0 hl0 => ?_⟩
        have s3 := same_new (o := .lst [.bl false]) (same_refl H') hl0
        have f3 : upd H' l0 (.lst [.bl false]) l0 = some (.lst [.bl false]) := upd_same
        generalize upd H' l0 (.lst [.bl false]) = G3 at *
        refine ⟨_, rfl, 2, rfl, fa, _, rfl, SqL.of (s3 _ _ hfa), fun sl hsl => ?_⟩
        rw [ecut]
        have s4 := same_new (o := .lst (((rawL hs rs 61).drop 2).map V.bl)) (same_refl G3) hsl
        have f4 : upd G3 sl (.lst (((rawL hs rs 61).drop 2).map V.bl)) sl = some (.lst (((rawL hs rs 61).drop 2).map V.bl)) := upd_same
        generalize upd G3 sl (.lst (((rawL hs rs 61).drop 2).map V.bl)) = G4 at *
        refine ⟨l0, sl, _, _, rfl, rfl, s4 _ _ f3, f4, (by rw [List.length_map, List.length_drop, rawL_len]; exact Nat.le_of_lt (Nat.lt_of_le_of_lt (m := 60) (by decide) (by decide))), fun cl2 hcl => ?_⟩
        have e6 : [V.bl false] ++ ((rawL hs rs 61).drop 2).map V.bl = (false :: (rawL hs rs 61).drop 2).map V.bl := rfl
        rw [e6]
        have s6 := same_new (o := .lst ((false :: (rawL hs rs 61).drop 2).map V.bl)) (same_trans s3 s4) hcl
        have f6 : upd G4 cl2 (.lst ((false :: (rawL hs rs 61).drop 2).map V.bl)) cl2 = some (.lst ((false :: (rawL hs rs 61).drop 2).map V.bl)) := upd_same
        generalize upd G4 cl2 (.lst ((false :: (rawL hs rs 61).drop 2).map V.bl)) = G6 at *
        refine ⟨cl2, _, mk66 f, 59, rfl, f6, by rw [List.length_cons, List.length_drop, rawL_len], by decide, fun x hx => (mem_mk.mp hx).1, fun i i1 i2 => ?_, fun found sums p H7 hg s7 _ hp => ?_⟩
        · obtain ⟨j, rfl⟩ : ∃ j, i = j + 1 := ⟨i - 1, by omega⟩
          rw [List.getElem?_cons_succ, List.getElem?_drop, rawL_get (by omega), hf, smB_closed one cl (by omega), show 2 + j = j + 1 + 1 by omega]
        have s17 := same_trans s1 (same_trans s6 s7)
        refine ⟨_, rfl, _, _, rfl, .inr ⟨_, SqT.of hp, rfl⟩, _, _, rfl, rfl, _, rfl, ?_⟩
        rw [List.length_map]
        rcases due_found PP due h0 cl hg with ⟨n, e⟩ | ⟨n, e⟩
        · refine ifT (decide_eq_true (by omega)) ?_
          refine ⟨_, rfl, (by show 2 ≤ sizeLine; decide), fun a ha => ?_⟩
          have s8 := same_new (o := .tup [.str "more", .ref p]) (same_refl H7) ha
          refine k _ _ (same_trans s17 s8) ?_
          rw [e]
          exact ⟨a, p, rfl, upd_same, s8 _ _ hp⟩
        · refine ifF (decide_eq_false (by rw [n]; show ¬ ((0 : Nat) : Int) > 0; omega)) ?_
          refine ⟨(by show 0 ≤ sizeLine; decide), fun t ht => ?_⟩
          have s8 := same_new (o := .tup []) (same_refl H7) ht
          have f8 : upd H7 t (.tup []) t = some (.tup []) := upd_same
          generalize upd H7 t (.tup []) = G8 at *
          refine ⟨(by show 2 ≤ sizeLine; decide), fun a ha => ?_⟩
          have s9 := same_new (o := .tup [.str "once", .ref t]) (same_refl G8) ha
          refine k _ _ (same_trans s17 (same_trans s8 s9)) ?_
          rw [e]
          exact ⟨a, t, rfl, upd_same, s9 _ _ f8⟩
end
end K03

set_option Elab.async false
set_option linter.all false
set_option maxRecDepth 100000
set_option maxHeartbeats 4100000
namespace K03
open PySem L2
abbrev sRight : Stmt := top 40
theorem trq_flat {H : Hp} {n : Nat} {v : V} (h : fl v = true) : TrQ H (n + 1) v v := .inl ⟨h, rfl⟩
theorem trq_nats {H : Hp} {n : Nat} {a b : Addr} {l : List Nat} (h1 : H a = some (.tup (l.map nI))) (h2 : H b = some (.tup (l.map nI))) (hl : l.length ≤ 1000) : TrQ H (n + 2) (.ref a) (.ref b) := by
  refine .inr ⟨a, b, _, _, rfl, rfl, .inr ⟨h1, h2⟩, rfl, by rw [List.length_map]; exact hl, fun i u v e e' => ?_⟩
  rw [e] at e'
  cases e'
  rw [List.getElem?_map] at e
  cases q : l[i]? with
  | none => simp [q] at e
  | some m => rw [q] at e; cases e; exact trq_flat rfl
theorem trq_one {H : Hp} {n : Nat} {a b : Addr} {u v : V} (h1 : H a = some (.lst [u])) (h2 : H b = some (.lst [v])) (h : TrQ H n u v) : TrQ H (n + 1) (.ref a) (.ref b) := by
  refine .inr ⟨a, b, _, _, rfl, rfl, .inl ⟨h1, h2⟩, rfl, (by show 1 ≤ 1000; decide), fun i x y e e' => ?_⟩
  match i, e, e' with
  | 0, e, e' => cases e; cases e'; exact h
theorem kept_len {kept M : List Nat} (h : Kept kept M) (hp : ∀ m ∈ M, m ≤ 100) : kept.length ≤ 101 := by
  have key : ∀ (l : List Nat) (k : Nat), l.Pairwise (· < ·) → (∀ x ∈ l, k ≤ x ∧ x ≤ 100) → l.length + k ≤ 101 ∨ l = [] := by
    intro l
    induction l with
    | nil => intro k _ _; exact .inr rfl
    | cons a l ih =>
      intro k hp hb
      have hp' := (List.pairwise_cons).mp hp
      have ha := hb a List.mem_cons_self
      rcases ih (a + 1) hp'.2 (fun x hx => ⟨hp'.1 x hx, (hb x (List.mem_cons_of_mem _ hx)).2⟩) with h | h
      · left; rw [List.length_cons]; omega
      · left; subst h; show 1 + k ≤ 101; omega
  rcases key kept 0 h.asc (fun x hx => ⟨Nat.zero_le _, hp x (h.sub x hx)⟩) with h | h
  · omega
  · rw [h]; exact Nat.zero_le _

def spRight (K : PySem.W.Frag) : Sp := fun vs H Q _ => ∃ (v : V) (hs rs : List Bool), vs = [v] ∧ RawSp K H v hs rs ∧ RawOk hs rs ∧ ∀ H', Same H H' → Q (.bl true) H'
theorem LotAt.short {CL CS : Addr} {H : Hp} {x : Addr} {z : Str} {M : List Nat} {t : Addr} {kept : List Nat} (h : LotAt CL CS H x z M t kept) : kept.length ≤ 101 := by
  cases h with
  | plain dx n ob mk k0 m0 => rw [k0]; exact Nat.zero_le _
  | more dx s la a L far n ob so p M0 => exact kept_len so.kp fun m hm => (p m hm).2
section
variable {P : Program} {w : World} {K : PySem.W.Frag} {mg : Str → Option Value} {base : Heap} {CL CS CR aW fE : Addr}
theorem scRight : FnScope ["_law_spec", "_law_lot", "_law_due"] ["_law_spec"] (defScope sRight) := ⟨rfl, rfl, rfl, by decide +kernel, rfl, by decide +kernel, by decide +kernel⟩
theorem ok_right {f fA fT fD fI : Addr} {fd fdA fdT fdD fdI : FuncData} (F : Fn K mg "_law_right" sRight ["_law_spec"] f fd)
    (NA : Fn K mg "_law_any_lot" sAny ["_law_spec"] fA fdA) (GA : FnOk P w K mg base CX0 5 fA fdA ["_law_spec"] (spAny K CR))
    (NT : Fn K mg "told_lot" sToldLot ["raw"] fT fdT) (GT : FnOk P w K mg base CX0 9 fT fdT ["raw"] (spToldLot K CL CS CR))
    (ND : Fn K mg "_law_due_lot" sDueLot ["_law_spec"] fD fdD) (GD : FnOk P w K mg base CX0 3 fD fdD ["_law_spec"] (spDueLot K))
    (NI : Fn K mg "_law_is" sIs ["_law_told", "_law_due"] fI fdI) (GI : FnOk P w K mg base CX0 4 fI fdI ["_law_told", "_law_due"] (spQ K 3))
    (T : TxB mg) (L : LotT K mg CL aW fE) (LK : LotK K CL) : FnOk P w K mg base CX0 10 f fd ["_law_spec"] (spRight K) := by
  refine F.F.ok scRight (fun vs H Q E h => ?_) (fun cdv A outer s H vs Q E hr h => ?_)
  · obtain ⟨_, _, _, rfl, _⟩ := h
    rfl
  · obtain ⟨v, hs, rs, rfl, hsp, ok, k⟩ := h
    have nd := scRight.nd
    have hu := hu_of hr
    have hr3 := hr.mono (show 3 ≤ 9 by decide)
    have hr4 := hr.mono (show 4 ≤ 9 by decide)
    have hr5 := hr.mono (show 5 ≤ 9 by decide)
    obtain ⟨o, due⟩ := due_all ok.per
    refine ⟨_, pss_cons (ps_set (i := 1) nd rfl (Or.inl rfl) (pe_call GT hr (by rfl) NT.m NT.F.kp NT.b .nil pass0 (pa_cons (pe_call GA hr5 (by rfl) NA.m NA.F.kp NA.b .nil pass0 (pa_cons (pv 0) pa_nil)) pa_nil)))
      (pss_cons (ps_set (i := 2) nd rfl (Or.inl rfl) (pe_call GD hr3 (by rfl) ND.m ND.F.kp ND.b .nil pass0 (pa_cons (pv 0) pa_nil)))
      (pss_cons (ps_if (PW.pt (pw_or (pt_cmpR op_isN (pv 1) pe_non (nomark _)) (pw_or1 (pt_cmpR op_isN (pv 2) pe_non (nomark _))))) (pss_one (ps_ret (pe_and (pe_cmpR op_isN (pv 1) pe_non (nomark _)) (pe_one (pe_cmpR op_isN (pv 2) pe_non (nomark _)))))) pss_nil)
      (pss_one (ps_ret (pe_and (pe_callB call_isi (by rfl) T.isinstance (by decide +kernel) (pa_cons (pv 1) (pa_cons (pe_glob (v := .ref CL) (by rfl) L.mgL rfl) pa_nil)))
        (pe_and (pe_cmpR op_eq (pe_fld (pv 1) rfl) (pe_ix ix_tup (pv 2) pe_int (fun _ _ => rfl)) (nomark _)) (pe_one (pe_call GI hr4 (by rfl) NI.m NI.F.kp NI.b .nil pass0 (pa_cons (pe_fld (pv 1) rfl) (pa_cons (pe_ix ix_tup (pv 2) pe_int (fun _ _ => rfl)) pa_nil)))))))))), ?_⟩
    refine ⟨_, rfl, v, hs, rs, rfl, hsp, ok, fun x H1 s1 nx hx => ?_⟩
    refine ⟨x, hs, rs, o, rfl, hx, due, fun v1 H2 s2 h1 => ?_⟩
    refine ⟨_, rfl, v, hs, rs, o, rfl, hsp.same (same_trans s1 s2), ok, due, fun v2 H3 s3 h2 => ?_⟩
    have s13 := same_trans s1 (same_trans s2 s3)
    cases o with
    | none =>
      have e1 : v1 = .non := h1
      have e2 : v2 = .non := h2
      subst e1 e2
      refine ⟨_, rfl, rfl, _, rfl, ?_⟩
      refine ifT rfl ?_
      refine ifT rfl ?_
      refine ⟨_, rfl, rfl, _, rfl, ?_⟩
      refine ifT rfl ?_
      exact ⟨_, rfl, rfl, k H3 s13⟩
    | some o =>
      obtain ⟨z, kept⟩ := o
      obtain ⟨x1, t1, M, rfl, hl⟩ := h1
      obtain ⟨a, t2, rfl, ha, ht⟩ := h2
      replace hl := hl.same s3
      obtain ⟨dx, sv, ob, mk⟩ := hl.fields
      have hlen := hl.short
      refine ⟨_, rfl, rfl, _, rfl, ?_⟩
      refine ifF rfl ?_
      refine ⟨_, rfl, rfl, _, rfl, ?_⟩
      refine ifF rfl ?_
      refine ⟨_, rfl, _, _, _, _, _, rfl, .own _, .base (.ins ob L.cl L.ha L.cg L.cTk L.ow.ob), LK.me, _, rfl, ?_⟩
      refine iteT ?_
      refine ⟨_, rfl, x1, CL, dx, _, _, rfl, ob, L.cl, L.nW, lf_word, _, rfl, a, _, _, _, rfl, rfl, SqT.of ha, rfl, rfl, _, rfl, ?_⟩
      refine ite2 (fun _ => ?_) (fun c => absurd (decide_eq_true rfl) c)
      refine ⟨_, rfl, x1, CL, dx, _, _, rfl, ob, L.cl, L.nM, lf_makers, _, rfl, a, _, _, _, rfl, rfl, SqT.of ha, rfl, _, _, rfl, (trq_nats (n := 1) mk ht (by omega)), fun H4 s4 => ?_⟩
      exact k H4 (same_trans s13 s4)
end
end K03

set_option Elab.async false
set_option linter.all false
set_option maxRecDepth 100000
set_option maxHeartbeats 8000000
namespace K03
open PySem L2
abbrev sBent : Stmt := top 41
theorem rsl {K : PySem.W.Frag} {G : Hp} {a : Addr} {bs : List Bool} {lo hi : Option Int} {Q : VK} (h : SqT K G a (bs.map V.bl)) (k : ∀ (b : Addr) (G' : Hp) (bs' : List Bool), Same G G' → SqT K G' b (bs'.map V.bl) → bs'.length ≤ bs.length → Q (.ref b) G') : rSlA K (.ref a) lo hi G Q := by
  refine ⟨a, _, rfl, h, fun _ => k a G bs (same_refl G) h (Nat.le_refl _), fun _ p hp => ?_⟩
  obtain ⟨bs', e, l⟩ : ∃ bs' : List Bool, cutV (bs.map V.bl) lo hi = bs'.map V.bl ∧ bs'.length ≤ bs.length := by
    unfold cutV
    refine ⟨(bs.drop _).take _, by rw [List.map_take, List.map_drop], ?_⟩
    rw [List.length_take, List.length_drop]; omega
  rw [e]
  exact k p _ bs' (same_new (same_refl G) hp) (SqT.of upd_same) l
theorem rcat {K : PySem.W.Frag} {G : Hp} {a b : Addr} {xs ys : List V} {Q : VK} (ha : SqT K G a xs) (hb : SqT K G b ys) (l : xs.length + ys.length ≤ 1000) (k : ∀ q G', Same G G' → SqT K G' q (xs ++ ys) → Q (.ref q) G') : rCatA K (.ref a) (.ref b) G Q :=
  ⟨a, b, xs, ys, rfl, rfl, ha, hb, Nat.le_of_lt (small1000 (by omega)), fun e => k b G (same_refl G) (by rw [e]; exact hb), fun _ e => k a G (same_refl G) (by rw [e, List.append_nil]; exact ha), fun _ _ p hp => k p _ (same_new (same_refl G) hp) (SqT.of upd_same)⟩
theorem sqt_del {K : PySem.W.Frag} {G : Hp} {b p : Addr} {xs l : List V} (h : SqT K G b xs) (hp : G p = some (.lst l)) : SqT K (del G p) b xs := by
  rcases h with h | h
  · refine .inl ?_
    rcases h with h | ⟨u, h⟩
    · refine .inl ?_
      rw [del_ne (ne_of h hp (fun z => by cases z))]; exact h
    · refine .inr ⟨u, ?_⟩
      rw [del_ne (ne_of h hp (fun z => by cases z))]; exact h
  · exact .inr h
theorem Fis.nil {K : PySem.W.Frag} {G : Hp} : Fis K G [] [] := ⟨rfl, fun i o y h => by simp at h⟩
theorem Fis.cons {K : PySem.W.Frag} {G : Hp} {o : Option Bool} {y : V} {os : List (Option Bool)} {ys : List V} (h : FiAt K G o y) (t : Fis K G os ys) : Fis K G (o :: os) (y :: ys) := by
  refine ⟨by rw [List.length_cons, List.length_cons, t.1], fun i a b h1 h2 => ?_⟩
  cases i with
  | zero => cases h1; cases h2; exact h
  | succ i => exact t.2 i a b h1 h2
theorem Fis.bls {K : PySem.W.Frag} {G : Hp} {os : List (Option Bool)} {ys : List V} (t : Fis K G os ys) : ∀ bs : List Bool, Fis K G (bs.map some ++ os) (bs.map V.bl ++ ys)
  | [] => t
  | b :: bs => .cons rfl (Fis.bls t bs)
section
variable {K : PySem.W.Frag} {G : Hp}
theorem nt_non : Nt K G .non "bool" := ⟨_, .base .non, kit_ty (r := false) (by decide +kernel)⟩
theorem nt_int (i : Int) : Nt K G (.int i) "bool" := ⟨_, .base (.int i), kit_ty (r := false) (by decide +kernel)⟩
theorem nt_str (z : Str) : Nt K G (.str z) "bool" := ⟨_, .base (.str z), kit_ty (r := false) (by decide +kernel)⟩
theorem nt_tup {a : Addr} {xs : List V} (h : G a = some (.tup xs)) : Nt K G (.ref a) "bool" := ⟨_, .base (.tup h), kit_ty (r := false) (by decide +kernel)⟩
theorem nt_lst {a : Addr} {xs : List V} (h : G a = some (.lst xs)) : Nt K G (.ref a) "bool" := ⟨_, .base (.lst h), kit_ty (r := false) (by decide +kernel)⟩
theorem fg_non : FgAt K G none .non := ⟨_, .base .non, kit_ty (r := false) (by decide +kernel)⟩
theorem fg_str (z : Str) : FgAt K G none (.str z) := ⟨_, .base (.str z), kit_ty (r := false) (by decide +kernel)⟩
theorem fg_lst {a : Addr} {xs : List V} (h : G a = some (.lst xs)) : FgAt K G none (.ref a) := ⟨_, .base (.lst h), kit_ty (r := false) (by decide +kernel)⟩
theorem fg_dK {a : Addr} {kvs : List (Key × V)} (h : G a = some (.dK kvs)) : FgAt K G none (.ref a) := ⟨_, .base (.dK h), kit_ty (r := false) (by decide +kernel)⟩
end
def spBent (K : PySem.W.Frag) : Sp := fun vs H Q _ => ∃ (p c : Addr) (cells : List Int) (v : V) (hs rs : List Bool), vs = [.ref p, v] ∧ HandAt H p c cells ∧ RawSp K (del H p) v hs rs ∧ hs.length ≤ 10 ∧ rs.length ≤ 10 ∧
  ∀ a vh vr hd rd H', HandAt H' p c cells → Same (del H p) (del H' p) → (del H' p) a = some (.tup [vh, vr]) → FgAt K (del H' p) hd vh → FgAt K (del H' p) rd vr → Q (.ref a) H'
section
variable {P : Program} {w : World} {K : PySem.W.Frag} {mg : Str → Option Value} {base : Heap}
theorem scBent : FnScope ["_law_hand_here", "_law_spec", "_law_odd", "_law_at", "_law_heads", "_law_rounds", "_law_way"] ["_law_hand_here", "_law_spec"] (defScope sBent) := ⟨rfl, rfl, rfl, by decide +kernel, rfl, by decide +kernel, by decide +kernel⟩
theorem ok_bent {f fD fS fP : Addr} {fd fdD fdS fdP : FuncData} (F : Fn K mg "_law_bent" sBent ["_law_hand_here", "_law_spec"] f fd) (ND : Fn K mg "_law_draw" sDraw ["_law_hand_here", "_law_many"] fD fdD) (NS : Fn K mg "_law_some" sSome ["_law_hand_here", "_law_things"] fS fdS)
    (NP : Fn K mg "_law_deep" sDeep ["_law_kind"] fP fdP) (T : TxB mg) (T2 : TxD mg) : FnOk P w K mg base CX0 3 f fd ["_law_hand_here", "_law_spec"] (spBent K) := by
  have GD : FnOk P w K mg base CX0 1 fD fdD ["_law_hand_here", "_law_many"] spDraw := ok_draw ND.F T
  have GS : FnOk P w K mg base CX0 2 fS fdS ["_law_hand_here", "_law_things"] (spSome K) := ok_some NS.F T ND.F ND.b ND.m
  have GP : FnOk P w K mg base CX0 1 fP fdP ["_law_kind"] spDeep := ok_deep NP T
  refine F.F.ok scBent (fun vs H Q E h => ?_) (fun cdv A outer s H vs Q E hr h => ?_)
  · obtain ⟨_, _, _, _, _, _, rfl, _⟩ := h
    rfl
  · obtain ⟨p, c, cells, v, hs, rs, rfl, hA, hsp, lh, lr, k⟩ := h
    have nd := scBent.nd
    have hu := hu_of hr
    have hr1 := hr.mono (show 1 ≤ 2 by decide)
    obtain ⟨a, mh, mr, rfl, ha, hmh, hmr⟩ := id hsp
    refine ⟨_, Evl.pss_cut (ps_set (i := 2) nd rfl (Or.inl rfl) (pe_call GS hr (by rfl) NS.m NS.F.kp NS.b .nil pass0 (pa_cons (pv 0) (pa_cons (pe_lst (pa_cons pe_int (pa_cons pe_int (pa_cons pe_non (pa_cons pe_str (pa_cons (pe_tup (pa_cons pe_bl pa_nil)) (pa_cons (pe_lst (pa_cons pe_bl pa_nil)) (pa_cons (pe_op op_pow pe_int pe_int) (pa_cons (pe_call GP hr1 (by rfl) NP.m NP.F.kp NP.b .nil pass0 (pa_cons pe_int pa_nil)) pa_nil))))))))) pa_nil))))
      (pss_cons (ps_set (i := 3) nd rfl (Or.inl rfl) (pe_call GD hr1 (by rfl) ND.m ND.F.kp ND.b .nil pass0 (pa_cons (pv 0) (pa_cons pe_int pa_nil))))
      (Evl.pss_cut (ps_set (i := 4) nd rfl (Or.inl rfl) (pe_lst (pa_cons (pe_op op_catA (pe_op op_catA (pe_slice sl_tupA (pe_ix ix_tup (pv 1) pe_int (fun _ _ => rfl)) po_none (po_some (pv 3))) (pe_tup (pa_cons (pv 2) pa_nil))) (pe_slice sl_tupA (pe_ix ix_tup (pv 1) pe_int (fun _ _ => rfl)) (po_some (pe_op op_add (pv 3) pe_int)) po_none)) (pa_cons (pe_callTy call_list_of (by rfl) T2.list (by decide +kernel) (pa_cons (pe_ix ix_tup (pv 1) pe_int (fun _ _ => rfl)) pa_nil)) (pa_cons (pe_op op_repT (pe_tup (pa_cons pe_bl pa_nil)) pe_int) (pa_cons (pe_op op_repT (pe_tup (pa_cons pe_bl pa_nil)) pe_int) (pa_cons pe_non (pa_cons pe_dnewK (pa_cons (pe_ix ix_tup (pv 1) pe_int (fun _ _ => rfl)) pa_nil)))))))))
      (Evl.pss_cut (ps_set (i := 5) nd rfl (Or.inl rfl) (pe_lst (pa_cons (pe_op op_catA (pe_op op_catA (pe_slice sl_tupA (pe_ix ix_tup (pv 1) pe_int (fun _ _ => rfl)) po_none (po_some (pv 3))) (pe_tup (pa_cons (pv 2) pa_nil))) (pe_slice sl_tupA (pe_ix ix_tup (pv 1) pe_int (fun _ _ => rfl)) (po_some (pe_op op_add (pv 3) pe_int)) po_none)) (pa_cons (pe_callTy call_list_of (by rfl) T2.list (by decide +kernel) (pa_cons (pe_ix ix_tup (pv 1) pe_int (fun _ _ => rfl)) pa_nil)) (pa_cons (pe_tup pa_nil) (pa_cons (pe_op op_repT (pe_tup (pa_cons pe_bl pa_nil)) pe_int) (pa_cons pe_non (pa_cons pe_str (pa_cons (pe_ix ix_tup (pv 1) pe_int (fun _ _ => rfl)) pa_nil)))))))))
      (pss_cons (ps_set (i := 6) nd rfl (Or.inl rfl) (pe_call GD hr1 (by rfl) ND.m ND.F.kp ND.b .nil pass0 (pa_cons (pv 0) (pa_cons pe_int pa_nil))))
      (pss_cons (ps_if (pt_cmpR op_eq (pv 6) pe_int (nomark _))
        (pss_cons (ps_set (i := 4) nd rfl (Or.inl rfl) (pe_call GS hr (by rfl) NS.m NS.F.kp NS.b .nil pass0 (pa_cons (pv 0) (pa_cons (pe_lst (pa_cons (pe_tup pa_nil) (pa_cons (pe_tup (pa_cons pe_bl (pa_cons pe_bl pa_nil))) (pa_cons (pe_tup (pa_cons pe_bl (pa_cons pe_bl pa_nil))) (pa_cons (pe_tup (pa_cons pe_bl pa_nil)) (pa_cons (pe_tup (pa_cons pe_bl pa_nil)) pa_nil)))))) pa_nil))))
        (pss_one (ps_ret (pe_tup (pa_cons (pv 4) (pa_cons (pe_call GS hr (by rfl) NS.m NS.F.kp NS.b .nil pass0 (pa_cons (pv 0) (pa_cons (pe_lst (pa_cons (pe_ix ix_tup (pv 1) pe_int (fun _ _ => rfl)) (pa_cons (pe_tup (pa_cons pe_bl pa_nil)) pa_nil))) pa_nil))) pa_nil)))))) pss_nil)
      (pss_one (ps_ret (pe_tup (pa_cons (pe_ifExp (pt_cmpR op_lt (pv 6) pe_int (nomark _)) (pe_call GS hr (by rfl) NS.m NS.F.kp NS.b .nil pass0 (pa_cons (pv 0) (pa_cons (pv 4) pa_nil))) (pe_ix ix_tup (pv 1) pe_int (fun _ _ => rfl))) (pa_cons (pe_ifExp (pt_cmpR op_gt (pv 6) pe_int (nomark _)) (pe_call GS hr (by rfl) NS.m NS.F.kp NS.b .nil pass0 (pa_cons (pv 0) (pa_cons (pv 5) pa_nil))) (pe_ix ix_tup (pv 1) pe_int (fun _ _ => rfl))) pa_nil)))))))))), ?_⟩
    refine ⟨fun σ' H' => ∃ (y : V), σ' = [some (.ref p), some (.ref a), some y, none, none, none, none] ∧ HandAt H' p c cells ∧ Same (del H p) (del H' p) ∧ Nt K (del H' p) y "bool", ?_, ?_⟩
    · skip
      refine ⟨_, rfl, (by show 1 ≤ sizeLine; decide), fun t1 ht1 => ?_⟩
      have st1 := same_new (o := .tup [.bl true]) (same_refl H) ht1
      have ft1 : upd H t1 (.tup [.bl true]) t1 = some (.tup [.bl true]) := upd_same
      have nt1 := HandAt.fresh hA ht1
      generalize upd H t1 (.tup [.bl true]) = t1G at *
      refine ⟨(by show 1 ≤ sizeLine; decide), fun l1 hl1 => ?_⟩
      have sl1 := same_new (o := .lst [.bl false]) (same_refl t1G) hl1
      have fl1 : upd t1G l1 (.lst [.bl false]) l1 = some (.lst [.bl false]) := upd_same
      have nl1 := HandAt.fresh (hA.same st1) hl1
      generalize upd t1G l1 (.lst [.bl false]) = l1G at *
      refine ⟨_, _, rfl, rfl, ⟨by decide, by decide, by decide⟩, ?_⟩
      refine ⟨0, rfl, fun d1 x1 d1G sd1 hd1 ed1 _ => ?_⟩
      replace ed1 := ed1 rfl
      have nd1 := HandAt.fresh (hA.same (same_trans st1 sl1)) hd1
      refine ⟨(by show 8 ≤ sizeLine; decide), fun th hth => ?_⟩
      have sth := same_new (o := HO.lst [V.int 0, V.int 1, V.non, V.str "T", V.ref t1, V.ref l1, (fun (i j : Int) => V.int (i ^ j.toNat)) 10 29, V.ref d1]) (same_refl d1G) hth
      have fth : upd d1G th (HO.lst [V.int 0, V.int 1, V.non, V.str "T", V.ref t1, V.ref l1, (fun (i j : Int) => V.int (i ^ j.toNat)) 10 29, V.ref d1]) th = some (HO.lst [V.int 0, V.int 1, V.non, V.str "T", V.ref t1, V.ref l1, (fun (i j : Int) => V.int (i ^ j.toNat)) 10 29, V.ref d1]) := upd_same
      have nth := HandAt.fresh (hA.same (same_trans st1 (same_trans sl1 sd1))) hth
      generalize upd d1G th (HO.lst [V.int 0, V.int 1, V.non, V.str "T", V.ref t1, V.ref l1, (fun (i j : Int) => V.int (i ^ j.toNat)) 10 29, V.ref d1]) = thG at *
      refine ⟨p, c, th, cells, _, rfl, (hA.same (same_trans st1 (same_trans sl1 (same_trans sd1 sth)))), SqL.of fth, nth, (by show 0 < 8; decide), (by show 8 < 1000; decide), fun i u H9 hi hA9 off => ?_⟩
      have sdo := del_off (p := p) off
      have mem := List.mem_of_getElem? hi
      simp only [List.mem_cons, List.not_mem_nil, or_false] at mem
      have sdn := same_trans (del_same_of (p := p) (same_trans st1 (same_trans sl1 (same_trans sd1 sth)))) sdo
      rcases mem with rfl | rfl | rfl | rfl | rfl | rfl | rfl | rfl
      · exact ⟨_, rfl, hA9, sdn, nt_int _⟩
      · exact ⟨_, rfl, hA9, sdn, nt_int _⟩
      · exact ⟨_, rfl, hA9, sdn, nt_non⟩
      · exact ⟨_, rfl, hA9, sdn, nt_str _⟩
      · exact ⟨_, rfl, hA9, sdn, nt_tup (sdo _ _ (by rw [del_ne nt1]; exact ((same_trans sl1 (same_trans sd1 sth)) _ _ ft1)))⟩
      · exact ⟨_, rfl, hA9, sdn, nt_lst (sdo _ _ (by rw [del_ne nl1]; exact ((same_trans sd1 sth) _ _ fl1)))⟩
      · exact ⟨_, rfl, hA9, sdn, nt_int _⟩
      · exact ⟨_, rfl, hA9, sdn, nt_lst (sdo _ _ (by rw [del_ne nd1]; exact (sth _ _ ed1)))⟩
    rintro _ H1 ⟨y, rfl, hA1, sd1, hy⟩
    refine ⟨_, rfl, p, c, cells, 6, rfl, hA1, by decide, by decide, fun kk H2 kk0 _ hA2 o2 => ?_⟩
    have sd12 := del_off (p := p) o2
    have sd2 := same_trans sd1 sd12
    replace hy := Nt.same hy sd12
    refine ⟨fun σ' H' => ∃ (l : Addr), σ' = [some (.ref p), some (.ref a), some y, some (.int kk), some (.ref l), none, none] ∧ HandAt H' p c cells ∧ Same (del H p) (del H' p) ∧ Nt K (del H' p) y "bool" ∧ ∃ xs, H' l = some (.lst xs) ∧ l ≠ p ∧ 0 < xs.length ∧ xs.length < 20 ∧ ∀ x ∈ xs, ∃ d, FgAt K (del H' p) d x, ?_, ?_⟩
    · have ha1 := sd2 _ _ ha
      have hm1 : SqT K H2 mh (hs.map V.bl) := sqt_same (sqt_same hmh sd2) del_le
      have hy1 := hy
      refine ⟨_, rfl, a, _, _, _, rfl, rfl, SqT.of ((same_refl _) _ _ (del_le _ _ ha1)), rfl, _, rfl, _, rfl, rsl (sqt_same hm1 (same_refl _)) fun b1 b1G bs1 sb1 hb1 lb1 => ?_⟩
      refine ⟨_, rfl, (by show 1 ≤ sizeLine; decide), fun t1 ht1 => ?_⟩
      have st1 := same_new (o := .tup [y]) (same_refl b1G) ht1
      have ft1 : upd b1G t1 (.tup [y]) t1 = some (.tup [y]) := upd_same
      have nt1 := HandAt.fresh (hA2.same sb1) ht1
      generalize upd b1G t1 (.tup [y]) = t1G at *
      refine rcat (sqt_same hb1 st1) (SqT.of ft1) (by rw [List.length_map]; show bs1.length + 1 ≤ 1000; omega) fun q1 q1G sq1 hq1 => ?_
      refine ⟨_, rfl, a, _, _, _, rfl, rfl, SqT.of ((same_trans sb1 (same_trans st1 sq1)) _ _ (del_le _ _ ha1)), rfl, _, rfl, _, _, rfl, rfl, _, rfl, ?_⟩
      unfold tNoPart
      refine rsl (sqt_same hm1 (same_trans sb1 (same_trans st1 sq1))) fun b2 b2G bs2 sb2 hb2 lb2 => ?_
      refine rcat (sqt_same hq1 sb2) hb2 (by rw [List.length_append, List.length_map, List.length_map]; show bs1.length + 1 + bs2.length ≤ 1000; omega) fun q2 q2G sq2 hq2 => ?_
      refine ⟨_, rfl, a, _, _, _, rfl, rfl, SqT.of ((same_trans sb1 (same_trans st1 (same_trans sq1 (same_trans sb2 sq2)))) _ _ (del_le _ _ ha1)), rfl, mh, _, rfl, .inr (sqt_same hm1 (same_trans sb1 (same_trans st1 (same_trans sq1 (same_trans sb2 sq2))))), fun l1 hl1 => ?_⟩
      have sl1 := same_new (o := .lst (hs.map V.bl)) (same_refl q2G) hl1
      have fl1 : upd q2G l1 (.lst (hs.map V.bl)) l1 = some (.lst (hs.map V.bl)) := upd_same
      have nl1 := HandAt.fresh (hA2.same (same_trans sb1 (same_trans st1 (same_trans sq1 (same_trans sb2 sq2))))) hl1
      generalize upd q2G l1 (.lst (hs.map V.bl)) = l1G at *
      refine ⟨(by show 1 ≤ sizeLine; decide), fun u1 hu1 => ?_⟩
      have su1 := same_new (o := .tup [.bl false]) (same_refl l1G) hu1
      have fu1 : upd l1G u1 (.tup [.bl false]) u1 = some (.tup [.bl false]) := upd_same
      have nu1 := HandAt.fresh (hA2.same (same_trans sb1 (same_trans st1 (same_trans sq1 (same_trans sb2 (same_trans sq2 sl1)))))) hu1
      generalize upd l1G u1 (.tup [.bl false]) = u1G at *
      refine ⟨u1, 9, _, rfl, rfl, SqT.of fu1, by simp, by decide, by decide, by decide, fun r1 hr1 => ?_⟩
      have er1 : (HO.tup (List.replicate (9 : Int).toNat [V.bl false]).flatten) = HO.tup ((List.replicate 9 false).map V.bl) := rfl
      rw [er1]
      have sr1 := same_new (o := HO.tup ((List.replicate 9 false).map V.bl)) (same_refl u1G) hr1
      have fr1 : upd u1G r1 (HO.tup ((List.replicate 9 false).map V.bl)) r1 = some (HO.tup ((List.replicate 9 false).map V.bl)) := upd_same
      have nr1 := HandAt.fresh (hA2.same (same_trans sb1 (same_trans st1 (same_trans sq1 (same_trans sb2 (same_trans sq2 (same_trans sl1 su1))))))) hr1
      generalize upd u1G r1 (HO.tup ((List.replicate 9 false).map V.bl)) = r1G at *
      refine ⟨(by show 1 ≤ sizeLine; decide), fun u2 hu2 => ?_⟩
      have su2 := same_new (o := .tup [.bl true]) (same_refl r1G) hu2
      have fu2 : upd r1G u2 (.tup [.bl true]) u2 = some (.tup [.bl true]) := upd_same
      have nu2 := HandAt.fresh (hA2.same (same_trans sb1 (same_trans st1 (same_trans sq1 (same_trans sb2 (same_trans sq2 (same_trans sl1 (same_trans su1 sr1)))))))) hu2
      generalize upd r1G u2 (.tup [.bl true]) = u2G at *
      refine ⟨u2, 9, _, rfl, rfl, SqT.of fu2, by simp, by decide, by decide, by decide, fun r2 hr2 => ?_⟩
      have er2 : (HO.tup (List.replicate (9 : Int).toNat [V.bl true]).flatten) = HO.tup ((List.replicate 9 true).map V.bl) := rfl
      rw [er2]
      have sr2 := same_new (o := HO.tup ((List.replicate 9 true).map V.bl)) (same_refl u2G) hr2
      have fr2 : upd u2G r2 (HO.tup ((List.replicate 9 true).map V.bl)) r2 = some (HO.tup ((List.replicate 9 true).map V.bl)) := upd_same
      have nr2 := HandAt.fresh (hA2.same (same_trans sb1 (same_trans st1 (same_trans sq1 (same_trans sb2 (same_trans sq2 (same_trans sl1 (same_trans su1 (same_trans sr1 su2))))))))) hr2
      generalize upd u2G r2 (HO.tup ((List.replicate 9 true).map V.bl)) = r2G at *
      intro d1 hd1
      have sd1 := same_new (o := .dK []) (same_refl r2G) hd1
      have fd1 : upd r2G d1 (.dK []) d1 = some (.dK []) := upd_same
      have nd1 := HandAt.fresh (hA2.same (same_trans sb1 (same_trans st1 (same_trans sq1 (same_trans sb2 (same_trans sq2 (same_trans sl1 (same_trans su1 (same_trans sr1 (same_trans su2 sr2)))))))))) hd1
      generalize upd r2G d1 (.dK []) = d1G at *
      refine ⟨_, rfl, a, _, _, _, rfl, rfl, SqT.of ((same_trans sb1 (same_trans st1 (same_trans sq1 (same_trans sb2 (same_trans sq2 (same_trans sl1 (same_trans su1 (same_trans sr1 (same_trans su2 (same_trans sr2 sd1)))))))))) _ _ (del_le _ _ ha1)), rfl, (by show 7 ≤ sizeLine; decide), fun th hth => ?_⟩
      have sth := same_new (o := .lst [.ref q2, .ref l1, .ref r1, .ref r2, .non, .ref d1, .ref mh]) (same_refl d1G) hth
      have fth : upd d1G th (.lst [.ref q2, .ref l1, .ref r1, .ref r2, .non, .ref d1, .ref mh]) th = some (.lst [.ref q2, .ref l1, .ref r1, .ref r2, .non, .ref d1, .ref mh]) := upd_same
      have nth := HandAt.fresh (hA2.same (same_trans sb1 (same_trans st1 (same_trans sq1 (same_trans sb2 (same_trans sq2 (same_trans sl1 (same_trans su1 (same_trans sr1 (same_trans su2 (same_trans sr2 sd1))))))))))) hth
      generalize upd d1G th (.lst [.ref q2, .ref l1, .ref r1, .ref r2, .non, .ref d1, .ref mh]) = thG at *
      have hAz := (hA2.same (same_trans sb1 (same_trans st1 (same_trans sq1 (same_trans sb2 (same_trans sq2 (same_trans sl1 (same_trans su1 (same_trans sr1 (same_trans su2 (same_trans sr2 (same_trans sd1 sth))))))))))))
      have sz := (same_trans sb1 (same_trans st1 (same_trans sq1 (same_trans sb2 (same_trans sq2 (same_trans sl1 (same_trans su1 (same_trans sr1 (same_trans su2 (same_trans sr2 (same_trans sd1 sth)))))))))))
      obtain ⟨lz, ez⟩ := hAz.some
      have hcat : FgAt K (del thG p) (some (bs1.map some ++ (none :: (bs2.map some ++ [])))) (.ref q2) := ⟨q2, _, rfl, sqt_del (sqt_same hq2 (same_trans sl1 (same_trans su1 (same_trans sr1 (same_trans su2 (same_trans sr2 (same_trans sd1 sth))))))) ez, by simp only [List.length_append, List.length_cons, List.length_map, List.length_nil]; omega, by
        rw [List.append_assoc]
        have q := Fis.bls (K := K) (G := del thG p) (.cons (o := none) (y := y) (hy.same (del_same_of sz)) (Fis.bls Fis.nil bs2)) bs1
        rw [List.append_nil] at q
        rw [List.append_nil]
        rw [List.append_nil] at q
        exact q⟩
      refine ⟨th, rfl, hAz, same_trans sd2 (del_same_of sz), Nt.same hy (del_same_of sz), _, fth, nth, by simp, by simp, fun x hx => ?_⟩
      simp only [List.not_mem_nil, List.mem_cons, or_false] at hx
      rcases hx with rfl | rfl | rfl | rfl | rfl | rfl | rfl
      · exact ⟨_, hcat⟩
      · exact ⟨none, fg_lst (by rw [del_ne nl1]; exact ((same_trans su1 (same_trans sr1 (same_trans su2 (same_trans sr2 (same_trans sd1 sth))))) _ _ fl1))⟩
      · exact ⟨_, fg_of (SqT.of (by rw [del_ne nr1]; exact ((same_trans su2 (same_trans sr2 (same_trans sd1 sth))) _ _ fr1))) (by decide)⟩
      · exact ⟨_, fg_of (SqT.of (by rw [del_ne nr2]; exact ((same_trans sd1 sth) _ _ fr2))) (by decide)⟩
      · exact ⟨none, fg_non⟩
      · exact ⟨none, fg_dK (by rw [del_ne nd1]; exact (sth _ _ fd1))⟩
      · exact ⟨_, fg_of (sqt_del (sqt_same hm1 (same_trans sb1 (same_trans st1 (same_trans sq1 (same_trans sb2 (same_trans sq2 (same_trans sl1 (same_trans su1 (same_trans sr1 (same_trans su2 (same_trans sr2 (same_trans sd1 sth)))))))))))) ez) (by omega)⟩
    rintro _ H3 ⟨l1, rfl, hA3, sd3, hy, xs1, fx1, nx1, px1, qx1, ax1⟩
    refine ⟨fun σ' H' => ∃ (l2 : Addr), σ' = [some (.ref p), some (.ref a), some y, some (.int kk), some (.ref l1), some (.ref l2), none] ∧ HandAt H' p c cells ∧ Same (del H p) (del H' p) ∧ Nt K (del H' p) y "bool" ∧ (∃ xs, H' l1 = some (.lst xs) ∧ l1 ≠ p ∧ 0 < xs.length ∧ xs.length < 20 ∧ ∀ x ∈ xs, ∃ d, FgAt K (del H' p) d x) ∧ ∃ xs, H' l2 = some (.lst xs) ∧ l2 ≠ p ∧ 0 < xs.length ∧ xs.length < 20 ∧ ∀ x ∈ xs, ∃ d, FgAt K (del H' p) d x, ?_, ?_⟩
    · have ha1 := sd3 _ _ ha
      have hm1 : SqT K H3 mr (rs.map V.bl) := sqt_same (sqt_same hmr sd3) del_le
      refine ⟨_, rfl, a, _, _, _, rfl, rfl, SqT.of ((same_refl _) _ _ (del_le _ _ ha1)), rfl, _, rfl, _, rfl, rsl (sqt_same hm1 (same_refl _)) fun b1 b1G bs1 sb1 hb1 lb1 => ?_⟩
      refine ⟨_, rfl, (by show 1 ≤ sizeLine; decide), fun t1 ht1 => ?_⟩
      have st1 := same_new (o := .tup [y]) (same_refl b1G) ht1
      have ft1 : upd b1G t1 (.tup [y]) t1 = some (.tup [y]) := upd_same
      have nt1 := HandAt.fresh (hA3.same sb1) ht1
      generalize upd b1G t1 (.tup [y]) = t1G at *
      refine rcat (sqt_same hb1 st1) (SqT.of ft1) (by rw [List.length_map]; show bs1.length + 1 ≤ 1000; omega) fun q1 q1G sq1 hq1 => ?_
      refine ⟨_, rfl, a, _, _, _, rfl, rfl, SqT.of ((same_trans sb1 (same_trans st1 sq1)) _ _ (del_le _ _ ha1)), rfl, _, rfl, _, _, rfl, rfl, _, rfl, ?_⟩
      unfold tNoPart
      refine rsl (sqt_same hm1 (same_trans sb1 (same_trans st1 sq1))) fun b2 b2G bs2 sb2 hb2 lb2 => ?_
      refine rcat (sqt_same hq1 sb2) hb2 (by rw [List.length_append, List.length_map, List.length_map]; show bs1.length + 1 + bs2.length ≤ 1000; omega) fun q2 q2G sq2 hq2 => ?_
      refine ⟨_, rfl, a, _, _, _, rfl, rfl, SqT.of ((same_trans sb1 (same_trans st1 (same_trans sq1 (same_trans sb2 sq2)))) _ _ (del_le _ _ ha1)), rfl, mr, _, rfl, .inr (sqt_same hm1 (same_trans sb1 (same_trans st1 (same_trans sq1 (same_trans sb2 sq2))))), fun l1 hl1 => ?_⟩
      have sl1 := same_new (o := .lst (rs.map V.bl)) (same_refl q2G) hl1
      have fl1 : upd q2G l1 (.lst (rs.map V.bl)) l1 = some (.lst (rs.map V.bl)) := upd_same
      have nl1 := HandAt.fresh (hA3.same (same_trans sb1 (same_trans st1 (same_trans sq1 (same_trans sb2 sq2))))) hl1
      generalize upd q2G l1 (.lst (rs.map V.bl)) = l1G at *
      refine ⟨(by show 0 ≤ sizeLine; decide), fun e0 he0 => ?_⟩
      have se0 := same_new (o := .tup []) (same_refl l1G) he0
      have fe0 : upd l1G e0 (.tup []) e0 = some (.tup []) := upd_same
      have ne0 := HandAt.fresh (hA3.same (same_trans sb1 (same_trans st1 (same_trans sq1 (same_trans sb2 (same_trans sq2 sl1)))))) he0
      generalize upd l1G e0 (.tup []) = e0G at *
      refine ⟨(by show 1 ≤ sizeLine; decide), fun u1 hu1 => ?_⟩
      have su1 := same_new (o := .tup [.bl true]) (same_refl e0G) hu1
      have fu1 : upd e0G u1 (.tup [.bl true]) u1 = some (.tup [.bl true]) := upd_same
      have nu1 := HandAt.fresh (hA3.same (same_trans sb1 (same_trans st1 (same_trans sq1 (same_trans sb2 (same_trans sq2 (same_trans sl1 se0))))))) hu1
      generalize upd e0G u1 (.tup [.bl true]) = u1G at *
      refine ⟨u1, 7, _, rfl, rfl, SqT.of fu1, by simp, by decide, by decide, by decide, fun r1 hr1 => ?_⟩
      have er1 : (HO.tup (List.replicate (7 : Int).toNat [V.bl true]).flatten) = HO.tup ((List.replicate 7 true).map V.bl) := rfl
      rw [er1]
      have sr1 := same_new (o := HO.tup ((List.replicate 7 true).map V.bl)) (same_refl u1G) hr1
      have fr1 : upd u1G r1 (HO.tup ((List.replicate 7 true).map V.bl)) r1 = some (HO.tup ((List.replicate 7 true).map V.bl)) := upd_same
      have nr1 := HandAt.fresh (hA3.same (same_trans sb1 (same_trans st1 (same_trans sq1 (same_trans sb2 (same_trans sq2 (same_trans sl1 (same_trans se0 su1)))))))) hr1
      generalize upd u1G r1 (HO.tup ((List.replicate 7 true).map V.bl)) = r1G at *
      refine ⟨_, rfl, a, _, _, _, rfl, rfl, SqT.of ((same_trans sb1 (same_trans st1 (same_trans sq1 (same_trans sb2 (same_trans sq2 (same_trans sl1 (same_trans se0 (same_trans su1 sr1)))))))) _ _ (del_le _ _ ha1)), rfl, (by show 7 ≤ sizeLine; decide), fun th hth => ?_⟩
      have sth := same_new (o := .lst [.ref q2, .ref l1, .ref e0, .ref r1, .non, .str "T", .ref mr]) (same_refl r1G) hth
      have fth : upd r1G th (.lst [.ref q2, .ref l1, .ref e0, .ref r1, .non, .str "T", .ref mr]) th = some (.lst [.ref q2, .ref l1, .ref e0, .ref r1, .non, .str "T", .ref mr]) := upd_same
      have nth := HandAt.fresh (hA3.same (same_trans sb1 (same_trans st1 (same_trans sq1 (same_trans sb2 (same_trans sq2 (same_trans sl1 (same_trans se0 (same_trans su1 sr1))))))))) hth
      generalize upd r1G th (.lst [.ref q2, .ref l1, .ref e0, .ref r1, .non, .str "T", .ref mr]) = thG at *
      have hAz := (hA3.same (same_trans sb1 (same_trans st1 (same_trans sq1 (same_trans sb2 (same_trans sq2 (same_trans sl1 (same_trans se0 (same_trans su1 (same_trans sr1 sth))))))))))
      have sz := (same_trans sb1 (same_trans st1 (same_trans sq1 (same_trans sb2 (same_trans sq2 (same_trans sl1 (same_trans se0 (same_trans su1 (same_trans sr1 sth)))))))))
      obtain ⟨lz, ez⟩ := hAz.some
      have hcat : FgAt K (del thG p) (some (bs1.map some ++ (none :: (bs2.map some ++ [])))) (.ref q2) := ⟨q2, _, rfl, sqt_del (sqt_same hq2 (same_trans sl1 (same_trans se0 (same_trans su1 (same_trans sr1 sth))))) ez, by simp only [List.length_append, List.length_cons, List.length_map, List.length_nil]; omega, by
        rw [List.append_assoc]
        have q := Fis.bls (K := K) (G := del thG p) (.cons (o := none) (y := y) (hy.same (del_same_of sz)) (Fis.bls Fis.nil bs2)) bs1
        rw [List.append_nil] at q
        rw [List.append_nil]
        rw [List.append_nil] at q
        exact q⟩
      refine ⟨th, rfl, hAz, same_trans sd3 (del_same_of sz), Nt.same hy (del_same_of sz), ⟨_, sz _ _ fx1, nx1, px1, qx1, fun x hx => (ax1 x hx).elim fun d h => ⟨d, h.same (del_same_of sz)⟩⟩, _, fth, nth, by simp, by simp, fun x hx => ?_⟩
      simp only [List.not_mem_nil, List.mem_cons, or_false] at hx
      rcases hx with rfl | rfl | rfl | rfl | rfl | rfl | rfl
      · exact ⟨_, hcat⟩
      · exact ⟨none, fg_lst (by rw [del_ne nl1]; exact ((same_trans se0 (same_trans su1 (same_trans sr1 sth))) _ _ fl1))⟩
      · exact ⟨_, fg_of (bs := []) (SqT.of (by rw [del_ne ne0]; exact ((same_trans su1 (same_trans sr1 sth)) _ _ fe0))) (by decide)⟩
      · exact ⟨_, fg_of (SqT.of (by rw [del_ne nr1]; exact (sth _ _ fr1))) (by decide)⟩
      · exact ⟨none, fg_non⟩
      · exact ⟨none, fg_str _⟩
      · exact ⟨_, fg_of (sqt_del (sqt_same hm1 (same_trans sb1 (same_trans st1 (same_trans sq1 (same_trans sb2 (same_trans sq2 (same_trans sl1 (same_trans se0 (same_trans su1 (same_trans sr1 sth)))))))))) ez) (by omega)⟩
    rintro _ H4 ⟨l2, rfl, hA4, sd4, hy, ⟨xs1, fx1, nx1, px1, qx1, ax1⟩, xs2, fx2, nx2, px2, qx2, ax2⟩
    refine ⟨_, rfl, p, c, cells, 4, rfl, hA4, by decide, by decide, fun ww H5 _ _ hA5 o5 => ?_⟩
    have sd45 := del_off (p := p) o5
    have sd5 := same_trans sd4 sd45
    replace fx1 := (o5 l1 nx1).trans fx1
    replace fx2 := (o5 l2 nx2).trans fx2
    replace ax1 : ∀ x ∈ xs1, ∃ d, FgAt K (del H5 p) d x := fun x hx => (ax1 x hx).elim fun d h => ⟨d, h.same sd45⟩
    replace ax2 : ∀ x ∈ xs2, ∃ d, FgAt K (del H5 p) d x := fun x hx => (ax2 x hx).elim fun d h => ⟨d, h.same sd45⟩
    have fin : ∀ (vh vr : V) (dh dr : Option (List (Option Bool))) (G : Hp), HandAt G p c cells → Same (del H p) (del G p) → FgAt K (del G p) dh vh → FgAt K (del G p) dr vr → ∀ q, G q = none → Q (.ref q) (upd G q (.tup [vh, vr])) := fun vh vr dh dr G hA sd h1 h2 q hq => by
      have s2 := same_new (o := .tup [vh, vr]) (same_refl G) hq
      have nq := hA.fresh hq
      exact k q vh vr dh dr _ (hA.same s2) (same_trans sd (del_same_of s2)) (by rw [del_ne nq, upd_same]) (h1.same (del_same_of s2)) (h2.same (del_same_of s2))
    refine ⟨_, rfl, rfl, _, rfl, ?_⟩
    refine ite2 (fun _ => ?_) (fun _ => ?_)
    · skip
      refine ⟨_, rfl, (by show 0 ≤ sizeLine; decide), fun e0 he0 => ?_⟩
      have se0 := same_new (o := .tup []) (same_refl H5) he0
      have fe0 : upd H5 e0 (.tup []) e0 = some (.tup []) := upd_same
      have ne0 := HandAt.fresh hA5 he0
      generalize upd H5 e0 (.tup []) = e0G at *
      refine ⟨(by show 2 ≤ sizeLine; decide), fun u1 hu1 => ?_⟩
      have su1 := same_new (o := .tup [.bl false, .bl false]) (same_refl e0G) hu1
      have fu1 : upd e0G u1 (.tup [.bl false, .bl false]) u1 = some (.tup [.bl false, .bl false]) := upd_same
      have nu1 := HandAt.fresh (hA5.same se0) hu1
      generalize upd e0G u1 (.tup [.bl false, .bl false]) = u1G at *
      refine ⟨(by show 2 ≤ sizeLine; decide), fun u2 hu2 => ?_⟩
      have su2 := same_new (o := .tup [.bl true, .bl false]) (same_refl u1G) hu2
      have fu2 : upd u1G u2 (.tup [.bl true, .bl false]) u2 = some (.tup [.bl true, .bl false]) := upd_same
      have nu2 := HandAt.fresh (hA5.same (same_trans se0 su1)) hu2
      generalize upd u1G u2 (.tup [.bl true, .bl false]) = u2G at *
      refine ⟨(by show 1 ≤ sizeLine; decide), fun u3 hu3 => ?_⟩
      have su3 := same_new (o := .tup [.bl false]) (same_refl u2G) hu3
      have fu3 : upd u2G u3 (.tup [.bl false]) u3 = some (.tup [.bl false]) := upd_same
      have nu3 := HandAt.fresh (hA5.same (same_trans se0 (same_trans su1 su2))) hu3
      generalize upd u2G u3 (.tup [.bl false]) = u3G at *
      refine ⟨(by show 1 ≤ sizeLine; decide), fun u4 hu4 => ?_⟩
      have su4 := same_new (o := .tup [.bl true]) (same_refl u3G) hu4
      have fu4 : upd u3G u4 (.tup [.bl true]) u4 = some (.tup [.bl true]) := upd_same
      have nu4 := HandAt.fresh (hA5.same (same_trans se0 (same_trans su1 (same_trans su2 su3)))) hu4
      generalize upd u3G u4 (.tup [.bl true]) = u4G at *
      refine ⟨(by show 5 ≤ sizeLine; decide), fun th hth => ?_⟩
      have sth := same_new (o := .lst [.ref e0, .ref u1, .ref u2, .ref u3, .ref u4]) (same_refl u4G) hth
      have fth : upd u4G th (.lst [.ref e0, .ref u1, .ref u2, .ref u3, .ref u4]) th = some (.lst [.ref e0, .ref u1, .ref u2, .ref u3, .ref u4]) := upd_same
      have nth := HandAt.fresh (hA5.same (same_trans se0 (same_trans su1 (same_trans su2 (same_trans su3 su4))))) hth
      generalize upd u4G th (.lst [.ref e0, .ref u1, .ref u2, .ref u3, .ref u4]) = thG at *
      refine ⟨p, c, th, cells, _, rfl, (hA5.same (same_trans se0 (same_trans su1 (same_trans su2 (same_trans su3 (same_trans su4 sth)))))), SqL.of fth, nth, (by show 0 < 5; decide), (by show 5 < 1000; decide), fun i u H9 hi hA9 off => ?_⟩
      have sdo := del_off (p := p) off
      have mem := List.mem_of_getElem? hi
      simp only [List.mem_cons, List.not_mem_nil, or_false] at mem
      have sdn := same_trans (del_same_of (p := p) (same_trans se0 (same_trans su1 (same_trans su2 (same_trans su3 (same_trans su4 sth)))))) sdo
      have hu9 : ∃ d, FgAt K (del H9 p) d u := by
        rcases mem with rfl | rfl | rfl | rfl | rfl
        · exact ⟨_, fg_of (bs := []) (SqT.of (sdo _ _ (by rw [del_ne ne0]; exact ((same_trans su1 (same_trans su2 (same_trans su3 (same_trans su4 sth)))) _ _ fe0)))) (by decide)⟩
        · exact ⟨_, fg_of (bs := [false, false]) (SqT.of (sdo _ _ (by rw [del_ne nu1]; exact ((same_trans su2 (same_trans su3 (same_trans su4 sth))) _ _ fu1)))) (by decide)⟩
        · exact ⟨_, fg_of (bs := [true, false]) (SqT.of (sdo _ _ (by rw [del_ne nu2]; exact ((same_trans su3 (same_trans su4 sth)) _ _ fu2)))) (by decide)⟩
        · exact ⟨_, fg_of (bs := [false]) (SqT.of (sdo _ _ (by rw [del_ne nu3]; exact ((same_trans su4 sth) _ _ fu3)))) (by decide)⟩
        · exact ⟨_, fg_of (bs := [true]) (SqT.of (sdo _ _ (by rw [del_ne nu4]; exact (sth _ _ fu4)))) (by decide)⟩
      have sd9 := same_trans sd5 sdn
      obtain ⟨dh, hdh⟩ := hu9
      clear mem hi off sdo sdn i hA5 sd5 fx1 fx2 ax1 ax2 hy
      refine ⟨_, rfl, _, rfl, _, rfl, a, _, _, _, rfl, rfl, SqT.of (del_le _ _ (sd9 _ _ ha)), rfl, (by show 1 ≤ sizeLine; decide), fun b1 hb1 => ?_⟩
      have sb1 := same_new (o := .tup [.bl false]) (same_refl H9) hb1
      have fb1 : upd H9 b1 (.tup [.bl false]) b1 = some (.tup [.bl false]) := upd_same
      have nb1 := HandAt.fresh hA9 hb1
      generalize upd H9 b1 (.tup [.bl false]) = b1G at *
      refine ⟨(by show 2 ≤ sizeLine; decide), fun tl htl => ?_⟩
      have stl := same_new (o := .lst [.ref mr, .ref b1]) (same_refl b1G) htl
      have ftl : upd b1G tl (.lst [.ref mr, .ref b1]) tl = some (.lst [.ref mr, .ref b1]) := upd_same
      have ntl := HandAt.fresh (hA9.same sb1) htl
      generalize upd b1G tl (.lst [.ref mr, .ref b1]) = tlG at *
      refine ⟨p, c, tl, cells, _, rfl, (hA9.same (same_trans sb1 stl)), SqL.of ftl, ntl, (by show 0 < 2; decide), (by show 2 < 1000; decide), fun i w H8 hi hA8 off => ?_⟩
      have sdo := del_off (p := p) off
      have mem := List.mem_of_getElem? hi
      simp only [List.mem_cons, List.not_mem_nil, or_false] at mem
      have sdn := same_trans (del_same_of (p := p) (same_trans sb1 stl)) sdo
      have hw8 : ∃ d, FgAt K (del H8 p) d w := by
        rcases mem with rfl | rfl
        · exact ⟨_, fg_of (sqt_same hmr (same_trans sd9 sdn)) (by omega)⟩
        · exact ⟨_, fg_of (bs := [false]) (SqT.of (sdo _ _ (by rw [del_ne nb1]; exact (stl _ _ fb1)))) (by decide)⟩
      obtain ⟨dr, hdr⟩ := hw8
      exact ⟨(by show 2 ≤ sizeLine; decide), fin _ _ _ _ _ hA8 (same_trans sd9 sdn) (hdh.same sdn) hdr⟩
    · skip
      refine ⟨_, rfl, _, _, rfl, rfl, _, rfl, ?_⟩
      refine ite2 (fun _ => ?_) (fun _ => ?_)
      · refine ⟨_, rfl, _, rfl, p, c, l1, cells, xs1, rfl, hA5, SqL.of fx1, nx1, px1, by omega, fun i u H9 hi hA9 off => ?_⟩
        have sd9 := del_off (p := p) off
        obtain ⟨dh, hdh⟩ := ax1 u (List.mem_of_getElem? hi)
        replace hdh := hdh.same sd9
        have fx9 := (off l2 nx2).trans fx2
        have sd59 := same_trans sd5 sd9
        clear hi off
        refine ⟨_, rfl, _, _, rfl, rfl, _, rfl, ?_⟩
        refine ite2 (fun _ => ?_) (fun _ => ?_)
        · refine ⟨_, rfl, _, rfl, p, c, l2, cells, xs2, rfl, hA9, SqL.of fx9, nx2, px2, by omega, fun i w H8 hi hA8 off => ?_⟩
          have sdo := del_off (p := p) off
          obtain ⟨dr, hdr⟩ := ax2 w (List.mem_of_getElem? hi)
          exact ⟨(by show 2 ≤ sizeLine; decide), fin _ _ _ _ _ hA8 (same_trans sd59 sdo) (hdh.same sdo) (hdr.same (same_trans sd9 sdo))⟩
        · exact ⟨_, rfl, a, _, _, _, rfl, rfl, SqT.of (del_le _ _ (sd59 _ _ ha)), rfl, (by show 2 ≤ sizeLine; decide), fin _ _ _ _ _ hA9 sd59 hdh (fg_of (sqt_same hmr sd59) (by omega))⟩
      · have hdh : FgAt K (del H5 p) (some (hs.map some)) (.ref mh) := fg_of (sqt_same hmh sd5) (by omega)
        refine ⟨_, rfl, a, _, _, _, rfl, rfl, SqT.of (del_le _ _ (sd5 _ _ ha)), rfl, ?_⟩
        refine ⟨_, rfl, _, _, rfl, rfl, _, rfl, ?_⟩
        refine ite2 (fun _ => ?_) (fun _ => ?_)
        · refine ⟨_, rfl, _, rfl, p, c, l2, cells, xs2, rfl, hA5, SqL.of fx2, nx2, px2, by omega, fun i w H8 hi hA8 off => ?_⟩
          have sdo := del_off (p := p) off
          obtain ⟨dr, hdr⟩ := ax2 w (List.mem_of_getElem? hi)
          exact ⟨(by show 2 ≤ sizeLine; decide), fin _ _ _ _ _ hA8 (same_trans sd5 sdo) (hdh.same sdo) (hdr.same (same_trans (same_refl _) sdo))⟩
        · exact ⟨_, rfl, a, _, _, _, rfl, rfl, SqT.of (del_le _ _ (sd5 _ _ ha)), rfl, (by show 2 ≤ sizeLine; decide), fin _ _ _ _ _ hA5 sd5 hdh (fg_of (sqt_same hmr sd5) (by omega))⟩
end
end K03

set_option Elab.async false
set_option linter.all false
set_option maxRecDepth 100000
set_option maxHeartbeats 4100000
namespace GQ
open PySem PySem.SeqAt PySem.Spec PyProof.Rows
open AutoSeq1 (wpAny_loadPart' )
open SeqRoads2 MeetsSeq3 MeetsSeq2 MeetsSeq
section
variable {w : World} {P : Program} {A : Around} {R : Result → Shared → Prop}
theorem notin_noneG {E : Value → Shared → Prop} {s : Shared} {l : Addr} {x : Value} {N : Nat} {Q : Value → Shared → Prop} (I : Shared → Prop) (ask : NoneEq P w A E l x N I)
    (fin : ∀ s, I s → Q (.bool true) s) (inv : I s) : wpAny (model P w) A (compareOp .NotIn x (.ref l)) Q E s := by
  obtain ⟨its, k, at_, _⟩ := ask _ inv
  show wpAny _ A (do return .bool (!(← PySem.contains (.ref l) x))) Q E s
  refine wpAny_bind (wpAny_contains_slot (T := "list") ⟨_, at_, rfl⟩ F.slot_list_contains (call_here F.slot_list_contains ⟨_, at_, rfl⟩ F.entry_list_contains (F.args_list_contains_2 _ _) ?_))
  exact none_in (R := wants _ E) ask (fun s' q => wpAny_truthy_bool (wpAny_pure (fin s' q))) inv
end
end GQ
namespace L2
open PySem PySem.Spec PyProof.Rows
section
variable {X : Cx} {CX CX2 : CXT} {n n2 : Nat} {C f C2 f2 : Addr} {fd fd2 : FuncData} {ps ps2 : List Str} {sp sp2 : Sp}
/-- a not in l, the items texts, tuples, Nones, and instances of another class with an own == -/
def rNotInO (K : PySem.W.Frag) (C C2 : Addr) (sp sp2 : Sp) : R2 := fun x y H Q => ∃ a l dx fs ys, x = .ref a ∧ y = .ref l ∧ H a = some (.ins C dx fs) ∧ H l = some (.lst ys) ∧ (∀ u ∈ ys, OddV K H u ∨ ∃ b dy gs, u = .ref b ∧ H b = some (.ins C2 dy gs)) ∧
  (∀ u ∈ ys, ∀ G, OddV K H u → Ext H G → sp [.ref a, u] G (fun r G' => ∃ b, r = .bl b ∧ b = false ∧ Ext G G') E00) ∧
  (∀ u ∈ ys, ∀ b dy gs, u = .ref b → H b = some (.ins C2 dy gs) → ∀ G, Ext H G → sp2 [.ref b, .ref a] G (fun r G' => ∃ b, r = .bl b ∧ b = false ∧ Ext G G') E00) ∧ ∀ G, Ext H G → Q (.bl true) G
theorem op_notInO (F : FnOk X.prog X.w X.K X.mg X.base CX n f fd ps sp) (hr : Room (n + 1) X.A) (hu : X.A.units + 1 < cLine) (hb : Binds X.K fd ps []) (hx : Passes CX X E00) (O : OwnE X.K C f)
    (F2 : FnOk X.prog X.w X.K X.mg X.base CX2 n2 f2 fd2 ps2 sp2) (hr2 : Room (n2 + 1) X.A) (hb2 : Binds X.K fd2 ps2 []) (hx2 : Passes CX2 X E00) (O2 : OwnE X.K C2 f2) (nf : PySem.W.notFirst X.K C2 (.ref C) = true) (cc : C2 ≠ C) : OpR X (compareOp .NotIn) (rNotInO X.K C C2 sp sp2) := by
  rintro pins s σ H _ _ v u Q I rx ry ⟨a, l, dx, fs, ys, rfl, rfl, ha, hl, odd, h, h2, q⟩
  cases rx
  cases ry
  refine GQ.notin_noneG (N := ys.length) (fun s' => ∃ G, Inv X pins σ G s' ∧ Ext H G) (fun s' ⟨G, J, e⟩ => ?_) (fun s' ⟨G, J, e⟩ => ⟨.bl true, G, J, rfl, q G e⟩) ⟨H, I, Ext.rfl'⟩
  obtain ⟨z, its, k, r, ob⟩ := J.hok l _ (e _ _ hl)
  refine ⟨its.toArray, k, ob, by rw [List.size_toArray, ← r.length], fun i hi => ?_⟩
  have k1 : i < ys.length := by rw [r.length]; simpa using hi
  obtain ⟨w0, hw, rw0⟩ := r.get (List.getElem?_eq_getElem k1)
  have inside : i < its.length := by simpa using hi
  have g1 : its[i]? = some (its.toArray[i]) := by
    have h1' := inside
    rw [List.getElem?_eq_getElem h1'] ; all_goals simp
  rw [g1] at hw
  rw [Option.some.inj hw]
  have mem : ys[i] ∈ ys := List.getElem_mem k1
  have sb : Sub X n X.A.in1 := Sub.in1 ⟨hr, rfl⟩
  obtain ⟨mA, Ja, _⟩ := ins_get J.hok (e _ _ ha)
  have hax := Ja.obj
  obtain ⟨od, Ja, _⟩ := Ja.look
  have back : ∀ (r : Value) (s2 : Shared), (∃ b, r = .bool b ∧ ∃ G', Inv X pins σ G' s2 ∧ b = false ∧ Ext G G') → PySem.W.CmpBack (fun v s' => ∃ b, v = .bool b ∧ b = false ∧ ∃ G, Inv X pins σ G s' ∧ Ext H G) r s2 := fun r s2 ⟨b, er, G', J', eb, ex⟩ => by
    subst er
    exact ⟨b, rfl, eb, G', J', e.trans ex⟩
  have fin : ∀ {u : Value}, wpAny (model X.prog X.w) X.A.in1 (richCompare .Eq u (.ref a)) (fun v s' => ∃ b, v = .bool b ∧ b = false ∧ ∃ G, Inv X pins σ G s' ∧ Ext H G) X.xe s' → u ≠ .ref a → (∀ b t, u ≠ .float b t) →
      wpAny (model X.prog X.w) X.A.in1 (eqBool u (.ref a)) (fun r s' => r = false ∧ ∃ G, Inv X pins σ G s' ∧ Ext H G) X.xe s' := fun {u} hh ne nf => by
    unfold eqBool
    refine wpAny_holding ?_
    refine wpAny_ite_split (fun hab => absurd (eq_of_beq hab) ne) (fun _ => ?_)
    split
    · rename_i h1
      exact absurd (congrArg Prod.fst h1) (nf _ _)
    · refine wpAny_bind (wpAny_mono hh (fun v s' hv => ?_) fun _ _ x => x)
      obtain ⟨b, rfl, rfl, q⟩ := hv
      exact wpAny_truthy_bool ⟨rfl, q⟩
  have ux : X.A.in1.units < cLine := sb.room.units0
  generalize hy : ys[i] = yi at *
  rcases odd _ mem with (⟨z, rfl⟩ | rfl | ⟨t, xs, rfl, ht⟩) | ⟨b2, dy, gs, rfl, hb2'⟩
  · have run := own_run (A := X.A.in1) (Q := fun b G' => b = false ∧ Ext G G') F sb hb hx J rw0 (h _ mem G (.inl ⟨z, rfl⟩) e)
    obtain ⟨tk, rfl⟩ := rw0
    refine fin (GQ.rc_decl (typeIs_str s' z tk) J.kIn Ja O.st PySem.F.slot_str_eq ux (fun Q' q' => GQ.str_eq_no hax q') O.eq O.fn (wpAny_mono run back fun _ _ e => e)) (fun z => nomatch z) (fun _ _ z => nomatch z)
  · have run := own_run (A := X.A.in1) (Q := fun b G' => b = false ∧ Ext G G') F sb hb hx J rw0 (h _ mem G (.inr (.inl rfl)) e)
    cases (show w0 = Value.none from rw0)
    refine fin (GQ.rc_decl (typeIs_none s') J.kIn Ja O.no PySem.F.slot_NoneType_eq ux (fun Q' q' => GQ.none_eq_no q') O.eq O.fn (wpAny_mono run back fun _ _ e => e)) (fun z => nomatch z) (fun _ _ z => nomatch z)
  · have run := own_run (A := X.A.in1) (Q := fun b G' => b = false ∧ Ext G G') F sb hb hx J rw0 (h _ mem G (.inr (.inr ⟨t, xs, rfl, ht⟩)) e)
    cases (show w0 = Value.ref t from rw0)
    obtain ⟨its2, r2, ⟨o2, here, c2, m2, d2⟩, _⟩ := J.tuple (ht.ext e)
    have ne : (Value.ref t) ≠ .ref a := fun z => by
      have : t = a := Value.ref.inj z
      subst this
      rw [hax] at here
      cases here
      cases c2
    refine fin (GQ.rc_decl (Ta := "tuple") ⟨o2, here, c2⟩ J.kIn Ja O.tu PySem.F.slot_tuple_eq ux (fun Q' q' => GQ.tup_eq_no here c2 Ja.type (PySem.W.looks_mroIn J.kIn O.tu) q') O.eq O.fn (wpAny_mono run back fun _ _ e => e)) ne (fun _ _ z => nomatch z)
  · cases (show w0 = Value.ref b2 from rw0)
    have ne : (Value.ref b2) ≠ .ref a := fun z => by
      have : b2 = a := Value.ref.inj z
      subst this
      rw [ha] at hb2'
      cases hb2'
      exact cc rfl
    obtain ⟨_, Jb, _⟩ := ins_get J.hok (e _ _ hb2')
    obtain ⟨_, Jb, _⟩ := Jb.look
    obtain ⟨m, hF⟩ := J.fr
    have sb2 : Sub X n2 X.A.in1 := Sub.in1 ⟨hr2, rfl⟩
    refine fin (PySem.W.cmp_K (op := .Eq) (tb := .ref C) ux hF J.ok.mod.kin Jb Ja.type nf O2.eq O2.fn (wpAny_mono (own_run (A := X.A.in1) (Q := fun b G' => b = false ∧ Ext G G') F2 sb2 hb2 hx2 J (y := .ref a) rfl (h2 _ mem b2 dy gs rfl hb2' G e)) back fun _ _ e => e)) ne (fun _ _ z => nomatch z)
end
end L2

set_option Elab.async false
set_option linter.all false
set_option maxRecDepth 100000
set_option maxHeartbeats 4100000
namespace L2
open PySem PySem.Spec PyProof.Rows
theorem tuple_one (l : Addr) (items : Array Value) (n : Nat) (dd : Option Addr) (sl : Array (Option Value)) (u : Tok) :
    Meets (Builtin.«tuple.__mul__» ⟨[.ref l, .int 1 u], []⟩) (fun _ R s => s.heap.get? l = some { cls := .type "tuple", dict := dd, data := .seq items n, slots := sl } ∧ R (.ok (.ret (Value.ref l))) s) :=
  .of_wp fun pr wd A R s h => by
    rcases s with ⟨hp, g, d, tk, os⟩
    obtain ⟨hl, h⟩ := h
    have f1 := AutoSeq1.idx_int
    have c1 : (items.isEmpty || (1 : Int) == 1) = true := by cases items.isEmpty <;> rfl
    wp_walk using (wpAny_loadPart' hl)
    exact ⟨_, rfl, h⟩
/-- a tuple k times, k one or more: once is the tuple itself -/
def rRep1 (K : PySem.W.Frag) : R2 := fun x y H Q => ∃ l k xs, x = .ref l ∧ y = .int k ∧ SqT K H l xs ∧ xs ≠ [] ∧ 1 ≤ k ∧ k ≤ 1000 ∧ xs.length ≤ 1000 ∧ (k = 1 → Q (.ref l) H) ∧ (2 ≤ k → ∀ p, H p = none → Q (.ref p) (upd H p (.tup (List.replicate k.toNat xs).flatten)))
theorem op_rep1 {X : Cx} : OpR X (binaryOp .Mult) (rRep1 X.K) := by
  rintro pins s σ H x y v u Q I rx ry h
  obtain ⟨l, k, xs, rfl, rfl, hT, hne, h1, h2, hz, q1, q2⟩ := h
  by_cases c : k = 1
  · subst c
    cases rx
    obtain ⟨t, rfl⟩ := ry
    rcases I.tuple hT with ⟨its, r, ⟨⟨cls, dd, data, sl⟩, ho, hc, n, hd⟩, hs⟩
    simp only at hc hd
    subst hc hd
    refine wpAny_binaryOp_repeat_ref (T := "tuple") (U := "int") (by decide) ⟨_, ho, rfl⟩ (fun s' => typeIs_int s' 1 t) noFill_tuple_mul F.fills_int_mul F.slot_int_rmul repeat_tuple F.slot_int_index.lookup
      (call_meets F.slot_int_rmul (typeIs_int s 1 t) F.entry_int_rmul (F.args_int_rmul_2 _ _) (int_rmul_tuple 1 t l its.toArray n dd sl)
        ⟨ho, rfl, ⟨_, ho, rfl⟩, call_meets F.slot_tuple_mul ⟨_, ho, rfl⟩ F.entry_tuple_mul (F.args_tuple_mul_2 _ _) (tuple_one l its.toArray n dd sl t) ⟨ho, ?_⟩⟩)
    exact ⟨.ref l, H, I, rfl, q1 rfl⟩
  · exact op_repT pins s σ H _ _ v u Q I rx ry ⟨l, k, xs, rfl, rfl, hT, hne, by omega, h2, hz, q2 (by omega)⟩
end L2

set_option Elab.async false
set_option linter.all false
set_option maxRecDepth 100000
set_option maxHeartbeats 8000000
namespace K03
open PySem L2
abbrev sLaw : Stmt := top 42
def spLaw (K : PySem.W.Frag) : Sp := fun vs H Q _ => ∃ (a : Addr) (ns : List Int), vs = [.ref a] ∧ SqL K H a (ns.map V.int) ∧ ns.length ≤ 63 ∧ ∀ H', Q (.bl true) H'
/-- the specs beside the hand -/
structure LawIn (K : PySem.W.Frag) (H : Hp) (p c : Addr) (cells : List Int) (l : Addr) (vs : List V) : Prop where
  hand : HandAt H p c cells
  lst : H l = some (.lst vs)
  nl : l ≠ p
  nc : l ≠ c
  len : vs.length = 3
  sp : ∀ v ∈ vs, ∃ hs rs, RawSp K (del H p) v hs rs ∧ RawOk hs rs
theorem LawIn.same {K : PySem.W.Frag} {H H' : Hp} {p c l : Addr} {cells : List Int} {vs : List V} (h : LawIn K H p c cells l vs) (s : Same H H') : LawIn K H' p c cells l vs :=
  ⟨h.hand.same s, s _ _ h.lst, h.nl, h.nc, h.len, fun v hv => (h.sp v hv).elim fun hs q => q.elim fun rs q => ⟨hs, rs, q.1.same (del_same_of s), q.2⟩⟩
theorem LawIn.draw {K : PySem.W.Frag} {H H' : Hp} {p c l : Addr} {cells : List Int} {vs : List V} (h : LawIn K H p c cells l vs) (a : HandAt H' p c cells) (s : Same (del H p) (del H' p)) : LawIn K H' p c cells l vs :=
  ⟨a, del_le _ _ (s _ _ (by rw [del_ne h.nl]; exact h.lst)), h.nl, h.nc, h.len, fun v hv => (h.sp v hv).elim fun hs q => q.elim fun rs q => ⟨hs, rs, q.1.same s, q.2⟩⟩
theorem sqt_off {K : PySem.W.Frag} {D D' : Hp} {t l : Addr} {xs ys : List V} (h : SqT K D t xs) (hl : D l = some (.lst ys)) (e : ∀ b, b ≠ l → D' b = D b) : SqT K D' t xs := by
  rcases h with h | h
  · refine .inl ?_
    rcases h with h | ⟨u, h⟩
    · refine .inl ?_
      rw [e _ (ne_of h hl (fun z => by cases z))]; exact h
    · refine .inr ⟨u, ?_⟩
      rw [e _ (ne_of h hl (fun z => by cases z))]; exact h
  · exact .inr h
theorem RawSp.off {K : PySem.W.Frag} {D D' : Hp} {v : V} {l : Addr} {hs rs : List Bool} {ys : List V} (h : RawSp K D v hs rs) (hl : D l = some (.lst ys)) (e : ∀ b, b ≠ l → D' b = D b) : RawSp K D' v hs rs := by
  obtain ⟨a, th, tr, q, h1, h2, h3⟩ := h
  exact ⟨a, th, tr, q, by rw [e _ (ne_of h1 hl (fun z => by cases z))]; exact h1, sqt_off h2 hl e, sqt_off h3 hl e⟩
theorem twice_ok {hs rs : List Bool} (h : RawOk hs rs) (l : rs.length < 4) : RawOk hs (rs ++ rs) := by
  have r1 := h.r1
  refine ⟨h.h8, by rw [List.length_append]; omega, by rw [List.length_append]; omega, ?_⟩
  have o := h.one
  unfold rawB at o ⊢
  by_cases c : 1 < hs.length
  · rw [if_pos c] at o ⊢; exact o
  · rw [if_neg c] at o ⊢
    rw [← o, List.length_append]
    have e : (1 - hs.length) % (rs.length + rs.length) % rs.length = (1 - hs.length) % rs.length := Nat.mod_mod_of_dvd _ ⟨2, by omega⟩
    have lt : (1 - hs.length) % (rs.length + rs.length) < rs.length + rs.length := Nat.mod_lt _ (by omega)
    rw [← e]
    generalize (1 - hs.length) % (rs.length + rs.length) = m at lt
    simp only [List.getD_eq_getElem?_getD]
    by_cases d : m < rs.length
    · rw [Nat.mod_eq_of_lt d, List.getElem?_append_left d]
    · rw [List.getElem?_append_right (by omega), Nat.mod_eq_sub_mod (by omega), Nat.mod_eq_of_lt (by omega)]
theorem rep_raw {K : PySem.W.Frag} {G : Hp} {tr : Addr} {hs rs : List Bool} {Q : VK} {b : Bool} (h : SqT K G tr (rs.map V.bl)) (ok : RawOk hs rs) (k : ∀ t' G' rs', Same G G' → SqT K G' t' (rs'.map V.bl) → RawOk hs rs' → Q (.ref t') G') (hb : b = decide (rs.length < 4)) : rRep1 K (.ref tr) (.int (1 + if b = true then 1 else 0)) G Q := by
  have r1 := ok.r1
  have r6 := ok.r6
  subst hb
  refine ⟨tr, _, _, rfl, rfl, h, fun e => ?_, ?_, ?_, by rw [List.length_map]; omega, fun _ => k tr G rs (same_refl G) h ok, fun k2 p hp => ?_⟩
  · have := congrArg List.length e
    rw [List.length_map] at this
    have e0 : ([] : List V).length = 0 := rfl
    omega
  · split <;> omega
  · split <;> omega
  · have c : rs.length < 4 := by
      by_cases c : rs.length < 4
      · exact c
      · rw [decide_eq_false c] at k2
        exact absurd k2 (by decide)
    rw [decide_eq_true c]
    have e : (List.replicate (1 + if true = true then (1 : Int) else 0).toNat (rs.map V.bl)).flatten = (rs ++ rs).map V.bl := by
      rw [if_pos rfl, show ((1 : Int) + 1).toNat = 2 from rfl, List.map_append]
      simp [List.replicate]
    rw [e]
    exact k p _ _ (same_new (same_refl G) hp) (SqT.of upd_same) (twice_ok ok c)
theorem odd_ext {K : PySem.W.Frag} {H G : Hp} {u : V} (h : OddV K H u) (e : Ext H G) : OddV K G u := by
  rcases h with h | h | ⟨t, xs, q, ht⟩
  · exact .inl h
  · exact .inr (.inl h)
  · exact .inr (.inr ⟨t, xs, q, ht.ext e⟩)
/-- == of a lot and a raw lot -/
def spLEqX (CL CS CR : Addr) : Sp := fun vs H Q _ => ∃ (x y : Addr) (z : Str) (M : List Nat) (t : Addr) (kept : List Nat), vs = [.ref x, .ref y] ∧ LotAt CL CS H x z M t kept ∧ (∃ dy gs, H y = some (.ins CR dy gs)) ∧ Q (.bl false) H
section
variable {P : Program} {w : World} {K : PySem.W.Frag} {mg : Str → Option Value} {base : Heap} {CL CS CR CB aW fE fEL fLI : Addr} {fdE fdEL fdLI : FuncData}
theorem ok_leqX {f : Addr} {fd : FuncData} (F : Fun K "__eq__" "Lot.__eq__" sLEq f fd) (T : TxB mg) (L : LotT K mg CL aW fEL) (R : RawT K mg CR fE) (kx : PySem.W.kitOne K (.ref CR) (.ref CL) = some false) : FnOk P w K mg base CX0 1 f fd ["self", "other"] (spLEqX CL CS CR) := by
  refine F.ok scLEq (fun vs H Q E h => ?_) (fun cdv A outer s H vs Q E hr h => ?_)
  · obtain ⟨_, _, _, _, _, _, rfl, _⟩ := h
    rfl
  · obtain ⟨x, y, z, M, t, kept, rfl, hl, ⟨dy, gs, hy⟩, k⟩ := h
    refine ⟨_, pss_one (ps_ret (pe_and (pe_callB call_isi (by rfl) T.isinstance (by decide +kernel) (pa_cons (pv 1) (pa_cons (pe_glob (v := .ref CL) (by rfl) L.mgL rfl) pa_nil)))
      (pe_and (pe_cmpR op_eq (pe_fld (pv 0) rfl) (pe_fld (pv 1) rfl) (nomark _)) (pe_one (pe_cmpR (op_eqD hr.units) (pe_fld (pv 0) rfl) (pe_fld (pv 1) rfl) (nomark _)))))), ?_⟩
    refine ⟨_, rfl, _, _, _, _, _, rfl, .own _, .base (.ins hy R.cl R.ha R.cg R.cTk R.ow.ob), kx, _, rfl, ?_⟩
    exact iteF k
theorem scLaw : FnScope ["_law_script", "_law_hand_here", "_law_specs", "_law_turn", "_law_spec", "_law_one", "_law_other", "_law_due", "_law_heads", "_law_rounds", "_law_raw"] ["_law_script"] (defScope sLaw) := ⟨rfl, rfl, rfl, by decide +kernel, rfl, by decide +kernel, by decide +kernel⟩
theorem ok_law {f fH fD fS fR fT fF fA fB fI fTP fDu : Addr} {fd fdH fdD fdS fdR fdT fdF fdA fdB fdI fdTP fdDu : FuncData} (F : Fn K mg "law" sLaw ["_law_script"] f fd) (T : TxB mg) (T2 : TxD mg) (L : LotT K mg CL aW fEL) (R : RawT K mg CR fE)
    (NH : Fn K mg "_law_hand" sHand ["_law_script"] fH fdH) (GH : FnOk P w K mg base CX0 1 fH fdH ["_law_script"] (spHand K))
    (ND : Fn K mg "_law_draw" sDraw ["_law_hand_here", "_law_many"] fD fdD) (GD : FnOk P w K mg base CX0 1 fD fdD ["_law_hand_here", "_law_many"] spDraw)
    (NS : Fn K mg "_law_raw_spec" sRawSpec ["_law_hand_here"] fS fdS) (GS : FnOk P w K mg base CX0 4 fS fdS ["_law_hand_here"] (spRawSpec K))
    (NR : Fn K mg "_law_right" sRight ["_law_spec"] fR fdR) (GR : FnOk P w K mg base CX0 10 fR fdR ["_law_spec"] (spRight K))
    (NT : Fn K mg "_law_told_numbers" sTold ["_law_spec", "_law_most"] fT fdT) (GT : FnOk P w K mg base CX0 2 fT fdT ["_law_spec", "_law_most"] (spToldR K))
    (NF : Fn K mg "_law_flag" sFlag ["_law_told", "_law_due"] fF fdF) (GF : FnOk P w K mg base CX0 1 fF fdF ["_law_told", "_law_due"] spFlag)
    (NA : Fn K mg "_law_any_lot" sAny ["_law_spec"] fA fdA) (GA : FnOk P w K mg base CX0 5 fA fdA ["_law_spec"] (spAny K CR))
    (GE : FnOk P w K mg base CX0 1 fE fdE ["self", "other"] (spREq K CR)) (bE : Binds K fdE ["self", "other"] [])
    (GEL : FnOk P w K mg base CX0 1 fEL fdEL ["self", "other"] (spLEqX CL CS CR)) (bEL : Binds K fdEL ["self", "other"] []) (nf : PySem.W.notFirst K CL (.ref CR) = true) (cc : CL ≠ CR)
    (LF : LotF K mg CL fLI fdLI) (GLI : FnOk P w K mg base (L2.CX P w) 6 fLI fdLI ["self", "word", "makers"] (spLInit K CL CS CB))
    (NB : Fn K mg "_law_bent" sBent ["_law_hand_here", "_law_spec"] fB fdB) (GB : FnOk P w K mg base CX0 3 fB fdB ["_law_hand_here", "_law_spec"] (spBent K))
    (NI : Fn K mg "_law_is" sIs ["_law_told", "_law_due"] fI fdI) (GI : FnOk P w K mg base CX0 4 fI fdI ["_law_told", "_law_due"] (spQ K 3))
    (NTP : Fn K mg "_law_told_part" sToldP ["_law_heads", "_law_rounds"] fTP fdTP) (GTP : FnOk P w K mg base CX0 5 fTP fdTP ["_law_heads", "_law_rounds"] (spDueP K))
    (NDu : Fn K mg "_law_due_part" sDueP ["_law_heads", "_law_rounds"] fDu fdDu) (GDu : FnOk P w K mg base CX0 3 fDu fdDu ["_law_heads", "_law_rounds"] (spDueP K)) :
    FnOk P w K mg base CX0 11 f fd ["_law_script"] (spLaw K) := by
  refine F.F.ok scLaw (fun vs H Q E h => ?_) (fun cdv A outer s H vs Q E hr h => ?_)
  · obtain ⟨a, ns, rfl, _⟩ := h
    rfl
  · obtain ⟨a, ns, rfl, hS, hlen, k⟩ := h
    have nd := scLaw.nd
    have hu := hu_of hr
    have hr1 := hr.mono (show 1 ≤ 10 by decide)
    have hr2 := hr.mono (show 2 ≤ 10 by decide)
    have hr3 := hr.mono (show 3 ≤ 10 by decide)
    have hr4 := hr.mono (show 4 ≤ 10 by decide)
    have hr5 := hr.mono (show 5 ≤ 10 by decide)
    have hr7 := hr.mono (show 7 ≤ 10 by decide)
    refine ⟨_, pss_cons (ps_set (i := 1) nd rfl (Or.inr rfl) (pe_call GH hr1 (by rfl) NH.m NH.F.kp NH.b .nil pass0 (pa_cons (pv 0) pa_nil)))
      (Evl.pss_cut (ps_setLc (i := 2) (own := [("_law_turn", 3)]) (g := gName 3) (tt := tYes) rfl nd rfl rfl (sw_true rfl rfl rfl (by decide +kernel)) (pi_range1 (by rfl) T.range (pa_cons pe_int pa_nil)) (blkOk_by (N := ["_law_script", "_law_hand_here", "_law_specs", "_law_turn", "_law_spec", "_law_one", "_law_other", "_law_due", "_law_heads", "_law_rounds", "_law_raw"]) (sc := defScope sLaw) (by decide +kernel)) (fun _ _ _ _ _ => pg_name (i := 3) nd rfl (Or.inl rfl)) (fun _ _ _ _ _ => pts_nil) (fun _ _ _ _ _ => (pe_call GS hr4 (by rfl) NS.m NS.F.kp NS.b .nil pass0 (pa_cons (pv 1) pa_nil))))
      (Evl.pss_cut (ps_if (pt_cmpR op_eq (pe_call GD hr1 (by rfl) ND.m ND.F.kp ND.b .nil pass0 (pa_cons (pv 1) (pa_cons pe_int pa_nil))) pe_int (nomark _)) (pss_one (ps_asg (pe_tup (pa_cons pe_str (pa_cons (pe_ix ix_tup (pe_ix (ix_list : IxR _ (rIxL K)) (pv 2) pe_int (fun _ _ => rfl)) pe_int (fun _ _ => rfl)) (pa_cons (pe_op op_rep1 (pe_ix ix_tup (pe_ix (ix_list : IxR _ (rIxL K)) (pv 2) pe_int (fun _ _ => rfl)) pe_int (fun _ _ => rfl)) (pe_op op_add pe_int (pe_callTy call_int1 (by rfl) T.int (by decide +kernel) (pa_cons (pe_cmpR op_lt (pe_callB call_len (by rfl) T.len PySem.boot_len (pa_cons (pe_ix ix_tup (pe_ix (ix_list : IxR _ (rIxL K)) (pv 2) pe_int (fun _ _ => rfl)) pe_int (fun _ _ => rfl)) pa_nil)) pe_int (nomark _)) pa_nil)))) pa_nil)))) (pg_sub (pv 2) pe_int set_list))) pss_nil)
      (Evl.pss_cut (ps_for PassesOwn.never rfl (pi_list (pv 2)) (pg_name (i := 4) nd rfl (Or.inl rfl)) (pss_one (ps_if (pt_not (pt_val (pe_call GR hr (by rfl) NR.m NR.F.kp NR.b .nil pass0 (pa_cons (pv 4) pa_nil)))) (pss_one (ps_ret pe_bl)) pss_nil)))
      (Evl.pss_cut (ps_for PassesOwn.never rfl (pi_list (pv 2)) (pg_name (i := 5) nd rfl (Or.inl rfl)) (Evl.pss_cut (ps_for PassesOwn.never rfl (pi_list (pv 2)) (pg_name (i := 6) nd rfl (Or.inl rfl)) (pss_cons (ps_set (i := 7) nd rfl (Or.inl rfl) (pe_cmpR (op_eqD hr.units) (pe_call GT hr2 (by rfl) NT.m NT.F.kp NT.b .nil pass0 (pa_cons (pv 5) (pa_cons pe_int pa_nil))) (pe_call GT hr2 (by rfl) NT.m NT.F.kp NT.b .nil pass0 (pa_cons (pv 6) (pa_cons pe_int pa_nil))) (nomark _))) (pss_one (ps_if (pt_not (pt_val (pe_call GF hr1 (by rfl) NF.m NF.F.kp NF.b .nil pass0 (pa_cons (pe_cmpR (op_eqO GE hr1 bE pass0 R.ow) (pe_call GA hr5 (by rfl) NA.m NA.F.kp NA.b .nil pass0 (pa_cons (pv 5) pa_nil)) (pe_call GA hr5 (by rfl) NA.m NA.F.kp NA.b .nil pass0 (pa_cons (pv 6) pa_nil)) (nomark _)) (pa_cons (pv 7) pa_nil))))) (pss_one (ps_ret pe_bl)) pss_nil)))) (pss_one (ps_for PassesOwn.never rfl (pi_range1 (by rfl) T.range (pa_cons pe_int pa_nil)) (pg_name (i := 3) nd rfl (Or.inl rfl)) (pss_cons (ps_asg (pe_call GB hr3 (by rfl) NB.m NB.F.kp NB.b .nil pass0 (pa_cons (pv 1) (pa_cons (pv 5) pa_nil))) (pg_tup rfl (pgs_cons (pg_name (i := 8) nd rfl (Or.inl rfl)) (pgs_cons (pg_name (i := 9) nd rfl (Or.inl rfl)) pgs_nil)))) (pss_one (ps_if (pt_not (pt_val (pe_call GI hr4 (by rfl) NI.m NI.F.kp NI.b .nil pass0 (pa_cons (pe_lst (pa_cons (pe_call GTP hr5 (by rfl) NTP.m NTP.F.kp NTP.b .nil pass0 (pa_cons (pv 8) (pa_cons (pv 9) pa_nil))) pa_nil)) (pa_cons (pe_lst (pa_cons (pe_call GDu hr3 (by rfl) NDu.m NDu.F.kp NDu.b .nil pass0 (pa_cons (pv 8) (pa_cons (pv 9) pa_nil))) pa_nil)) pa_nil))))) (pss_one (ps_ret pe_bl)) pss_nil)))))))
      (pss_cons (ps_set (i := 10) nd rfl (Or.inl rfl) (pe_call GA hr5 (by rfl) NA.m NA.F.kp NA.b .nil pass0 (pa_cons (pe_ix (ix_list : IxR _ (rIxL K)) (pv 2) pe_int (fun _ _ => rfl)) pa_nil)))
      (pss_one (ps_ret (pe_cmpR (op_notInO GE hr2 hu bE pass0 R.ow GEL hr2 bEL pass0 L.ow nf cc) (pv 10) (pe_lst (pa_cons (pe_slice sl_tupA (pe_ix (ix_list : IxR _ (rIxL K)) (pv 2) pe_int (fun _ _ => rfl)) (po_some pe_int) po_none) (pa_cons pe_non (pa_cons pe_str (pa_cons (pe_make LF.M GLI hr7 (by rfl) L.mgL LF.b .nil passL (pa_cons pe_str (pa_cons (pe_tup pa_nil) pa_nil))) pa_nil))))) (by rfl))))))))), ?_⟩
    refine ⟨_, rfl, a, ns, rfl, hS, by omega, fun p c cells H1 s1 hp0 hA => ?_⟩
    clear hS s1 hp0
    refine ⟨fun σ' H' => ∃ (l : Addr) (vs : List V), σ' = [some (.ref a), some (.ref p), some (.ref l), none, none, none, none, none, none, none, none] ∧ LawIn K H' p c cells l vs, ?_, ?_⟩
    · refine ⟨3, rfl, by decide, by decide, fun D hD => ?_⟩
      have hDp := hA.fresh hD
      have hDc : D ≠ c := fun z => by rw [z, hA.cl] at hD; cases hD
      have hDG : del H1 p D = none := by rw [del_ne hDp]; exact hD
      have a0 := same_new (o := .lst []) (same_refl H1) hD
      refine lc_range (lo := 0) (n := (3 : Int).toNat) (fun i H' => HandAt H' p c cells ∧ Same (del H1 p) (del H' p) ∧ ∃ vs : List V, vs.length = i ∧ H' D = some (.lst vs) ∧ ∀ v ∈ vs, ∃ hs rs, RawSp K (del H' p) v hs rs ∧ RawOk hs rs) ⟨hA.same a0, del_same_of a0, [], rfl, upd_same, fun v hv => by cases hv⟩ ?_ ?_
      · rintro i H' hi ⟨hA3, sd3, vs, hM, hD3, hsp⟩
        have hi3 : i < 3 := hi
        refine ⟨rfl, ?_⟩
        refine yes_kept ?_
        refine ⟨_, rfl, p, c, cells, rfl, hA3, fun v hs rs H4 hA4 sd4 hv ok => ?_⟩
        have hD4 : H4 D = some (.lst vs) := del_le _ _ (sd4 _ _ (by rw [del_ne hDp]; exact hD3))
        have off : ∀ b, b ≠ D → del (upd H4 D (.lst (vs ++ [v]))) p b = del H4 p b := fun b hb => by
          by_cases e : b = p
          · rw [e, del_same, del_same]
          · rw [del_ne e, del_ne e, upd_ne hb]
        have dl : del H4 p D = some (.lst vs) := by rw [del_ne hDp]; exact hD4
        refine ⟨_, hD4, small1000 (by omega), hA4.upd hDp hDc, same_upd (same_trans sd3 sd4) hDG, vs ++ [v], by rw [List.length_append, hM]; rfl, upd_same, fun u hu => ?_⟩
        obtain hu | hu := List.mem_append.mp hu
        · obtain ⟨hs', rs', q, ok'⟩ := hsp u hu
          exact ⟨hs', rs', (q.same sd4).off dl off, ok'⟩
        · rw [List.mem_singleton] at hu
          subst hu
          exact ⟨hs, rs, hv.off dl off, ok⟩
      · rintro H2 ⟨hA2, sd2, vs, hvs, hD2, hsp⟩
        exact ⟨D, vs, rfl, hA2, hD2, hDp, hDc, hvs, hsp⟩
    clear hA H1
    rintro _ H1 ⟨l, vs, rfl, hI⟩
    refine ⟨fun σ' H' => ∃ (vs : List V), σ' = [some (.ref a), some (.ref p), some (.ref l), none, none, none, none, none, none, none, none] ∧ LawIn K H' p c cells l vs, ?_, ?_⟩
    · refine ⟨_, rfl, p, c, cells, 3, rfl, hI.hand, by decide, by decide, fun r H2 _ _ hA2 o2 => ?_⟩
      have hI2 := hI.draw hA2 (del_off o2)
      refine ⟨rfl, _, rfl, ?_⟩
      refine ite2 (fun _ => ?_) (fun _ => ?_)
      · obtain ⟨v0, v1, v2, rfl⟩ : ∃ v0 v1 v2, vs = [v0, v1, v2] := by
          have := hI.len
          match vs, this with
          | [v0, v1, v2], _ => exact ⟨v0, v1, v2, rfl⟩
        obtain ⟨hs, rs, hsp, ok⟩ := hI2.sp v0 (by simp)
        obtain ⟨a0, th, tr, rfl, ha, hth, htr⟩ := hsp.same del_le
        have L0 := SqL.of (K := K) hI2.lst
        refine ⟨_, rfl, l, _, _, .ref a0, rfl, rfl, L0, rfl, a0, _, _, .ref th, rfl, rfl, SqT.of ha, rfl, ?_⟩
        refine ⟨_, rfl, l, _, _, .ref a0, rfl, rfl, L0, rfl, a0, _, _, .ref tr, rfl, rfl, SqT.of ha, rfl, ?_⟩
        refine ⟨_, rfl, l, _, _, .ref a0, rfl, rfl, L0, rfl, a0, _, _, .ref tr, rfl, rfl, SqT.of ha, rfl, _, _, rfl, .inr ⟨_, htr, rfl⟩, _, _, rfl, rfl, .inr ⟨_, rfl, _, _, rfl, rfl, ?_⟩⟩
        refine rep_raw htr ok (fun t' G3 rs' s3 ht' ok' => ?_) ?_
        · refine ⟨(by show 3 ≤ sizeLine; decide), fun q hq => ?_⟩
          have s4 := same_new (o := .tup [.str "raw", .ref th, .ref t']) (same_refl G3) hq
          have f4 : upd G3 q (.tup [.str "raw", .ref th, .ref t']) q = some (.tup [.str "raw", .ref th, .ref t']) := upd_same
          have nq := (hA2.same s3).fresh hq
          generalize upd G3 q (.tup [.str "raw", .ref th, .ref t']) = G4 at *
          have hI4 := (hI2.same s3).same s4
          have hp4 := hI4.hand
          obtain ⟨lp, elp⟩ := hp4.some
          have new : RawSp K (del G4 p) (.ref q) hs rs' := ⟨q, th, t', rfl, by rw [del_ne nq]; exact f4, sqt_del (sqt_same hth (same_trans s3 s4)) elp, sqt_del (sqt_same ht' s4) elp⟩
          refine ⟨_, rfl, l, _, 1, 1, rfl, rfl, hI4.lst, rfl, ?_⟩
          have off : ∀ b, b ≠ l → del (upd G4 l (.lst [.ref a0, .ref q, v2])) p b = del G4 p b := fun b hb => by
            by_cases e : b = p
            · rw [e, del_same, del_same]
            · rw [del_ne e, del_ne e, upd_ne hb]
          have dl : del G4 p l = some (.lst [.ref a0, v1, v2]) := by rw [del_ne hI4.nl]; exact hI4.lst
          refine ⟨[.ref a0, .ref q, v2], rfl, hp4.upd hI4.nl hI4.nc, upd_same, hI4.nl, hI4.nc, rfl, fun u hu => ?_⟩
          show ∃ hs rs, RawSp K (del (upd G4 l (.lst [.ref a0, .ref q, v2])) p) u hs rs ∧ RawOk hs rs
          simp only [List.mem_cons, List.not_mem_nil, or_false] at hu
          rcases hu with rfl | rfl | rfl
          · obtain ⟨h', r', q1, q2⟩ := hI4.sp (.ref a0) (by simp)
            exact ⟨h', r', q1.off dl off, q2⟩
          · exact ⟨hs, rs', new.off dl off, ok'⟩
          · obtain ⟨h', r', q1, q2⟩ := hI4.sp u (by simp)
            exact ⟨h', r', q1.off dl off, q2⟩
        · rw [List.length_map, Bool.eq_iff_iff, decide_eq_true_eq, decide_eq_true_eq]; omega
      · exact ⟨vs, rfl, hI2⟩
    clear hI H1 vs
    rintro _ H1 ⟨vs, rfl, hI⟩
    refine ⟨fun σ' H' => ∃ (o4 : Option V), σ' = [some (.ref a), some (.ref p), some (.ref l), none, o4, none, none, none, none, none, none] ∧ LawIn K H' p c cells l vs, ?_, ?_⟩
    · refine ⟨_, rfl, l, rfl, ⟨_, SqL.of hI.lst⟩, for_list (xs := vs) (fun i σ H' => ∃ (o4 : Option V), σ = [some (.ref a), some (.ref p), some (.ref l), none, o4, none, none, none, none, none, none] ∧ LawIn K H' p c cells l vs) ⟨none, rfl, hI⟩ (fun i σ H' _ q => by
        obtain ⟨_, _, q⟩ := q
        exact SqL.of q.lst) ?_ ?_⟩
      · rintro i v σ H' hv ⟨o4, rfl, hI'⟩
        obtain ⟨hs, rs, hsp, ok⟩ := hI'.sp v (List.mem_of_getElem? hv)
        refine ⟨_, rfl, v, hs, rs, rfl, hsp.same del_le, ok, fun H2 s2 => ⟨_, rfl, ?_⟩⟩
        refine ifF rfl ?_
        exact ⟨_, rfl, hI'.same s2⟩
      · rintro σ H' ⟨o4, rfl, hI'⟩
        exact ⟨_, rfl, hI'⟩
    clear hI H1
    rintro _ H1 ⟨o4, rfl, hI⟩
    refine ⟨fun σ' H' => ∃ (o3 o4 o5 o6 o7 o8 o9 : Option V), σ' = [some (.ref a), some (.ref p), some (.ref l), o3, o4, o5, o6, o7, o8, o9, none] ∧ LawIn K H' p c cells l vs, ?_, ?_⟩
    · refine ⟨_, rfl, l, rfl, ⟨_, SqL.of hI.lst⟩, for_list (xs := vs) (fun i σ H' => ∃ (o3 o4 o5 o6 o7 o8 o9 : Option V), σ = [some (.ref a), some (.ref p), some (.ref l), o3, o4, o5, o6, o7, o8, o9, none] ∧ LawIn K H' p c cells l vs) ⟨none, o4, none, none, none, none, none, rfl, hI⟩ (fun i σ H' _ q => by
        obtain ⟨_, _, _, _, _, _, _, _, q⟩ := q
        exact SqL.of q.lst) ?_ ?_⟩
      · clear hI H1
        rintro i v σ H1 hv ⟨o3, o4, o5, o6, o7, o8, o9, rfl, hI⟩
        have hvm := List.mem_of_getElem? hv
        clear hv
        refine ⟨fun σ' H' => ∃ (o6 o7 : Option V), σ' = [some (.ref a), some (.ref p), some (.ref l), o3, o4, some v, o6, o7, o8, o9, none] ∧ LawIn K H' p c cells l vs, ?_, ?_⟩
        · refine ⟨_, rfl, l, rfl, ⟨_, SqL.of hI.lst⟩, for_list (xs := vs) (fun i σ H' => ∃ (o6 o7 : Option V), σ = [some (.ref a), some (.ref p), some (.ref l), o3, o4, some v, o6, o7, o8, o9, none] ∧ LawIn K H' p c cells l vs) ⟨o6, o7, rfl, hI⟩ (fun i σ H' _ q => by
            obtain ⟨_, _, _, q⟩ := q
            exact SqL.of q.lst) ?_ ?_⟩
          · clear hI H1
            rintro j v' σ H1 hv' ⟨o6, o7, rfl, hI⟩
            obtain ⟨hs, rs, hsp, ok⟩ := hI.sp v hvm
            obtain ⟨hs', rs', hsp', ok'⟩ := hI.sp v' (List.mem_of_getElem? hv')
            replace hsp := hsp.same del_le
            replace hsp' := hsp'.same del_le
            have h8 := ok.h8
            have r6 := ok.r6
            have h8' := ok'.h8
            have r6' := ok'.r6
            refine ⟨_, rfl, v, hs, rs, 70, rfl, hsp, by omega, ok.r1, by omega, by decide, fun f1 H2 s2 n1 h1 => ?_⟩
            refine ⟨_, rfl, v', hs', rs', 70, rfl, hsp'.same s2, by omega, ok'.r1, by omega, by decide, fun f2 H3 s3 n2 h2 => ?_⟩
            have ed : PyData.eqv (.list ((rawL hs rs (70 + 1)).map PyData.bool)) (.list ((rawL hs' rs' (70 + 1)).map PyData.bool)) = decide (rawL hs rs 71 = rawL hs' rs' 71) := eqv_bools _ _
            refine ⟨_, _, .lst (SqL.of (s3 _ _ h1)) (dp_bools _), .lst (SqL.of h2) (dp_bools _), shaped_lst bools_flat, shaped_lst bools_flat, ?_⟩
            rw [ed]
            have s23 := same_trans s2 s3
            refine ⟨_, rfl, v, hs, rs, rfl, hsp.same s23, ok, fun x H4 s4 _ hx => ?_⟩
            refine ⟨_, rfl, v', hs', rs', rfl, hsp'.same (same_trans s23 s4), ok', fun x' H5 s5 _ hx' => ?_⟩
            replace hx := hx.same s5
            obtain ⟨dx, _, _, _, ob, _⟩ := hx.ob
            obtain ⟨dx', _, _, _, ob', _⟩ := hx'.ob
            refine ⟨x, x', dx, dx', _, _, rfl, rfl, ob, ob', x, .ref x', hs, rs, rfl, hx, .inl ⟨x', hs', rs', rfl, hx', _, rfl, ?_⟩⟩
            rw [raw_eq ok ok' 71 (by decide)]
            refine ⟨_, rfl, _, rfl, _, rfl, ?_⟩
            refine ifF rfl ?_
            exact ⟨_, _, rfl, hI.same (same_trans s23 (same_trans s4 s5))⟩
          · rintro σ H' ⟨o6, o7, rfl, hI'⟩
            exact ⟨_, _, rfl, hI'⟩
        · clear hI H1
          rintro _ H1 ⟨o6, o7, rfl, hI⟩
          refine ⟨2, rfl, by decide, by decide, for_range (lo := 0) (n := (2 : Int).toNat) (fun i σ H' => ∃ (o3 o8 o9 : Option V), σ = [some (.ref a), some (.ref p), some (.ref l), o3, o4, some v, o6, o7, o8, o9, none] ∧ LawIn K H' p c cells l vs) ⟨o3, o8, o9, rfl, hI⟩ ?_ ?_⟩
          · clear hI H1
            rintro j σ H1 hj ⟨o3, o8, o9, rfl, hI⟩
            obtain ⟨hs, rs, hsp, ok⟩ := hI.sp v hvm
            have h8 := ok.h8
            have r6 := ok.r6
            refine ⟨_, rfl, _, rfl, p, c, cells, v, hs, rs, rfl, hI.hand, hsp, by omega, by omega, fun t vw vm wd mk H2 hA2 sd2 ht hw hm => ?_⟩
            have hI2 := hI.draw hA2 sd2
            replace hw := hw.same del_le
            replace hm := hm.same del_le
            refine ⟨t, _, rfl, SqT.of (del_le _ _ ht), rfl, _, _, rfl, _, _, rfl, rfl, ?_⟩
            refine ⟨_, rfl, _, rfl, vw, vm, wd, mk, rfl, hw, hm, fun H3 s3 => ?_⟩
            refine ⟨(by show 1 ≤ sizeLine; decide), fun l1 n1 => ?_⟩
            have s4 := same_new (o := .lst [oS (dueRaw wd mk)]) (same_refl H3) n1
            have f4 : upd H3 l1 (.lst [oS (dueRaw wd mk)]) l1 = some (.lst [oS (dueRaw wd mk)]) := upd_same
            generalize upd H3 l1 (.lst [oS (dueRaw wd mk)]) = G4 at *
            have s34 := same_trans s3 s4
            refine ⟨_, rfl, _, rfl, vw, vm, wd, mk, rfl, hw.same s34, hm.same s34, fun H5 s5 => ?_⟩
            refine ⟨(by show 1 ≤ sizeLine; decide), fun l2 n2 => ?_⟩
            have s6 := same_new (o := .lst [oS (dueRaw wd mk)]) (same_refl H5) n2
            have ff : fl (oS (dueRaw wd mk)) = true := by cases dueRaw wd mk <;> rfl
            refine ⟨_, _, rfl, trq_one (s6 _ _ (s5 _ _ f4)) upd_same (trq_flat ff), fun H7 s7 => ⟨_, rfl, ?_⟩⟩
            refine ifF rfl ?_
            exact ⟨_, _, _, rfl, hI2.same (same_trans s34 (same_trans s5 (same_trans s6 s7)))⟩
          · rintro σ H' ⟨o3, o8, o9, rfl, hI'⟩
            exact ⟨_, _, _, _, _, _, _, rfl, hI'⟩
      · rintro σ H' ⟨o3, o4, o5, o6, o7, o8, o9, rfl, hI'⟩
        exact ⟨_, _, _, _, _, _, _, rfl, hI'⟩
    clear hI H1
    rintro _ H1 ⟨o3, o4, o5, o6, o7, o8, o9, rfl, hI⟩
    obtain ⟨v0, v1, v2, rfl⟩ : ∃ v0 v1 v2, vs = [v0, v1, v2] := by
      have := hI.len
      match vs, this with
      | [v0, v1, v2], _ => exact ⟨v0, v1, v2, rfl⟩
    obtain ⟨hs, rs, hsp, ok⟩ := hI.sp v0 (by simp)
    replace hsp := hsp.same del_le
    refine ⟨_, rfl, l, _, _, v0, rfl, rfl, SqL.of hI.lst, rfl, v0, hs, rs, rfl, hsp, ok, fun x H2 s2 nx hx => ?_⟩
    obtain ⟨a0, th, tr, rfl, ha, hth, htr⟩ := hsp.same s2
    refine ⟨_, rfl, _, rfl, l, _, _, .ref a0, rfl, rfl, SqL.of (hI.same s2).lst, rfl, _, rfl, ?_⟩
    unfold tNoPart
    refine ⟨a0, _, rfl, SqT.of ha, fun w => absurd w.1 (by show ¬ HT.sIx 3 0 (some 1) = 0; decide), fun _ bq hbq => ?_⟩
    have sb := same_new (o := .tup (cutV [V.str "raw", .ref th, .ref tr] (some 1) none)) (same_refl H2) hbq
    have fb : upd H2 bq (.tup (cutV [V.str "raw", .ref th, .ref tr] (some 1) none)) bq = some (.tup (cutV [V.str "raw", .ref th, .ref tr] (some 1) none)) := upd_same
    generalize cutV [V.str "raw", .ref th, .ref tr] (some 1) none = cut at *
    generalize upd H2 bq (.tup cut) = G2 at *
    refine ⟨(by show 0 ≤ sizeLine; decide), fun t0 ht0 => ?_⟩
    have sa0 := same_new (o := .tup []) (same_refl G2) ht0
    have ta0 : upd G2 t0 (.tup []) t0 = some (.tup []) := upd_same
    generalize upd G2 t0 (.tup []) = F0 at *
    refine fun x0 dx0 nx0 ndx0 nex0 => ?_
    have sb0 : Same F0 (upd (upd F0 dx0 (.own x0)) x0 (.ins CL dx0 [])) := fun b o e => by rw [upd_ne (ne_of_none e nx0), upd_ne (ne_of_none e ndx0)]; exact e
    obtain ⟨qa0, qb0⟩ := spec_mk (K := K) (M := []) (plain_ok (z := "once") (by simp)) (SqT.of (K := K) (sb0 _ _ ta0))
    refine ⟨x0, dx0, _, _, some "once", _, rfl, upd_same, rfl, qa0, fun _ G3 z' M' t' kept' e1 e2 off hl0 => ⟨rfl, ?_⟩, fun part e => by rw [qb0] at e; cases e⟩
    have s3 : Same G2 G3 := fun b o e => off b o (ne_of_none (sa0 _ _ e) nx0) (sb0 _ _ (sa0 _ _ e))
    clear off e2 qa0 qb0
    refine ⟨(by show 4 ≤ sizeLine; decide), fun ll hll => ?_⟩
    have s4 := same_new (o := .lst [.ref bq, .non, .str "raw", .ref x0]) (same_refl G3) hll
    have f4 : upd G3 ll (.lst [.ref bq, .non, .str "raw", .ref x0]) ll = some (.lst [.ref bq, .non, .str "raw", .ref x0]) := upd_same
    generalize upd G3 ll (.lst [.ref bq, .non, .str "raw", .ref x0]) = G4 at *
    have s24 := same_trans sb (same_trans s3 s4)
    have hx4 := hx.same s24
    have hl4 := hl0.same s4
    have fb4 := s4 _ _ (s3 _ _ fb)
    obtain ⟨dx, _, _, _, ob, _⟩ := hx4.ob
    obtain ⟨dl, svl, obl, _⟩ := hl4.fields
    refine ⟨x, ll, dx, _, _, rfl, rfl, ob, f4, fun u hu => ?_, fun u hu G odd e => ⟨x, u, hs, rs, rfl, hx4.same e, .inr ⟨odd_ext (K := K) odd e, false, rfl, rfl, Ext.rfl'⟩⟩, fun u hu b dy gs eu hb G e => ?_, fun G e => k G⟩
    · simp only [List.mem_cons, List.not_mem_nil, or_false] at hu
      rcases hu with rfl | rfl | rfl | rfl
      · exact .inl (.inr (.inr ⟨_, _, rfl, SqT.of fb4⟩))
      · exact .inl (.inr (.inl rfl))
      · exact .inl (.inl ⟨_, rfl⟩)
      · exact .inr ⟨x0, dl, _, rfl, obl⟩
    · subst eu
      simp only [List.mem_cons, List.not_mem_nil, or_false] at hu
      rcases hu with hu | hu | hu | hu
      · cases V.ref.inj hu
        rw [fb4] at hb; cases hb
      · cases hu
      · cases hu
      · cases V.ref.inj hu
        exact ⟨x0, x, z', M', t', kept', rfl, hl4.same e, ⟨dx, _, e _ _ ob⟩, false, rfl, rfl, Ext.rfl'⟩
end
end K03

set_option Elab.async false
set_option linter.all false
set_option maxRecDepth 100000
set_option maxHeartbeats 5000000
namespace K03
open PySem L2
/-- a def of the text as the top has left it -/
def DefPack (K : PySem.W.Frag) (x : Str) (st : Stmt) (ps : List Str) : Prop := ∃ (f : Addr) (fd : FuncData), PySem.W.nsIn K mainGlobals x = some (some (.ref f)) ∧ Fun K x x st f fd ∧ Binds K fd ps []
theorem DefPack.fn {K : PySem.W.Frag} {h : Heap} {mg : Str → Option Value} {x : Str} {st : Stmt} {ps : List Str} (X : K.In h) (G : h.Ns mainGlobals mg) (d : DefPack K x st ps) : ∃ f fd, Fn K mg x st ps f fd := by
  obtain ⟨f, fd, a, F, b⟩ := d
  exact ⟨f, fd, F, b, PySem.W.mg_of X G a⟩
theorem def_mk {K : PySem.W.Frag} {x : Str} {st : Stmt} {ps : List Str} {f : Addr} {oc : Value} {od an : Option Addr} {osl : Array (Option Value)} {kV doc pm cdv ct : Value} (a : PySem.W.nsIn K mainGlobals x = some (some (.ref f)))
    (l : K.lookup f = some ⟨oc, od, .func (PySem.W.fnOf x x (defArgs st) (defBody st) (defScope st) .none kV doc pm an cdv ct), osl⟩) (c : PySem.W.codeIn K cdv x = true) (k : PySem.W.keepIn K (.ref f) = true)
    (h : ∀ (kV doc pm : Value) (an : Option Addr) (cdv ct : Value) (us : List Value), us.length = ps.length → bindArgs (PySem.W.fnOf x x (defArgs st) (defBody st) (defScope st) .none kV doc pm an cdv ct) ⟨us, []⟩ = pure (ps.zip us)) : DefPack K x st ps :=
  ⟨f, _, a, fun_mk l c k, (fun_mk l c k).binds h⟩
/-- an error class of the text as the top has left it -/
structure CF (K : PySem.W.Frag) (CE D : Addr) (nm : Str) : Prop where
  x : ∃ q N bs sn sub ab col dd k0 k1 k2 k3 k5, K.lookup D = some (excClassObj nm q D N bs [.ref CE, .type "ValueError", .type "Exception", .type "BaseException", .type "object"] true sn sub ab col dd k0 k1 k2 k3 k5 "ValueError.__new__")
  sa : PySem.W.findIn K (.ref D) "__setattr__" = some (some (.builtin "object.__setattr__"))
  ga : PySem.W.findIn K (.ref D) "__getattribute__" = some (some (.builtin "BaseException.__getattribute__"))
  gg : PySem.W.findIn K (.ref D) "__getattr__" = some none
  tyC : PySem.W.typeIn K (.ref D) = some (.type "type")
  kC : PySem.W.keepIn K (.ref D) = true
  haC : PySem.W.findIn K (.ref D) "__class__" = some (some (.builtin "object.__class__"))
theorem CF.cls {K : PySem.W.Frag} {CE C : Addr} {nm : Str} (h : CF K CE C nm) : ∃ cd, PySem.W.clsIn K C = some cd ∧ cd.name = nm ∧ cd.mro = [.ref C, .ref CE, .type "ValueError", .type "Exception", .type "BaseException", .type "object"] ∧ cd.hasDict = true := by
  obtain ⟨q, N, bs, sn, sub, ab, col, dd, k0, k1, k2, k3, k5, e⟩ := h.x
  refine ⟨_, by unfold PySem.W.clsIn; rw [e] <;> rfl, rfl, rfl, rfl⟩
theorem CF.ne {K : PySem.W.Frag} {CE C C' : Addr} {nm nm' : Str} (h : CF K CE C nm) (h' : CF K CE C' nm') (hn : nm ≠ nm') : C ≠ C' := fun z => by
  obtain ⟨cd, e, n, _⟩ := h.cls
  obtain ⟨cd', e', n', _⟩ := h'.cls
  rw [z, e'] at e
  cases e
  exact hn (n.symm.trans n')
theorem CF.mro {K : PySem.W.Frag} {CE C : Addr} {nm : Str} (h : CF K CE C nm) (b : Value) : PySem.W.mroIn K C b = some ([Value.ref C, .ref CE, .type "ValueError", .type "Exception", .type "BaseException", .type "object"].contains b) := by
  obtain ⟨cd, e, _, m, _⟩ := h.cls
  unfold PySem.W.mroIn
  rw [e, Option.bind_some, m]
  rfl
theorem CF.kitR {K : PySem.W.Frag} {CE C C' : Addr} {nm nm' : Str} (h : CF K CE C nm) (h' : CF K CE C' nm') : PySem.W.kitOne K (.ref C) (.ref C') = some (decide (C = C') || decide (C' = CE)) := by
  unfold PySem.W.kitOne
  by_cases e : C = C'
  · subst e
    rw [if_pos (beq_self_eq_true _), decide_eq_true rfl]
    rfl
  · have hbf : (Value.ref C == Value.ref C') = false := beq_eq_false_iff_ne.mpr fun z => e (Value.ref.inj z)
    rw [hbf, if_neg Bool.false_ne_true]
    obtain ⟨cd, ec, _⟩ := h'.cls
    show (if ((PySem.W.clsIn K C').isSome && PySem.W.typeIn K (.ref C') == some (.type "type")) = true then PySem.W.subIn K (.ref C) (.ref C') else none) = _
    rw [ec, h'.tyC, if_pos (by rfl)]
    show PySem.W.mroIn K C (.ref C') = _
    rw [h.mro]
    have e2 : ¬ C' = C := fun z => e z.symm
    by_cases e3 : C' = CE
    · subst e3; simp
    · simp [e, e2, e3]

theorem CF.errC {K : PySem.W.Frag} {CE C : Addr} {nm : Str} (h : CF K CE C nm) (hn : PySem.W.specialIn K (.builtin "object.__class__") "__get__" = some (some (.builtin "getset_descriptor.__get__"))) (ht : PySem.W.takesIn K (.builtin "object.__class__") = some true) : ErrC K C := by
  have exC : PySem.W.subIn K (.ref C) (.type "BaseException") = some true := (h.mro _).trans (by simp)
  have hd : PySem.W.hasDictIn K C = true := by
    obtain ⟨cd, e, _, _, d⟩ := h.cls
    unfold PySem.W.hasDictIn
    rw [e]
    exact d
  obtain ⟨q, N, bs, sn, sub, ab, col, dd, k0, k1, k2, k3, k5, e⟩ := h.x
  exact ⟨⟨⟨nm, q, N, bs, _, sn, sub, ab, col, dd, k0, k1, k2, k3, k5, e, (show PySem.HandSPX.refsVE [.type "ValueError", .type "Exception", .type "BaseException", .type "object"] = true by decide +kernel)⟩, h.sa, exC, h.tyC, h.kC⟩, ⟨h.ga, h.gg, exC, hd⟩, h.haC, ⟨hn, ht⟩, (h.mro _).trans (by simp)⟩

def ClsPack (K : PySem.W.Frag) (CE : Addr) (nm qual : Str) (st : Stmt) (ps : List Str) (fs : Option Str) : Prop := ∃ (C fI : Addr) (fd : FuncData), PySem.W.nsIn K mainGlobals nm = some (some (.ref C)) ∧ CF K CE C nm ∧ Fun K "__init__" qual st fI fd ∧ Binds K fd ps [] ∧
  PySem.W.findIn K (.ref C) "__init__" = some (some (.ref fI)) ∧ PySem.W.typeIn K (.ref fI) = some (.type "function") ∧ ∀ f, fs = some f → PySem.W.findIn K (.ref C) f = some none
theorem cls_mk {K : PySem.W.Frag} {CE C fI : Addr} {nm qual : Str} {st : Stmt} {ps : List Str} {fs : Option Str} {q : Str} {N : Addr} {bs : List Value} {sn : List Str} {sub : List Value} {ab : Bool} {col : Option Bool} {dd : Option Addr} {k0 k1 k2 k3 k5 : Option Value}
    {oc : Value} {od an : Option Addr} {osl : Array (Option Value)} {kV doc pm cdv ct : Value} (a : PySem.W.nsIn K mainGlobals nm = some (some (.ref C)))
    (x : K.lookup C = some (excClassObj nm q C N bs [.ref CE, .type "ValueError", .type "Exception", .type "BaseException", .type "object"] true sn sub ab col dd k0 k1 k2 k3 k5 "ValueError.__new__"))
    (sa : PySem.W.findIn K (.ref C) "__setattr__" = some (some (.builtin "object.__setattr__"))) (ga : PySem.W.findIn K (.ref C) "__getattribute__" = some (some (.builtin "BaseException.__getattribute__"))) (gg : PySem.W.findIn K (.ref C) "__getattr__" = some none)
    (ty : PySem.W.typeIn K (.ref C) = some (.type "type")) (kC : PySem.W.keepIn K (.ref C) = true) (ha : PySem.W.findIn K (.ref C) "__class__" = some (some (.builtin "object.__class__")))
    (i : PySem.W.findIn K (.ref C) "__init__" = some (some (.ref fI))) (t : PySem.W.typeIn K (.ref fI) = some (.type "function"))
    (l : K.lookup fI = some ⟨oc, od, .func (PySem.W.fnOf "__init__" qual (defArgs st) (defBody st) (defScope st) .none kV doc pm an cdv ct), osl⟩) (c : PySem.W.codeIn K cdv qual = true) (k : PySem.W.keepIn K (.ref fI) = true)
    (h : ∀ (kV doc pm : Value) (an : Option Addr) (cdv ct : Value) (us : List Value), us.length = ps.length → bindArgs (PySem.W.fnOf "__init__" qual (defArgs st) (defBody st) (defScope st) .none kV doc pm an cdv ct) ⟨us, []⟩ = pure (ps.zip us))
    (nf : ∀ f, fs = some f → PySem.W.findIn K (.ref C) f = some none) : ClsPack K CE nm qual st ps fs :=
  ⟨C, fI, _, a, ⟨⟨q, N, bs, sn, sub, ab, col, dd, k0, k1, k2, k3, k5, x⟩, sa, ga, gg, ty, kC, ha⟩, fun_mk l c k, (fun_mk l c k).binds h, i, t, nf⟩
/-- a method as the top has left it -/
def MethPack (K : PySem.W.Frag) (C : Addr) (nm qual : Str) (st : Stmt) (ps : List Str) : Prop := ∃ (f : Addr) (fd : FuncData), PySem.W.findIn K (.ref C) nm = some (some (.ref f)) ∧ PySem.W.isFn K (.ref f) = true ∧ PySem.W.keepIn K (.ref f) = true ∧ Fun K nm qual st f fd ∧ Binds K fd ps []
theorem meth_mk {K : PySem.W.Frag} {C f : Addr} {nm qual : Str} {st : Stmt} {ps : List Str} {oc : Value} {od an : Option Addr} {osl : Array (Option Value)} {kV doc pm cdv ct : Value}
    (i : PySem.W.findIn K (.ref C) nm = some (some (.ref f))) (n : PySem.W.isFn K (.ref f) = true) (l : K.lookup f = some ⟨oc, od, .func (PySem.W.fnOf nm qual (defArgs st) (defBody st) (defScope st) .none kV doc pm an cdv ct), osl⟩) (c : PySem.W.codeIn K cdv qual = true) (k : PySem.W.keepIn K (.ref f) = true)
    (h : ∀ (kV doc pm : Value) (an : Option Addr) (cdv ct : Value) (us : List Value), us.length = ps.length → bindArgs (PySem.W.fnOf nm qual (defArgs st) (defBody st) (defScope st) .none kV doc pm an cdv ct) ⟨us, []⟩ = pure (ps.zip us)) : MethPack K C nm qual st ps :=
  ⟨f, _, i, n, k, fun_mk l c k, (fun_mk l c k).binds h⟩
/-- Sums as the top has left it -/
structure SumsPack (K : PySem.W.Frag) (CS : Addr) : Prop where
  a : PySem.W.nsIn K mainGlobals "Sums" = some (some (.ref CS))
  cl : Cls K CS
  nL : NoAttr K CS "_least"
  nS : NoAttr K CS "step"
  nM : NoAttr K CS "makers"
  nF : NoAttr K CS "far"
  mks : PySem.W.makesIn K CS = true
  kc : PySem.W.keepIn K (.ref CS) = true
  m0 : MethPack K CS "__init__" "Sums.__init__" sSInit ["self", "numbers"]
  m1 : MethPack K CS "has" "Sums.has" sSHas ["self", "number"]
  m2 : MethPack K CS "_widen" "Sums._widen" sSWiden ["self", "maker"]
  m3 : MethPack K CS "_go_round" "Sums._go_round" sSRound ["self", "start", "maker", "length"]
theorem sums_mk {K : PySem.W.Frag} {CS : Addr} (a : PySem.W.nsIn K mainGlobals "Sums" = some (some (.ref CS))) (pg : PySem.W.plainGet K CS Str.empty = true) (hd : PySem.W.hasDictIn K CS = true) (po : PySem.W.plainOver K CS = true) (sa : PySem.W.findIn K (.ref CS) "__setattr__" = some (some (.builtin "object.__setattr__")))
    (n1 : PySem.W.findIn K (.ref CS) "_least" = some none) (n2 : PySem.W.findIn K (.ref CS) "step" = some none) (n3 : PySem.W.findIn K (.ref CS) "makers" = some none) (n4 : PySem.W.findIn K (.ref CS) "far" = some none) (mk : PySem.W.makesIn K CS = true) (kc : PySem.W.keepIn K (.ref CS) = true)
    (m0 : MethPack K CS "__init__" "Sums.__init__" sSInit ["self", "numbers"]) (m1 : MethPack K CS "has" "Sums.has" sSHas ["self", "number"]) (m2 : MethPack K CS "_widen" "Sums._widen" sSWiden ["self", "maker"]) (m3 : MethPack K CS "_go_round" "Sums._go_round" sSRound ["self", "start", "maker", "length"]) : ∃ CS, SumsPack K CS :=
  ⟨CS, a, ⟨pg, hd, po, sa⟩, n1, n2, n3, n4, mk, kc, m0, m1, m2, m3⟩
/-- Lot as the top has left it -/
structure LotPack (K : PySem.W.Frag) (CL aW : Addr) : Prop where
  aL : PySem.W.nsIn K mainGlobals "Lot" = some (some (.ref CL))
  cl : Cls K CL
  nW : NoAttr K CL "word"
  nM : NoAttr K CL "makers"
  nS : NoAttr K CL "_sums"
  aWn : PySem.W.nsIn K mainGlobals "WORDS" = some (some (.ref aW))
  words : ∀ H : Hp, SqT K H aW [.str "once", .str "loan", .str "free", .str "more"]
  ha : PySem.W.findIn K (.ref CL) "__class__" = some (some (.builtin "object.__class__"))
  ty : PySem.W.typeIn K (.ref CL) = some (.type "type")
  ne : PySem.W.findIn K (.ref CL) "__ne__" = some (some (.builtin "object.__ne__"))
  hm : PySem.W.mroIn K CL (.type "object") = some true
  hS : PySem.W.mroIn K CL (.type "str") = some false
  hT : PySem.W.mroIn K CL (.type "tuple") = some false
  hN : PySem.W.mroIn K CL (.type "NoneType") = some false
  mks : PySem.W.makesIn K CL = true
  kc : PySem.W.keepIn K (.ref CL) = true
  m0 : MethPack K CL "__init__" "Lot.__init__" sLInit ["self", "word", "makers"]
  m1 : MethPack K CL "_take" "Lot._take" sTake ["self", "sums"]
  m2 : MethPack K CL "__eq__" "Lot.__eq__" sLEq ["self", "other"]
  m3 : MethPack K CL "has" "Lot.has" sLHas ["self", "number"]
theorem lot_mk {K : PySem.W.Frag} {CL aW : Addr} {dW : Option Addr} {nW : Nat} {slW : Array (Option Value)} {u1 u2 u3 u4 : Tok}
    (aL : PySem.W.nsIn K mainGlobals "Lot" = some (some (.ref CL))) (pg : PySem.W.plainGet K CL Str.empty = true) (hd : PySem.W.hasDictIn K CL = true) (po : PySem.W.plainOver K CL = true) (sa : PySem.W.findIn K (.ref CL) "__setattr__" = some (some (.builtin "object.__setattr__")))
    (n1 : PySem.W.findIn K (.ref CL) "word" = some none) (n2 : PySem.W.findIn K (.ref CL) "makers" = some none) (n3 : PySem.W.findIn K (.ref CL) "_sums" = some none)
    (aw : PySem.W.nsIn K mainGlobals "WORDS" = some (some (.ref aW))) (lw : K.lookup aW = some ⟨.type "tuple", dW, .seq #[.str "once" u1, .str "loan" u2, .str "free" u3, .str "more" u4] nW, slW⟩)
    (ha : PySem.W.findIn K (.ref CL) "__class__" = some (some (.builtin "object.__class__"))) (ty : PySem.W.typeIn K (.ref CL) = some (.type "type")) (ne : PySem.W.findIn K (.ref CL) "__ne__" = some (some (.builtin "object.__ne__")))
    (hm : PySem.W.mroIn K CL (.type "object") = some true) (hS : PySem.W.mroIn K CL (.type "str") = some false) (hT : PySem.W.mroIn K CL (.type "tuple") = some false) (hN : PySem.W.mroIn K CL (.type "NoneType") = some false) (mk : PySem.W.makesIn K CL = true) (kc : PySem.W.keepIn K (.ref CL) = true)
    (m0 : MethPack K CL "__init__" "Lot.__init__" sLInit ["self", "word", "makers"]) (m1 : MethPack K CL "_take" "Lot._take" sTake ["self", "sums"]) (m2 : MethPack K CL "__eq__" "Lot.__eq__" sLEq ["self", "other"]) (m3 : MethPack K CL "has" "Lot.has" sLHas ["self", "number"]) :
    ∃ CL aW, LotPack K CL aW :=
  ⟨CL, aW, aL, ⟨pg, hd, po, sa⟩, n1, n2, n3, aw, fun H => .inr ⟨⟨.type "tuple", dW, .seq #[.str "once" u1, .str "loan" u2, .str "free" u3, .str "more" u4] nW, slW⟩, _, nW, lw, rfl, rfl, (by show 4 ≤ sizeLine; decide), .cons ⟨_, rfl⟩ (.cons ⟨_, rfl⟩ (.cons ⟨_, rfl⟩ (.cons ⟨_, rfl⟩ .nil)))⟩, ha, ty, ne, hm, hS, hT, hN, mk, kc, m0, m1, m2, m3⟩
theorem kit_cls_no {K : PySem.W.Frag} {CL : Addr} {T : String} (hd : PySem.W.hasDictIn K CL = true) (ty : PySem.W.typeIn K (.ref CL) = some (.type "type")) (sub : PySem.W.subIn K (.type T) (.ref CL) = some false) : PySem.W.kitOne K (.type T) (.ref CL) = some false := by
  unfold PySem.W.kitOne
  rw [show (Value.type T == Value.ref CL) = false from rfl, if_neg Bool.false_ne_true]
  obtain ⟨cd, hc, _⟩ := PySem.W.any_some hd
  show (if ((PySem.W.clsIn K CL).isSome && PySem.W.typeIn K (.ref CL) == some (.type "type")) = true then PySem.W.subIn K (.type T) (.ref CL) else none) = _
  rw [hc, ty, if_pos (by rfl)]
  exact sub
/-- RawLot as the top has left it -/
structure RawPack (K : PySem.W.Frag) (CR : Addr) : Prop where
  aR : PySem.W.nsIn K mainGlobals "RawLot" = some (some (.ref CR))
  cl : Cls K CR
  nH : NoAttr K CR "heads"
  nR : NoAttr K CR "rounds"
  nT : NoAttr K CR "_told"
  nK : PySem.W.findIn K (.ref CR) "_take" = some none
  ha : PySem.W.findIn K (.ref CR) "__class__" = some (some (.builtin "object.__class__"))
  ty : PySem.W.typeIn K (.ref CR) = some (.type "type")
  ne : PySem.W.findIn K (.ref CR) "__ne__" = some (some (.builtin "object.__ne__"))
  hm : PySem.W.mroIn K CR (.type "object") = some true
  hS : PySem.W.mroIn K CR (.type "str") = some false
  hT : PySem.W.mroIn K CR (.type "tuple") = some false
  hN : PySem.W.mroIn K CR (.type "NoneType") = some false
  mks : PySem.W.makesIn K CR = true
  kc : PySem.W.keepIn K (.ref CR) = true
  m0 : MethPack K CR "__init__" "RawLot.__init__" sRInit ["self", "heads", "rounds"]
  m1 : MethPack K CR "__eq__" "RawLot.__eq__" sREq ["self", "other"]
  m2 : MethPack K CR "has" "RawLot.has" sRHas ["self", "number"]
theorem raw_mk {K : PySem.W.Frag} {CL CR : Addr}
    (aL : PySem.W.nsIn K mainGlobals "Lot" = some (some (.ref CL))) (aR : PySem.W.nsIn K mainGlobals "RawLot" = some (some (.ref CR))) (sub : PySem.W.subIn K (.ref CR) (.ref CL) = some false) (pg : PySem.W.plainGet K CR Str.empty = true) (hd : PySem.W.hasDictIn K CR = true) (po : PySem.W.plainOver K CR = true) (sa : PySem.W.findIn K (.ref CR) "__setattr__" = some (some (.builtin "object.__setattr__")))
    (n1 : PySem.W.findIn K (.ref CR) "heads" = some none) (n2 : PySem.W.findIn K (.ref CR) "rounds" = some none) (n3 : PySem.W.findIn K (.ref CR) "_told" = some none) (n4 : PySem.W.findIn K (.ref CR) "_take" = some none)
    (ha : PySem.W.findIn K (.ref CR) "__class__" = some (some (.builtin "object.__class__"))) (ty : PySem.W.typeIn K (.ref CR) = some (.type "type")) (ne : PySem.W.findIn K (.ref CR) "__ne__" = some (some (.builtin "object.__ne__")))
    (hm : PySem.W.mroIn K CR (.type "object") = some true) (hS : PySem.W.mroIn K CR (.type "str") = some false) (hT : PySem.W.mroIn K CR (.type "tuple") = some false) (hN : PySem.W.mroIn K CR (.type "NoneType") = some false) (mk : PySem.W.makesIn K CR = true) (kc : PySem.W.keepIn K (.ref CR) = true)
    (m0 : MethPack K CR "__init__" "RawLot.__init__" sRInit ["self", "heads", "rounds"]) (m1 : MethPack K CR "__eq__" "RawLot.__eq__" sREq ["self", "other"]) (m2 : MethPack K CR "has" "RawLot.has" sRHas ["self", "number"]) :
    ∃ CL CR, PySem.W.nsIn K mainGlobals "Lot" = some (some (.ref CL)) ∧ PySem.W.subIn K (.ref CR) (.ref CL) = some false ∧ RawPack K CR :=
  ⟨CL, CR, aL, sub, aR, ⟨pg, hd, po, sa⟩, n1, n2, n3, n4, ha, ty, ne, hm, hS, hT, hN, mk, kc, m0, m1, m2⟩
theorem kit_ref_no {K : PySem.W.Frag} {CL CR : Addr} (ne : CR ≠ CL) (hd : PySem.W.hasDictIn K CL = true) (ty : PySem.W.typeIn K (.ref CL) = some (.type "type")) (sub : PySem.W.subIn K (.ref CR) (.ref CL) = some false) : PySem.W.kitOne K (.ref CR) (.ref CL) = some false := by
  unfold PySem.W.kitOne
  rw [show (Value.ref CR == Value.ref CL) = false from beq_eq_false_iff_ne.mpr (fun z => ne (Value.ref.inj z)), if_neg Bool.false_ne_true]
  obtain ⟨cd, hc, _⟩ := PySem.W.any_some hd
  show (if ((PySem.W.clsIn K CL).isSome && PySem.W.typeIn K (.ref CL) == some (.type "type")) = true then PySem.W.subIn K (.ref CR) (.ref CL) else none) = _
  rw [hc, ty, if_pos (by rfl)]
  exact sub
def LawPack (K : PySem.W.Frag) : Prop := ∃ (f : Addr) (fd : FuncData), PySem.W.nsIn K mainGlobals "law" = some (some (.ref f)) ∧ Fun K "law" "law" sLaw f fd ∧ Binds K fd ["_law_script"] [] ∧ ∀ (s : Shared) (v : Value), BindsTo s fd ⟨[v], []⟩ [("_law_script", v)]
theorem law_mk {K : PySem.W.Frag} {f : Addr} {oc : Value} {od an : Option Addr} {osl : Array (Option Value)} {kV doc pm cdv ct : Value} (a : PySem.W.nsIn K mainGlobals "law" = some (some (.ref f)))
    (l : K.lookup f = some ⟨oc, od, .func (PySem.W.fnOf "law" "law" (defArgs sLaw) (defBody sLaw) (defScope sLaw) .none kV doc pm an cdv ct), osl⟩) (c : PySem.W.codeIn K cdv "law" = true) (k : PySem.W.keepIn K (.ref f) = true) : LawPack K :=
  ⟨f, _, a, fun_mk l c k, (fun_mk l c k).binds (fun _ _ _ _ _ _ us hl => match us, hl with | [_], _ => rfl), fun s v => .of_eq rfl⟩
theorem all_mk {l : PySem.W.OpenLaw} {w : World} {K : PySem.W.Frag} {h : Heap} {mg : Str → Option Value} {fa CE : Addr} {v0 v1 v2 v3 v4 : Tok} (X : K.In h) (G : h.Ns mainGlobals mg) (hfa : mg "law" = some (.ref fa))
    {q : Str} {N : Addr} {bs : List Value} {sn : List Str} {sub : List Value} {ab : Bool} {col : Option Bool} {dd : Option Addr} {m0 m1 m2 m3 m5 : Option Value}
    (aE : PySem.W.nsIn K mainGlobals "CountsError" = some (some (.ref CE)))
    (xE : K.lookup CE = some (excClassObj "CountsError" q CE N bs [.type "ValueError", .type "Exception", .type "BaseException", .type "object"] true sn sub ab col dd m0 m1 m2 m3 m5 "ValueError.__new__"))
    (tE : PySem.W.typeIn K (.ref CE) = some (.type "type")) (sE : PySem.W.subIn K (.ref CE) (.type "BaseException") = some true) (hE : PySem.W.hasDictIn K CE = true)
    (hn : PySem.W.specialIn K (.builtin "object.__class__") "__get__" = some (some (.builtin "getset_descriptor.__get__"))) (ht : PySem.W.takesIn K (.builtin "object.__class__") = some true) (pB : ClsPack K CE "BadLot" "BadLot.__init__" sBadInit ["self", "part"] (some "part"))
    (gg : PySem.W.nsIn K mainGlobals "gcd" = some (some (.builtin "math.gcd")))
    (c0 : PySem.W.nsIn K mainGlobals "MOST_MAKERS" = some (some (.int 4 v0)))
    (c1 : PySem.W.nsIn K mainGlobals "GREATEST_MAKER" = some (some (.int 12 v1)))
    (c2 : PySem.W.nsIn K mainGlobals "MOST_HEADS" = some (some (.int 8 v2)))
    (c3 : PySem.W.nsIn K mainGlobals "MOST_ROUNDS" = some (some (.int 6 v3)))
    (c4 : PySem.W.nsIn K mainGlobals "ENOUGH" = some (some (.int 68 v4)))
    (d0 : DefPack K "_law_hand" sHand ["_law_script"])
    (d1 : DefPack K "_law_draw" sDraw ["_law_hand_here", "_law_many"])
    (d2 : DefPack K "_law_some" sSome ["_law_hand_here", "_law_things"])
    (d3 : DefPack K "_law_is" sIs ["_law_told", "_law_due"])
    (d4 : DefPack K "_law_deep" sDeep ["_law_kind"])
    (d5 : DefPack K "_law_flag" sFlag ["_law_told", "_law_due"])
    (d6 : DefPack K "_law_sums" sSums ["_law_makers", "_law_most"])
    (d7 : DefPack K "_law_told_numbers" sTold ["_law_spec", "_law_most"])
    (d8 : DefPack K "_law_least_makers" sLeast ["_law_flags"])
    (d9 : DefPack K "_law_lot_spec" sSpec ["_law_hand_here"])
    (d10 : DefPack K "_law_raw_spec" sRawSpec ["_law_hand_here"])
    (d11 : DefPack K "_law_any_lot" sAny ["_law_spec"])
    (d12 : DefPack K "_law_are_flags" sAre ["_law_thing", "_law_least", "_law_most"])
    (d13 : DefPack K "_law_due_part" sDueP ["_law_heads", "_law_rounds"])
    (d14 : DefPack K "_law_told_part" sToldP ["_law_heads", "_law_rounds"])
    (d15 : DefPack K "_law_due_lot" sDueLot ["_law_spec"])
    (d16 : DefPack K "_law_right" sRight ["_law_spec"])
    (d17 : DefPack K "_law_bent" sBent ["_law_hand_here", "_law_spec"])
    (d18 : DefPack K "is_integer" sInteger ["thing"])
    (d19 : DefPack K "is_integer_within" sWithin ["low", "high", "thing"])
    (d20 : DefPack K "is_flags_within" sFlags ["fewest", "most", "thing"])
    (d21 : DefPack K "_lesser" sLesser ["total", "other"])
    (d22 : DefPack K "_is_makers" sMk ["word", "thing"])
    (d23 : DefPack K "_more" sMore ["sums"])
    (d24 : DefPack K "told_lot" sToldLot ["raw"])
    (pS : ∃ CS, SumsPack K CS) (pL : ∃ CL aW, LotPack K CL aW) (pR : ∃ CL CR, PySem.W.nsIn K mainGlobals "Lot" = some (some (.ref CL)) ∧ PySem.W.subIn K (.ref CR) (.ref CL) = some false ∧ RawPack K CR) (pW : LawPack K)
    (z0 : PySem.W.nsIn K mainGlobals "abs" = some none) (z1 : PySem.W.nsIn K mainGlobals "int" = some none) (z2 : PySem.W.nsIn K mainGlobals "len" = some none) (z3 : PySem.W.nsIn K mainGlobals "isinstance" = some none) (z4 : PySem.W.nsIn K mainGlobals "all" = some none) (z5 : PySem.W.nsIn K mainGlobals "range" = some none) (z6 : PySem.W.nsIn K mainGlobals "tuple" = some none) (z7 : PySem.W.nsIn K mainGlobals "list" = some none) (z8 : PySem.W.nsIn K mainGlobals "dict" = some none) (z9 : PySem.W.nsIn K mainGlobals "bool" = some none) (z10 : PySem.W.nsIn K mainGlobals "str" = some none) (z11 : PySem.W.nsIn K mainGlobals "sorted" = some none) (z12 : PySem.W.nsIn K mainGlobals "max" = some none) (z13 : PySem.W.nsIn K mainGlobals "any" = some none) :
    ∃ fd : FuncData, (∀ (s : Shared) (v : Value), BindsTo s fd ⟨[v], []⟩ [("_law_script", v)]) ∧ ∀ base : Heap, K.In base → base.Ns mainGlobals mg → FnOk l.prog w K mg base CX0 11 fa fd ["_law_script"] (spLaw K) := by
  obtain ⟨fw, fdw, aw, Fw, bb, bw⟩ := pW
  have e := hfa.symm.trans (PySem.W.mg_of X G aw)
  cases e
  obtain ⟨CB, fB, fdB, aB, cB, FB, bB, iB, tB, nB⟩ := pB
  obtain ⟨g0, gd0, D0⟩ := d0.fn X G
  obtain ⟨g1, gd1, D1⟩ := d1.fn X G
  obtain ⟨g2, gd2, D2⟩ := d2.fn X G
  obtain ⟨g3, gd3, D3⟩ := d3.fn X G
  obtain ⟨g4, gd4, D4⟩ := d4.fn X G
  obtain ⟨g5, gd5, D5⟩ := d5.fn X G
  obtain ⟨g6, gd6, D6⟩ := d6.fn X G
  obtain ⟨g7, gd7, D7⟩ := d7.fn X G
  obtain ⟨g8, gd8, D8⟩ := d8.fn X G
  obtain ⟨g9, gd9, D9⟩ := d9.fn X G
  obtain ⟨g10, gd10, D10⟩ := d10.fn X G
  obtain ⟨g11, gd11, D11⟩ := d11.fn X G
  obtain ⟨g12, gd12, D12⟩ := d12.fn X G
  obtain ⟨g13, gd13, D13⟩ := d13.fn X G
  obtain ⟨g14, gd14, D14⟩ := d14.fn X G
  obtain ⟨g15, gd15, D15⟩ := d15.fn X G
  obtain ⟨g16, gd16, D16⟩ := d16.fn X G
  obtain ⟨g17, gd17, D17⟩ := d17.fn X G
  obtain ⟨g18, gd18, D18⟩ := d18.fn X G
  obtain ⟨g19, gd19, D19⟩ := d19.fn X G
  obtain ⟨g20, gd20, D20⟩ := d20.fn X G
  obtain ⟨g21, gd21, D21⟩ := d21.fn X G
  obtain ⟨g22, gd22, D22⟩ := d22.fn X G
  obtain ⟨g23, gd23, D23⟩ := d23.fn X G
  obtain ⟨g24, gd24, D24⟩ := d24.fn X G
  obtain ⟨CS, SP⟩ := pS
  obtain ⟨CL, aW, LP⟩ := pL
  obtain ⟨CL2, CR, aL2, sub, RP⟩ := pR
  have eL : CL2 = CL := Value.ref.inj (Option.some.inj (Option.some.inj (aL2.symm.trans LP.aL)))
  subst eL
  obtain ⟨fS, fdS, iS, nS, kS, FS, bS⟩ := SP.m0
  obtain ⟨fH, fdH, iH, nH, kH, FH, bH⟩ := SP.m1
  obtain ⟨fW, fdW, iW, nW, kW, FW, bW⟩ := SP.m2
  obtain ⟨fR, fdR, iR, nR, kR, FR, bR⟩ := SP.m3
  obtain ⟨fI, fdI, iI, nI', kI, FI, bI⟩ := LP.m0
  obtain ⟨fT, fdT, iT, nT, kT, FT, bT⟩ := LP.m1
  obtain ⟨fE, fdE, iE, nE, kE, FE, bE⟩ := LP.m2
  obtain ⟨fLH, fdLH, iLH, nLH, kLH, FLH, bLH⟩ := LP.m3
  obtain ⟨fRI, fdRI, iRI, nRI, kRI, FRI, bRI⟩ := RP.m0
  obtain ⟨fRE, fdRE, iRE, nRE, kRE, FRE, bRE⟩ := RP.m1
  obtain ⟨fRH, fdRH, iRH, nRH, kRH, FRH, bRH⟩ := RP.m2
  have ncc : CL2 ≠ CR := fun z => by
    have := RP.nK
    rw [← z, iT] at this
    cases this
  have hCE : CB ≠ CE := fun z => by
    obtain ⟨cd, e, nm, _⟩ := cB.cls
    unfold PySem.W.clsIn at e
    rw [z, xE] at e
    cases e
    exact absurd (show ("CountsError" : Str) = "BadLot" from nm) (by decide +kernel)
  have T : TxB mg := ⟨PySem.W.mg_none_of X G z0, PySem.W.mg_none_of X G z1, PySem.W.mg_none_of X G z2, PySem.W.mg_none_of X G z3, PySem.W.mg_none_of X G z4, PySem.W.mg_none_of X G z5⟩
  have T2 : TxD mg := ⟨PySem.W.mg_none_of X G z6, PySem.W.mg_none_of X G z7, PySem.W.mg_none_of X G z8, PySem.W.mg_none_of X G z9, PySem.W.mg_none_of X G z10, PySem.W.mg_none_of X G z11, PySem.W.mg_none_of X G z12, PySem.W.mg_none_of X G z13, PySem.W.mg_of X G gg⟩
  have TN : TxN mg := ⟨⟨_, PySem.W.mg_of X G c0⟩, ⟨_, PySem.W.mg_of X G c1⟩⟩
  have TR : TxR mg := ⟨⟨_, PySem.W.mg_of X G c2⟩, ⟨_, PySem.W.mg_of X G c3⟩, ⟨_, PySem.W.mg_of X G c4⟩⟩
  have B : BadT K mg CB fB fdB := { err := cB.errC hn ht, no := nB _ rfl, m := PySem.W.mg_of X G aB, F := FB, b := bB, i := iB, t := tB }
  have TT : ToldT K mg CB CE := {
    gE := PySem.W.mg_of X G aE
    exm := PySem.W.exm_ref sE hE tE ((cB.mro _).trans (by simp))
    k1 := by rw [cB.kitR cB, decide_eq_true rfl, Bool.true_or] }
  have Lo : LotT K mg CL2 aW fE := { cl := LP.cl, nW := LP.nW, nM := LP.nM, nS := LP.nS, mgL := PySem.W.mg_of X G LP.aL, mgW := PySem.W.mg_of X G LP.aWn, words := LP.words, ha := LP.ha, cg := hn, cTk := ht, ow := ⟨iE, nE, LP.ne, LP.hm, LP.hS, LP.hT, LP.hN⟩ }
  have LK : LotK K CL2 := { me := by unfold PySem.W.kitOne; rw [if_pos (beq_self_eq_true _)], st := kit_cls_no LP.cl.hd LP.ty (by rfl), tu := kit_cls_no LP.cl.hd LP.ty (by rfl), no := kit_cls_no LP.cl.hd LP.ty (by rfl) }
  have LF : LotF K mg CL2 fI fdI := { M := ⟨LP.mks, iI, nI', LP.kc⟩, b := bI }
  have ST : SumT K CS := { cl := SP.cl, nL := SP.nL, nS := SP.nS, nM := SP.nM, nF := SP.nF }
  have SF : SumsF K mg CS fS fH fW fR fdS fdH fdW fdR := { M := ⟨SP.mks, iS, nS, SP.kc⟩, m := PySem.W.mg_of X G SP.a, F := FS, b := bS, FH := FH, bH := bH, mH := ⟨iH, nH, kH⟩, FW := FW, bW := bW, mW := ⟨iW, nW, kW⟩, FR := FR, bR := bR, mR := ⟨iR, nR, kR⟩, S := ST }
  have Ro : RawT K mg CR fRE := { cl := RP.cl, nH := RP.nH, nR := RP.nR, nT := RP.nT, mgR := PySem.W.mg_of X G RP.aR, ha := RP.ha, cg := hn, cTk := ht, ow := ⟨iRE, nRE, RP.ne, RP.hm, RP.hS, RP.hT, RP.hN⟩ }
  have RK : RawK K CR := { me := by unfold PySem.W.kitOne; rw [if_pos (beq_self_eq_true _)], st := kit_cls_no RP.cl.hd RP.ty (by rfl), tu := kit_cls_no RP.cl.hd RP.ty (by rfl), no := kit_cls_no RP.cl.hd RP.ty (by rfl) }
  have RF : RawF K mg CR fRI fdRI := { M := ⟨RP.mks, iRI, nRI, RP.kc⟩, b := bRI }
  have kx := kit_ref_no ncc.symm LP.cl.hd LP.ty sub
  have nfst : PySem.W.notFirst K CL2 (.ref CR) = true := by unfold PySem.W.notFirst; rw [sub]; simp
  refine ⟨fdw, bw, fun base _ _ => ?_⟩
  have GI : FnOk l.prog w K mg base (L2.CX l.prog w) 6 fI fdI ["self", "word", "makers"] (spLInit K CL2 CS CB) := ok_linit FI T T2 TN Lo D22 D19 D18 FT bT ⟨iT, nT, kT⟩ SF D21 B
  have GSI : FnOk l.prog w K mg base CX0 4 fS fdS ["self", "numbers"] (spSInit K CS) := ok_sinit SF.F SF.FH SF.bH SF.mH SF.FW SF.bW SF.mW SF.FR SF.bR SF.mR D21 T T2 SF.S
  have GRI : FnOk l.prog w K mg base (L2.CX l.prog w) 3 fRI fdRI ["self", "heads", "rounds"] (spRInit K CR CB) := ok_rinit FRI T T2 TR Ro D20 FRH bRH ⟨iRH, nRH, kRH⟩ B
  have GA := ok_any (base := base) (w := w) D11 GRI Ro RF
  have GTL := ok_toldLot (base := base) (w := w) D24 D23 GI Lo LF FT bT ⟨iT, nT, kT⟩ SF GSI FLH bLH ⟨iLH, nLH, kLH⟩ FRH bRH ⟨iRH, nRH, kRH⟩ T T2 TR Ro
  have GTN := ok_toldN (P := l.prog) (base := base) (w := w) D7 D6 T T2
  have GTR := ok_toldR (P := l.prog) (base := base) (w := w) D7 T T2
  have GLm := ok_least (P := l.prog) (base := base) (w := w) D8 T T2
  have GDL := ok_dueLot (base := base) (w := w) D15 D7 GTR D8 GLm T T2
  have GIs := ok_is (P := l.prog) (base := base) (w := w) D3 T T2 3
  have GFl := ok_flag (P := l.prog) (base := base) (w := w) D5 T T2
  have GD := ok_draw (P := l.prog) (base := base) (w := w) (K := K) (mg := mg) D1.F T
  have GSp := ok_spec (P := l.prog) (base := base) (w := w) D9 D1 D2 T T2
  have GRS := ok_rawSpec (base := base) (w := w) D10 D1 GD D7 GTN D9 GSp T T2
  have GR := ok_right (base := base) (w := w) D16 D11 GA D24 GTL D15 GDL D3 GIs T Lo LK
  exact ok_law ⟨Fw, bb, hfa⟩ T T2 Lo Ro D0 (ok_hand D0.F T) D1 GD D10 GRS D16 GR D7 GTR D5 GFl D11 GA
    (ok_req FRE T Ro RK) bRE (ok_leqX FE T Lo Ro kx) bE nfst ncc LF GI D17 (ok_bent D17 D1 D2 D4 T T2) D3 GIs
    D14 (ok_toldP D14 GRI Ro RF B TT T) D13 (ok_dueP D13 D12 (ok_are D12 T T2) D7 GTR)
theorem walk {l : PySem.W.OpenLaw} {q : Program} {loose : List Str} {XP : (Str → Option Value) → Heap → Prop} {YP : World → Heap → Prop} {d : DefRec} {K : Params → PySem.W.Frag} (hn : l.most = some 63) (hdf : d.params.defaults = [])
    (hY : ∀ (w : World) (h : Heap), YP w h → (K w.params).In h)
    (F : ∀ (w : World) (mg : Str → Option Value) (fa : Addr) (h : Heap), (K w.params).In h → h.Ns mainGlobals mg → mg d.name = some (.ref fa) →
      ∃ fd : FuncData, (∀ (s : Shared) (u : Value), BindsTo s fd ⟨[u], []⟩ [("_law_script", u)]) ∧ ∀ base : Heap, (K w.params).In base → base.Ns mainGlobals mg → FnOk l.prog w (K w.params) mg base CX0 11 fa fd ["_law_script"] (spLaw (K w.params))) :
    PySem.W.WalkO q loose XP YP l.row.toRowW d [] (fun f vs => PySem.call f vs) :=
  L2.walk_of (n := 63) (k := 11) (x := "_law_script") (CX := fun _ => CX0) (sp := fun w => spLaw (K w.params)) hn (by decide) hdf ⟨rfl, by decide, by decide⟩ hY F (fun _ _ a ns hl _ hS => ⟨a, ns, rfl, hS, hl, fun _ => rfl⟩) fun _ _ _ _ _ z => z
end K03

open PySem PySem.W PyProof.Rows
set_option Elab.async false
set_option maxRecDepth 100000 in
set_option maxHeartbeats 0 in
theorem PySem.Challenge.cw_usecounts_k03_whole_raw_lots_told_holds : PySem.Challenge.rw_usecounts_k03_whole_raw_lots_told.Holds := by
  w_on; o_law; k_head; (case hw => w_witness2)
  k_fill
  refine K03.walk (l := PySem.Challenge.rw_usecounts_k03_whole_raw_lots_told) rfl rfl (fun w h Y => PySem.W.kIn_of Y) ?F
  case F =>
    intro w mg fa h KX G hmg
    refine' K03.all_mk KX G hmg ?aE ?xE ?tE ?sE ?hE ?hn ?ht ?pB ?gg ?c0 ?c1 ?c2 ?c3 ?c4 ?d0 ?d1 ?d2 ?d3 ?d4 ?d5 ?d6 ?d7 ?d8 ?d9 ?d10 ?d11 ?d12 ?d13 ?d14 ?d15 ?d16 ?d17 ?d18 ?d19 ?d20 ?d21 ?d22 ?d23 ?d24 ?pS ?pL ?pR ?pW ?z0 ?z1 ?z2 ?z3 ?z4 ?z5 ?z6 ?z7 ?z8 ?z9 ?z10 ?z11 ?z12 ?z13
    (case aE => k_is)
    (case xE => k_is)
    (case tE => k_is)
    (case sE => k_is)
    (case hE => k_is)
    (case hn => k_is)
    (case ht => k_is)
    (case gg => k_is)
    (case c0 => k_is)
    (case c1 => k_is)
    (case c2 => k_is)
    (case c3 => k_is)
    (case c4 => k_is)
    (case pB => (refine' K03.cls_mk ?pBa ?pBx ?pBsa ?pBga ?pBgg ?pBty ?pBkC ?pBha ?pBi ?pBt ?pBl ?pBc ?pBk ?pBh ?pBf; (case pBa => k_is); (case pBx => k_is); (case pBsa => k_is); (case pBga => k_is); (case pBgg => k_is); (case pBty => k_is); (case pBkC => k_is); (case pBha => k_is); (case pBi => k_is); (case pBt => k_is); (case pBl => k_is); (case pBc => k_is); (case pBk => k_is); (case pBh => exact fun _ _ _ _ _ _ us hl => match us, hl with | [_, _], _ => rfl); (case pBf => intro f hf; cases hf; k_is)))
    (case d0 => (refine' K03.def_mk ?d0a ?d0l ?d0c ?d0k ?d0h; (case d0a => k_is); (case d0l => k_is); (case d0c => k_is); (case d0k => k_is); (case d0h => exact fun _ _ _ _ _ _ us hl => match us, hl with | [_], _ => rfl)))
    (case d1 => (refine' K03.def_mk ?d1a ?d1l ?d1c ?d1k ?d1h; (case d1a => k_is); (case d1l => k_is); (case d1c => k_is); (case d1k => k_is); (case d1h => exact fun _ _ _ _ _ _ us hl => match us, hl with | [_, _], _ => rfl)))
    (case d2 => (refine' K03.def_mk ?d2a ?d2l ?d2c ?d2k ?d2h; (case d2a => k_is); (case d2l => k_is); (case d2c => k_is); (case d2k => k_is); (case d2h => exact fun _ _ _ _ _ _ us hl => match us, hl with | [_, _], _ => rfl)))
    (case d3 => (refine' K03.def_mk ?d3a ?d3l ?d3c ?d3k ?d3h; (case d3a => k_is); (case d3l => k_is); (case d3c => k_is); (case d3k => k_is); (case d3h => exact fun _ _ _ _ _ _ us hl => match us, hl with | [_, _], _ => rfl)))
    (case d4 => (refine' K03.def_mk ?d4a ?d4l ?d4c ?d4k ?d4h; (case d4a => k_is); (case d4l => k_is); (case d4c => k_is); (case d4k => k_is); (case d4h => exact fun _ _ _ _ _ _ us hl => match us, hl with | [_], _ => rfl)))
    (case d5 => (refine' K03.def_mk ?d5a ?d5l ?d5c ?d5k ?d5h; (case d5a => k_is); (case d5l => k_is); (case d5c => k_is); (case d5k => k_is); (case d5h => exact fun _ _ _ _ _ _ us hl => match us, hl with | [_, _], _ => rfl)))
    (case d6 => (refine' K03.def_mk ?d6a ?d6l ?d6c ?d6k ?d6h; (case d6a => k_is); (case d6l => k_is); (case d6c => k_is); (case d6k => k_is); (case d6h => exact fun _ _ _ _ _ _ us hl => match us, hl with | [_, _], _ => rfl)))
    (case d7 => (refine' K03.def_mk ?d7a ?d7l ?d7c ?d7k ?d7h; (case d7a => k_is); (case d7l => k_is); (case d7c => k_is); (case d7k => k_is); (case d7h => exact fun _ _ _ _ _ _ us hl => match us, hl with | [_, _], _ => rfl)))
    (case d8 => (refine' K03.def_mk ?d8a ?d8l ?d8c ?d8k ?d8h; (case d8a => k_is); (case d8l => k_is); (case d8c => k_is); (case d8k => k_is); (case d8h => exact fun _ _ _ _ _ _ us hl => match us, hl with | [_], _ => rfl)))
    (case d9 => (refine' K03.def_mk ?d9a ?d9l ?d9c ?d9k ?d9h; (case d9a => k_is); (case d9l => k_is); (case d9c => k_is); (case d9k => k_is); (case d9h => exact fun _ _ _ _ _ _ us hl => match us, hl with | [_], _ => rfl)))
    (case d10 => (refine' K03.def_mk ?d10a ?d10l ?d10c ?d10k ?d10h; (case d10a => k_is); (case d10l => k_is); (case d10c => k_is); (case d10k => k_is); (case d10h => exact fun _ _ _ _ _ _ us hl => match us, hl with | [_], _ => rfl)))
    (case d11 => (refine' K03.def_mk ?d11a ?d11l ?d11c ?d11k ?d11h; (case d11a => k_is); (case d11l => k_is); (case d11c => k_is); (case d11k => k_is); (case d11h => exact fun _ _ _ _ _ _ us hl => match us, hl with | [_], _ => rfl)))
    (case d12 => (refine' K03.def_mk ?d12a ?d12l ?d12c ?d12k ?d12h; (case d12a => k_is); (case d12l => k_is); (case d12c => k_is); (case d12k => k_is); (case d12h => exact fun _ _ _ _ _ _ us hl => match us, hl with | [_, _, _], _ => rfl)))
    (case d13 => (refine' K03.def_mk ?d13a ?d13l ?d13c ?d13k ?d13h; (case d13a => k_is); (case d13l => k_is); (case d13c => k_is); (case d13k => k_is); (case d13h => exact fun _ _ _ _ _ _ us hl => match us, hl with | [_, _], _ => rfl)))
    (case d14 => (refine' K03.def_mk ?d14a ?d14l ?d14c ?d14k ?d14h; (case d14a => k_is); (case d14l => k_is); (case d14c => k_is); (case d14k => k_is); (case d14h => exact fun _ _ _ _ _ _ us hl => match us, hl with | [_, _], _ => rfl)))
    (case d15 => (refine' K03.def_mk ?d15a ?d15l ?d15c ?d15k ?d15h; (case d15a => k_is); (case d15l => k_is); (case d15c => k_is); (case d15k => k_is); (case d15h => exact fun _ _ _ _ _ _ us hl => match us, hl with | [_], _ => rfl)))
    (case d16 => (refine' K03.def_mk ?d16a ?d16l ?d16c ?d16k ?d16h; (case d16a => k_is); (case d16l => k_is); (case d16c => k_is); (case d16k => k_is); (case d16h => exact fun _ _ _ _ _ _ us hl => match us, hl with | [_], _ => rfl)))
    (case d17 => (refine' K03.def_mk ?d17a ?d17l ?d17c ?d17k ?d17h; (case d17a => k_is); (case d17l => k_is); (case d17c => k_is); (case d17k => k_is); (case d17h => exact fun _ _ _ _ _ _ us hl => match us, hl with | [_, _], _ => rfl)))
    (case d18 => (refine' K03.def_mk ?d18a ?d18l ?d18c ?d18k ?d18h; (case d18a => k_is); (case d18l => k_is); (case d18c => k_is); (case d18k => k_is); (case d18h => exact fun _ _ _ _ _ _ us hl => match us, hl with | [_], _ => rfl)))
    (case d19 => (refine' K03.def_mk ?d19a ?d19l ?d19c ?d19k ?d19h; (case d19a => k_is); (case d19l => k_is); (case d19c => k_is); (case d19k => k_is); (case d19h => exact fun _ _ _ _ _ _ us hl => match us, hl with | [_, _, _], _ => rfl)))
    (case d20 => (refine' K03.def_mk ?d20a ?d20l ?d20c ?d20k ?d20h; (case d20a => k_is); (case d20l => k_is); (case d20c => k_is); (case d20k => k_is); (case d20h => exact fun _ _ _ _ _ _ us hl => match us, hl with | [_, _, _], _ => rfl)))
    (case d21 => (refine' K03.def_mk ?d21a ?d21l ?d21c ?d21k ?d21h; (case d21a => k_is); (case d21l => k_is); (case d21c => k_is); (case d21k => k_is); (case d21h => exact fun _ _ _ _ _ _ us hl => match us, hl with | [_, _], _ => rfl)))
    (case d22 => (refine' K03.def_mk ?d22a ?d22l ?d22c ?d22k ?d22h; (case d22a => k_is); (case d22l => k_is); (case d22c => k_is); (case d22k => k_is); (case d22h => exact fun _ _ _ _ _ _ us hl => match us, hl with | [_, _], _ => rfl)))
    (case d23 => (refine' K03.def_mk ?d23a ?d23l ?d23c ?d23k ?d23h; (case d23a => k_is); (case d23l => k_is); (case d23c => k_is); (case d23k => k_is); (case d23h => exact fun _ _ _ _ _ _ us hl => match us, hl with | [_], _ => rfl)))
    (case d24 => (refine' K03.def_mk ?d24a ?d24l ?d24c ?d24k ?d24h; (case d24a => k_is); (case d24l => k_is); (case d24c => k_is); (case d24k => k_is); (case d24h => exact fun _ _ _ _ _ _ us hl => match us, hl with | [_], _ => rfl)))
    (case pS => (refine' K03.sums_mk ?pSa ?pSpg ?pShd ?pSpo ?pSsa ?pSn1 ?pSn2 ?pSn3 ?pSn4 ?pSmk ?pSkc ?pSm0 ?pSm1 ?pSm2 ?pSm3; (case pSa => k_is); (case pSpg => k_is); (case pShd => k_is); (case pSpo => k_is); (case pSsa => k_is); (case pSn1 => k_is); (case pSn2 => k_is); (case pSn3 => k_is); (case pSn4 => k_is); (case pSmk => k_is); (case pSkc => k_is); (case pSm0 => (refine' K03.meth_mk ?pSm0i ?pSm0n ?pSm0l ?pSm0c ?pSm0k ?pSm0h; (case pSm0i => k_is); (case pSm0n => k_is); (case pSm0l => k_is); (case pSm0c => k_is); (case pSm0k => k_is); (case pSm0h => exact fun _ _ _ _ _ _ us hl => match us, hl with | [_, _], _ => rfl))); (case pSm1 => (refine' K03.meth_mk ?pSm1i ?pSm1n ?pSm1l ?pSm1c ?pSm1k ?pSm1h; (case pSm1i => k_is); (case pSm1n => k_is); (case pSm1l => k_is); (case pSm1c => k_is); (case pSm1k => k_is); (case pSm1h => exact fun _ _ _ _ _ _ us hl => match us, hl with | [_, _], _ => rfl))); (case pSm2 => (refine' K03.meth_mk ?pSm2i ?pSm2n ?pSm2l ?pSm2c ?pSm2k ?pSm2h; (case pSm2i => k_is); (case pSm2n => k_is); (case pSm2l => k_is); (case pSm2c => k_is); (case pSm2k => k_is); (case pSm2h => exact fun _ _ _ _ _ _ us hl => match us, hl with | [_, _], _ => rfl))); (case pSm3 => (refine' K03.meth_mk ?pSm3i ?pSm3n ?pSm3l ?pSm3c ?pSm3k ?pSm3h; (case pSm3i => k_is); (case pSm3n => k_is); (case pSm3l => k_is); (case pSm3c => k_is); (case pSm3k => k_is); (case pSm3h => exact fun _ _ _ _ _ _ us hl => match us, hl with | [_, _, _, _], _ => rfl)))))
    (case pL => (refine' K03.lot_mk ?pLaL ?pLpg ?pLhd ?pLpo ?pLsa ?pLn1 ?pLn2 ?pLn3 ?pLaw ?pLlw ?pLha ?pLty ?pLne ?pLhm ?pLhS ?pLhT ?pLhN ?pLmk ?pLkc ?pLm0 ?pLm1 ?pLm2 ?pLm3; (case pLaL => k_is); (case pLpg => k_is); (case pLhd => k_is); (case pLpo => k_is); (case pLsa => k_is); (case pLn1 => k_is); (case pLn2 => k_is); (case pLn3 => k_is); (case pLaw => k_is); (case pLlw => k_is); (case pLha => k_is); (case pLty => k_is); (case pLne => k_is); (case pLhm => k_is); (case pLhS => k_is); (case pLhT => k_is); (case pLhN => k_is); (case pLmk => k_is); (case pLkc => k_is); (case pLm0 => (refine' K03.meth_mk ?pLm0i ?pLm0n ?pLm0l ?pLm0c ?pLm0k ?pLm0h; (case pLm0i => k_is); (case pLm0n => k_is); (case pLm0l => k_is); (case pLm0c => k_is); (case pLm0k => k_is); (case pLm0h => exact fun _ _ _ _ _ _ us hl => match us, hl with | [_, _, _], _ => rfl))); (case pLm1 => (refine' K03.meth_mk ?pLm1i ?pLm1n ?pLm1l ?pLm1c ?pLm1k ?pLm1h; (case pLm1i => k_is); (case pLm1n => k_is); (case pLm1l => k_is); (case pLm1c => k_is); (case pLm1k => k_is); (case pLm1h => exact fun _ _ _ _ _ _ us hl => match us, hl with | [_, _], _ => rfl))); (case pLm2 => (refine' K03.meth_mk ?pLm2i ?pLm2n ?pLm2l ?pLm2c ?pLm2k ?pLm2h; (case pLm2i => k_is); (case pLm2n => k_is); (case pLm2l => k_is); (case pLm2c => k_is); (case pLm2k => k_is); (case pLm2h => exact fun _ _ _ _ _ _ us hl => match us, hl with | [_, _], _ => rfl))); (case pLm3 => (refine' K03.meth_mk ?pLm3i ?pLm3n ?pLm3l ?pLm3c ?pLm3k ?pLm3h; (case pLm3i => k_is); (case pLm3n => k_is); (case pLm3l => k_is); (case pLm3c => k_is); (case pLm3k => k_is); (case pLm3h => exact fun _ _ _ _ _ _ us hl => match us, hl with | [_, _], _ => rfl)))))
    (case pR => (refine' K03.raw_mk ?pRaL ?pRaR ?pRsub ?pRpg ?pRhd ?pRpo ?pRsa ?pRn1 ?pRn2 ?pRn3 ?pRn4 ?pRha ?pRty ?pRne ?pRhm ?pRhS ?pRhT ?pRhN ?pRmk ?pRkc ?pRm0 ?pRm1 ?pRm2; (case pRaL => k_is); (case pRaR => k_is); (case pRsub => k_is); (case pRpg => k_is); (case pRhd => k_is); (case pRpo => k_is); (case pRsa => k_is); (case pRn1 => k_is); (case pRn2 => k_is); (case pRn3 => k_is); (case pRn4 => k_is); (case pRha => k_is); (case pRty => k_is); (case pRne => k_is); (case pRhm => k_is); (case pRhS => k_is); (case pRhT => k_is); (case pRhN => k_is); (case pRmk => k_is); (case pRkc => k_is); (case pRm0 => (refine' K03.meth_mk ?pRm0i ?pRm0n ?pRm0l ?pRm0c ?pRm0k ?pRm0h; (case pRm0i => k_is); (case pRm0n => k_is); (case pRm0l => k_is); (case pRm0c => k_is); (case pRm0k => k_is); (case pRm0h => exact fun _ _ _ _ _ _ us hl => match us, hl with | [_, _, _], _ => rfl))); (case pRm1 => (refine' K03.meth_mk ?pRm1i ?pRm1n ?pRm1l ?pRm1c ?pRm1k ?pRm1h; (case pRm1i => k_is); (case pRm1n => k_is); (case pRm1l => k_is); (case pRm1c => k_is); (case pRm1k => k_is); (case pRm1h => exact fun _ _ _ _ _ _ us hl => match us, hl with | [_, _], _ => rfl))); (case pRm2 => (refine' K03.meth_mk ?pRm2i ?pRm2n ?pRm2l ?pRm2c ?pRm2k ?pRm2h; (case pRm2i => k_is); (case pRm2n => k_is); (case pRm2l => k_is); (case pRm2c => k_is); (case pRm2k => k_is); (case pRm2h => exact fun _ _ _ _ _ _ us hl => match us, hl with | [_, _], _ => rfl)))))
    (case pW => (refine' K03.law_mk ?pWa ?pWl ?pWc ?pWk; (case pWa => k_is); (case pWl => k_is); (case pWc => k_is); (case pWk => k_is)))
    (case z0 => k_is)
    (case z1 => k_is)
    (case z2 => k_is)
    (case z3 => k_is)
    (case z4 => k_is)
    (case z5 => k_is)
    (case z6 => k_is)
    (case z7 => k_is)
    (case z8 => k_is)
    (case z9 => k_is)
    (case z10 => k_is)
    (case z11 => k_is)
    (case z12 => k_is)
    (case z13 => k_is)
#print axioms PySem.Challenge.cw_usecounts_k03_whole_raw_lots_told_holds
