import PyProof.Rows.All
import Wide.All
import OpenK.AllK
import Wide.FinOn
import HandS.ForMost
import HandS.Exc
import HandS.TryOnly
import HandS.ExcOwn
import HandS.WordsExc
import HandS.IsInst
import HandS.ExcInit
import HandS.DeepEq
import HandS.Evl
import HandS.OwnEq
import HandS.SortInts
import HandS.CallSlots
import HandS.ExcField
import HandS.ExcIs
import HandS.ExcValue
import KE.KExcIs
import HandS.Gcd
import HandS.Walk
import KE.KMathGC
import HandS.Iter
import HandS.TupAny
import HandS.Conv
import HandS.Style
import HandS.TupLe
import PySem.Challenge.RW_usecounts_k02_whole_lots_in_common_and_a
set_option Elab.async false
set_option maxRecDepth 100000
namespace K02
open PySem L2
def top (i : Nat) : Stmt := PySem.Challenge.pw_usecounts_k02_whole_lots_in_common_and_a.main.body.getD i (.Pass ⟨0, 0, 0, 0⟩)
abbrev sHand : Stmt := top 25
abbrev sDraw : Stmt := top 26
abbrev sSome : Stmt := top 27

theorem yes_kept {A B : Hp → Prop} {σ : St} {H : Hp} (h : A H) : tYes σ H (fun b H3 => if b = true then A H3 else B H3) := by
  show (if true = true then A H else B H)
  rw [if_pos rfl]
  exact h
/-- the builtins that the text leaves alone -/
structure TxB (mg : Str → Option Value) : Prop where
  abs : mg "abs" = none
  int : mg "int" = none
  len : mg "len" = none
  isinstance : mg "isinstance" = none
  all : mg "all" = none
  range : mg "range" = none

/-- the hand of draws -/
structure HandAt (H : Hp) (p c : Addr) (cells : List Int) : Prop where
  ob : ∃ i z s n : Int, 0 ≤ i ∧ H p = some (.lst [.ref c, .int i, .int z, .int s, .int n])
  cl : H c = some (.lst (cells.map V.int))
theorem HandAt.ne {H : Hp} {p c : Addr} {cells : List Int} (h : HandAt H p c cells) : p ≠ c := by
  obtain ⟨⟨i, z, s, n, _, e⟩, k⟩ := h
  refine ne_of e k (fun z => ?_)
  cases cells with
  | nil => cases z
  | cons a l => cases z
theorem HandAt.put {H : Hp} {p c : Addr} {cells : List Int} (h : HandAt H p c cells) {i z s n : Int} (hi : 0 ≤ i) : HandAt (upd H p (.lst [.ref c, .int i, .int z, .int s, .int n])) p c cells :=
  ⟨⟨i, z, s, n, hi, upd_same⟩, by rw [upd_ne h.ne.symm]; exact h.cl⟩
theorem HandAt.keep {H H' : Hp} {p c : Addr} {cells : List Int} (h : HandAt H p c cells) (k : ∀ b, b ≠ p → H' b = H b) (e : H' p = H p) : HandAt H' p c cells := by
  obtain ⟨⟨i, z, s, n, hi, q⟩, l⟩ := id h
  exact ⟨⟨i, z, s, n, hi, by rw [e]; exact q⟩, by rw [k c h.ne.symm]; exact l⟩

def spHand (K : PySem.W.Frag) : Sp := fun vs H Q _ => ∃ (a : Addr) (ns : List Int), vs = [.ref a] ∧ SqL K H a (ns.map V.int) ∧ ns.length ≤ 1000 ∧
  ∀ (p c : Addr) (cells : List Int) (H' : Hp), Same H H' → H p = none → HandAt H' p c cells → Q (.ref p) H'
/-- a draw: some number below -/
def spDraw : Sp := fun vs H Q _ => ∃ (p c : Addr) (cells : List Int) (m : Int), vs = [.ref p, .int m] ∧ HandAt H p c cells ∧ 0 < m ∧ m < 1000000 ∧
  ∀ (r : Int) (H' : Hp), 0 ≤ r → r < m → HandAt H' p c cells → (∀ b, b ≠ p → H' b = H b) → Q (.int r) H'
def spSome (K : PySem.W.Frag) : Sp := fun vs H Q _ => ∃ (p c t : Addr) (cells : List Int) (xs : List V), vs = [.ref p, .ref t] ∧ HandAt H p c cells ∧ SqL K H t xs ∧ t ≠ p ∧ 0 < xs.length ∧ xs.length < 1000 ∧
  ∀ (k : Nat) (v : V) (H' : Hp), xs[k]? = some v → HandAt H' p c cells → (∀ b, b ≠ p → H' b = H b) → Q v H'

section
variable {P : Program} {w : World} {K : PySem.W.Frag} {mg : Str → Option Value} {base : Heap}
theorem scH : FnScope ["_law_script", "_law_cells", "_law_cell"] ["_law_script"] (defScope sHand) := ⟨rfl, rfl, rfl, by decide +kernel, rfl, by decide +kernel, by decide +kernel⟩
theorem ok_hand {f : Addr} {fd : FuncData} (F : Fun K "_law_hand" "_law_hand" sHand f fd) (T : TxB mg) : FnOk P w K mg base CX0 1 f fd ["_law_script"] (spHand K) := by
  refine F.ok scH (fun vs H Q E h => ?_) (fun cdv A outer s H vs Q E hr h => ?_)
  · obtain ⟨a, ns, rfl, _⟩ := h
    rfl
  · obtain ⟨a, ns, rfl, hS, hlen, k⟩ := h
    have hu := hu_of hr
    refine ⟨_, pss_cons (ps_setLc (i := 1) (own := [("_law_cell", 2)]) (g := gName 2) (tt := tYes) rfl scH.nd rfl rfl (sw_true rfl rfl rfl (by decide +kernel))
        (pi_list (pe_slice sl_list (pv 0) po_none (po_some pe_int))) (blkOk_by (N := ["_law_script", "_law_cells", "_law_cell"]) (sc := defScope sHand) (by decide +kernel))
        (fun _ _ _ _ _ => pg_name (i := 2) scH.nd rfl (Or.inl rfl)) (fun _ _ _ _ _ => pts_nil)
        (fun _ _ _ _ _ => pe_callB call_abs (by rfl) T.abs (by decide +kernel) (pa_cons (pe_callTy call_int1 (by rfl) T.int (by decide +kernel) (pa_cons (pv 2) pa_nil)) pa_nil)))
      (pss_one (ps_ret (pe_lst (pa_cons (pv 1) (pa_cons pe_int (pa_cons pe_int (pa_cons (pe_op op_add pe_int (pe_callB call_len (by rfl) T.len PySem.boot_len (pa_cons (pv 1) pa_nil))) (pa_cons pe_int pa_nil)))))))), ?_⟩
    refine ⟨_, rfl, 63, rfl, _, _, rfl, hS, ?_⟩
    intro sl hsl
    refine ⟨sl, rfl, ⟨_, SqL.of upd_same⟩, fun D hD => ?_⟩
    have hDs : D ≠ sl := fun e => by rw [e, upd_same] at hD; cases hD
    have hD0 : H D = none := by rw [upd_ne hDs] at hD; exact hD
    obtain ⟨zs, ez, hzl⟩ : ∃ zs : List Int, cutV (ns.map V.int) none (some 63) = zs.map V.int ∧ zs.length ≤ 1000 := by
      refine ⟨(ns.drop (HT.sIx (ns.map V.int).length 0 none)).take (HT.sIx (ns.map V.int).length (ns.map V.int).length (some 63) - HT.sIx (ns.map V.int).length 0 none), ?_, ?_⟩
      · unfold cutV
        rw [← List.map_drop, ← List.map_take]
      · rw [List.length_take, List.length_drop]; omega
    rw [ez]
    refine lc_list (K := K) (a := sl) (xs := zs.map V.int) (fun i H' => Same H H' ∧ H' sl = some (.lst (zs.map V.int)) ∧ ∃ cs : List Int, cs.length = i ∧ H' D = some (.lst (cs.map V.int)))
      ⟨fun b o e => ?_, ?_, [], rfl, upd_same⟩ (fun i H' _ p => SqL.of p.2.1) ?_ ?_
    · rw [upd_ne (ne_of_none e hD0), upd_ne (ne_of_none e hsl)]; exact e
    · rw [upd_ne hDs.symm, upd_same]
    · rintro i x H' hx ⟨h1, h2, cs, h3, h4⟩
      obtain ⟨z, rfl⟩ : ∃ z, x = V.int z := by
        rw [List.getElem?_map] at hx
        cases e : zs[i]? with
        | none => rw [e] at hx; cases hx
        | some z => rw [e] at hx; exact ⟨z, (Option.some.inj hx).symm⟩
      have hi : i < zs.length := by
        have := (List.getElem?_eq_some_iff.mp hx).1
        rwa [List.length_map] at this
      refine ⟨rfl, ?_⟩
      refine yes_kept ?_
      refine ⟨_, rfl, .inl ⟨_, rfl, _, rfl, cs.map V.int, h4, ?_, fun b o e => ?_, ?_, cs ++ [if z < 0 then -z else z], ?_, ?_⟩⟩
      · rw [List.length_map, h3]; exact small1000 (by omega)
      · rw [upd_ne (ne_of_none e hD0)]; exact h1 b o e
      · rw [upd_ne hDs.symm]; exact h2
      · rw [List.length_append, h3]; rfl
      · rw [upd_same, List.map_append]; rfl
    · rintro H' ⟨h1, h2, cs, h3, h4⟩
      refine ⟨_, rfl, _, rfl, _, _, rfl, .inl ⟨_, SqL.of h4, rfl⟩, _, _, rfl, rfl, (by show 5 ≤ sizeLine; decide), fun p hp => ?_⟩
      exact k p D cs _ (fun b o e => by rw [upd_ne (ne_of_none (h1 b o e) hp)]; exact h1 b o e) (by
        cases e : H p with
        | none => rfl
        | some o => have := h1 p o e; rw [hp] at this; cases this) ⟨⟨0, 0, _, 0, Int.le_refl _, upd_same⟩, by rw [upd_ne (ne_of_none h4 hp)]; exact h4⟩
theorem scD : FnScope ["_law_hand_here", "_law_many", "_law_cell", "_law_digit", "_law_number"] ["_law_hand_here", "_law_many"] (defScope sDraw) := ⟨rfl, rfl, rfl, by decide +kernel, rfl, by decide +kernel, by decide +kernel⟩
theorem ok_draw {f : Addr} {fd : FuncData} (F : Fun K "_law_draw" "_law_draw" sDraw f fd) (T : TxB mg) : FnOk P w K mg base CX0 1 f fd ["_law_hand_here", "_law_many"] spDraw := by
  refine F.ok scD (fun vs H Q E h => ?_) (fun cdv A outer s H vs Q E hr h => ?_)
  · obtain ⟨p, c, cells, m, rfl, _⟩ := h
    rfl
  · obtain ⟨p, c, cells, m, rfl, hA, hm, hm2, k⟩ := h
    have hu := hu_of hr
    have nd := scD.nd
    refine ⟨_, Evl.pss_cut (ps_if (PW.pt (pw_and (pt_cmpR op_eq (pe_ix ix_list (pv 0) pe_int (fun _ _ => rfl)) pe_int (nomark _))
          (pw_and1 (pt_cmpR op_lt (pe_ix ix_list (pv 0) pe_int (fun _ _ => rfl)) (pe_callB call_len (by rfl) T.len PySem.boot_len (pa_cons (pe_ix ix_list (pv 0) pe_int (fun _ _ => rfl)) pa_nil)) (nomark _)))))
        (pss_cons (ps_set (i := 2) nd rfl (Or.inl rfl) (pe_ix ix_list (pe_ix ix_list (pv 0) pe_int (fun _ _ => rfl)) (pe_ix ix_list (pv 0) pe_int (fun _ _ => rfl)) (fun _ _ => rfl)))
        (pss_cons (ps_asg (pe_op op_add (pe_ix ix_list (pv 0) pe_int (fun _ _ => rfl)) pe_int) (pg_sub (pv 0) pe_int set_list))
        (pss_cons (ps_asg (pe_op op_mod (pe_callTy call_int1 (by rfl) T.int (by decide +kernel) (pa_cons (pe_op op_add (pe_op op_add (pe_op op_mul (pe_ix ix_list (pv 0) pe_int (fun _ _ => rfl)) pe_int) (pv 2)) pe_int) pa_nil)) pe_int) (pg_sub (pv 0) pe_int set_list))
        (pss_one (ps_if (pt_cmpR op_ge (pv 2) (pe_op op_pow pe_int pe_int) (nomark _)) (pss_one (ps_asg (pv 2) (pg_sub (pv 0) pe_int set_list))) pss_nil)))))
        pss_nil)
      (pss_cons (ps_if (pt_cmpR op_gt (pe_ix ix_list (pv 0) pe_int (fun _ _ => rfl)) pe_int (nomark _))
        (pss_cons (ps_set (i := 3) nd rfl (Or.inl rfl) (pe_op op_mod (pe_callTy call_int1 (by rfl) T.int (by decide +kernel) (pa_cons (pe_ix ix_list (pv 0) pe_int (fun _ _ => rfl)) pa_nil)) (pv 1)))
        (pss_cons (ps_asg (pe_op op_fdivN (pe_ix ix_list (pv 0) pe_int (fun _ _ => rfl)) (pv 1)) (pg_sub (pv 0) pe_int set_list))
        (pss_one (ps_ret (pv 3))))) pss_nil)
      (pss_cons (ps_asg (pe_op op_add (pe_ix ix_list (pv 0) pe_int (fun _ _ => rfl)) pe_int) (pg_sub (pv 0) pe_int set_list))
      (pss_cons (ps_set (i := 4) nd rfl (Or.inl rfl) (pe_op op_mod (pe_callTy call_int1 (by rfl) T.int (by decide +kernel) (pa_cons (pe_op op_mul (pe_callTy call_int1 (by rfl) T.int (by decide +kernel) (pa_cons (pe_op op_add (pe_ix ix_list (pv 0) pe_int (fun _ _ => rfl)) (pe_op op_mul pe_int (pe_ix ix_list (pv 0) pe_int (fun _ _ => rfl)))) pa_nil)) pe_int) pa_nil)) pe_int))
      (pss_cons (ps_set (i := 4) nd rfl (Or.inl rfl) (pe_op op_mod (pe_callTy call_int1 (by rfl) T.int (by decide +kernel) (pa_cons (pe_op op_mul (pv 4) (pe_op op_add (pe_op op_fdiv (pv 4) pe_int) pe_int)) pa_nil)) pe_int))
      (pss_cons (ps_set (i := 4) nd rfl (Or.inl rfl) (pe_op op_mod (pe_callTy call_int1 (by rfl) T.int (by decide +kernel) (pa_cons (pe_op op_mul (pv 4) (pe_op op_add (pe_op op_fdiv (pv 4) pe_int) pe_int)) pa_nil)) pe_int))
      (pss_one (ps_ret (pe_op op_mod (pe_callTy call_int1 (by rfl) T.int (by decide +kernel) (pa_cons (pe_op op_fdiv (pv 4) pe_int) pa_nil)) (pv 1))))))))), ?_⟩
    obtain ⟨⟨i, z, s0, n, hi, hp⟩, hc⟩ := id hA
    have nep := hA.ne
    refine ⟨fun σ' H' => ∃ (i z s n : Int) (v : Option V), 0 ≤ i ∧ σ' = [some (.ref p), some (.int m), v, none, none] ∧ H' p = some (.lst [.ref c, .int i, .int z, .int s, .int n]) ∧ (∀ b, b ≠ p → H' b = H b), ?_, ?_⟩
    · -- hand[2] == 0 and hand[1] < len(hand[0])
      refine ⟨_, rfl, p, _, _, _, rfl, rfl, SqL.of hp, rfl, rfl, _, rfl, ?_⟩
      refine ite2 (fun _ => ?_) (fun _ => ?_)
      · refine ⟨_, rfl, p, _, _, _, rfl, rfl, SqL.of hp, rfl, _, rfl, p, _, _, _, rfl, rfl, SqL.of hp, rfl, _, _, rfl, .inl ⟨_, SqL.of hc, rfl⟩, _, _, rfl, rfl, _, rfl, ?_⟩
        refine ite2 (fun e1 => ?_) (fun _ => ?_)
        · have e2 : i < (cells.length : Int) := by
            have := of_decide_eq_true e1
            rw [List.length_map] at this
            exact this
          obtain ⟨j, rfl⟩ := Int.eq_ofNat_of_zero_le hi
          have hj : j < cells.length := by omega
          have hat : atI (cells.map V.int) (j : Int) = some (.int cells[j]) := atI_nat (by rw [List.getElem?_map, List.getElem?_eq_getElem hj]; rfl)
          refine ⟨_, rfl, p, _, _, _, rfl, rfl, SqL.of hp, rfl, _, rfl, p, _, _, _, rfl, rfl, SqL.of hp, rfl, c, _, _, _, rfl, rfl, SqL.of hc, hat, ?_⟩
          refine ⟨_, rfl, p, _, _, _, rfl, rfl, SqL.of hp, rfl, _, _, rfl, rfl, _, rfl, p, _, _, 1, rfl, rfl, hp, rfl, ?_⟩
          refine ⟨_, rfl, p, _, _, _, rfl, rfl, SqL.of upd_same, rfl, _, _, rfl, rfl, .inr ⟨by decide, by decide⟩, _, rfl, _, _, rfl, rfl, _, _, rfl, rfl, .inl ⟨_, rfl, _, _, rfl, rfl, (by show (0 : Int) < 2147483629; decide), _, rfl, p, _, _, 3, rfl, rfl, upd_same, rfl, ?_⟩⟩
          refine ⟨_, rfl, _, _, rfl, rfl, ⟨by decide, by decide, by decide⟩, _, _, rfl, rfl, _, rfl, ?_⟩
          refine ite2 (fun _ => ?_) (fun _ => ?_)
          · refine ⟨_, rfl, _, rfl, p, _, _, 2, rfl, rfl, upd_same, rfl, (j : Int) + 1, _, _, _, some (.int cells[j]), by omega, rfl, upd_same, fun b hb => by rw [upd_ne hb, upd_ne hb, upd_ne hb]⟩
          · exact ⟨(j : Int) + 1, _, _, _, some (.int cells[j]), by omega, rfl, upd_same, fun b hb => by rw [upd_ne hb, upd_ne hb]⟩
        · exact ⟨i, z, s0, n, none, hi, rfl, hp, fun _ _ => rfl⟩
      · exact ⟨i, z, s0, n, none, hi, rfl, hp, fun _ _ => rfl⟩
    · clear hi hp i z s0 n
      rintro _ H1 ⟨i, z, s0, n, v, hi, rfl, hp, kp⟩
      have hc1 : H1 c = some (.lst (cells.map V.int)) := by rw [kp c nep.symm]; exact hc
      have fin : ∀ (r : Int) (i z s n : Int) (H2 : Hp), 0 ≤ r → r < m → 0 ≤ i → H2 p = some (.lst [.ref c, .int i, .int z, .int s, .int n]) → (∀ b, b ≠ p → H2 b = H1 b) → Q (.int r) H2 :=
        fun r i z s n H2 h0 h1 hi h2 h3 => k r H2 h0 h1 ⟨⟨i, z, s, n, hi, h2⟩, by rw [h3 c nep.symm]; exact hc1⟩ fun b hb => (h3 b hb).trans (kp b hb)
      -- hand[2] > 0
      refine ⟨_, rfl, p, _, _, _, rfl, rfl, SqL.of hp, rfl, _, _, rfl, rfl, _, rfl, ?_⟩
      refine ite2 (fun _ => ?_) (fun _ => ?_)
      · refine ⟨_, rfl, p, _, _, _, rfl, rfl, SqL.of hp, rfl, .inl ⟨_, rfl, _, rfl, _, _, rfl, rfl, hm, ?_⟩⟩
        refine ⟨_, rfl, p, _, _, _, rfl, rfl, SqL.of hp, rfl, _, rfl, _, _, rfl, rfl, ⟨by omega, by omega⟩, _, rfl, p, _, _, 2, rfl, rfl, hp, rfl, _, rfl, ?_⟩
        exact fin _ i _ _ _ _ (Int.emod_nonneg _ (by omega)) (Int.emod_lt_of_pos _ hm) hi upd_same fun b hb => upd_ne hb
      · refine ⟨_, rfl, p, _, _, _, rfl, rfl, SqL.of hp, rfl, _, _, rfl, rfl, _, rfl, p, _, _, 4, rfl, rfl, hp, rfl, ?_⟩
        refine ⟨_, rfl, p, _, _, _, rfl, rfl, SqL.of upd_same, rfl, _, rfl, p, _, _, _, rfl, rfl, SqL.of upd_same, rfl, _, _, rfl, rfl, .inl ⟨by decide, by decide⟩, _, _, rfl, rfl, .inl ⟨_, rfl, _, _, rfl, rfl, .inr ⟨by decide, by decide⟩, .inl ⟨_, rfl, _, _, rfl, rfl, (by show (0 : Int) < 2147483647; decide), ?_⟩⟩⟩
        dsimp only
        generalize hn1 : ((s0 + 7919 * (n + 1)) * 48271) % 2147483647 = n1
        have b1 : 0 ≤ n1 := by rw [← hn1]; exact Int.emod_nonneg _ (by decide)
        have b2 : n1 < 2147483647 := by rw [← hn1]; exact Int.emod_lt_of_pos _ (by decide)
        clear hn1
        refine ⟨_, rfl, _, rfl, _, _, rfl, rfl, ⟨by decide, by decide⟩, _, _, rfl, rfl, _, _, rfl, rfl, .inl ⟨by omega, by omega⟩, .inl ⟨_, rfl, _, _, rfl, rfl, (by show (0 : Int) < 2147483647; decide), ?_⟩⟩
        dsimp only
        generalize hn2 : (n1 * (n1 / 1009 + 69621)) % 2147483647 = n2
        have b3 : 0 ≤ n2 := by rw [← hn2]; exact Int.emod_nonneg _ (by decide)
        have b4 : n2 < 2147483647 := by rw [← hn2]; exact Int.emod_lt_of_pos _ (by decide)
        clear hn2
        refine ⟨_, rfl, _, rfl, _, _, rfl, rfl, ⟨by decide, by decide⟩, _, _, rfl, rfl, _, _, rfl, rfl, .inl ⟨by omega, by omega⟩, .inl ⟨_, rfl, _, _, rfl, rfl, (by show (0 : Int) < 2147483399; decide), ?_⟩⟩
        refine ⟨_, rfl, _, _, rfl, rfl, ⟨by decide, by decide⟩, .inl ⟨_, rfl, _, rfl, _, _, rfl, rfl, hm, ?_⟩⟩
        exact fin _ i _ _ _ _ (Int.emod_nonneg _ (by omega)) (Int.emod_lt_of_pos _ hm) hi upd_same fun b hb => upd_ne hb
theorem scS : FnScope ["_law_hand_here", "_law_things"] ["_law_hand_here", "_law_things"] (defScope sSome) := ⟨rfl, rfl, rfl, by decide +kernel, rfl, by decide +kernel, by decide +kernel⟩
theorem ok_some {f fD : Addr} {fd fdD : FuncData} (F : Fun K "_law_some" "_law_some" sSome f fd) (T : TxB mg) (FD : Fun K "_law_draw" "_law_draw" sDraw fD fdD) (bD : Binds K fdD ["_law_hand_here", "_law_many"] []) (mD : mg "_law_draw" = some (.ref fD)) :
    FnOk P w K mg base CX0 2 f fd ["_law_hand_here", "_law_things"] (spSome K) := by
  have GD : FnOk P w K mg base CX0 1 fD fdD ["_law_hand_here", "_law_many"] spDraw := ok_draw FD T
  refine F.ok scS (fun vs H Q E h => ?_) (fun cdv A outer s H vs Q E hr h => ?_)
  · obtain ⟨p, c, t, cells, xs, rfl, _⟩ := h
    rfl
  · obtain ⟨p, c, t, cells, xs, rfl, hA, hT, hn, h0, h1, k⟩ := h
    refine ⟨_, pss_one (ps_ret (pe_ix ix_list (pv 1) (pe_call GD hr (by rfl) mD FD.kp bD .nil pass0 (pa_cons (pv 0) (pa_cons (pe_callB call_len (by rfl) T.len PySem.boot_len (pa_cons (pv 1) pa_nil)) pa_nil))) (fun _ _ => rfl))), ?_⟩
    refine ⟨_, rfl, _, rfl, _, rfl, _, _, rfl, .inl ⟨_, hT, rfl⟩, p, c, cells, _, rfl, hA, by omega, by omega, fun r H' h2 h3 hA' kp => ?_⟩
    obtain ⟨j, rfl⟩ := Int.eq_ofNat_of_zero_le h2
    have hj : j < xs.length := by omega
    have hT' : SqL K H' t xs := by
      rcases hT with q | q
      · exact .inl (by unfold Rd; rw [kp t hn]; exact q)
      · exact .inr q
    exact ⟨t, xs, _, _, rfl, rfl, hT', atI_nat (List.getElem?_eq_getElem hj), k j _ H' (List.getElem?_eq_getElem hj) hA' kp⟩
end
end K02

set_option Elab.async false
set_option linter.all false
set_option maxRecDepth 100000
set_option maxHeartbeats 4100000
/-! rules: a tuple sorted; an own == with both answers, != by it, a list searched for an instance with it; a making that may raise, in a try -/
namespace GQ
open PySem PySem.SeqAt PySem.Spec PyProof.Rows
open AutoSeq1 (wpAny_loadPart' )
open SeqRoads2 MeetsSeq3 MeetsSeq2 MeetsSeq
section
variable {prog : Program} {w : World} {A : Around} {E : Value → Shared → Prop} {s : Shared}
/-- the items of a tuple, gathered -/
theorem collectTup {tp : Addr} {ot : Obj} {k : Nat} {ys : List Value} {Q : List Value → Shared → Prop} (at_ : s.heap.get? tp = some ot) (isT : ot.cls = .type "tuple") (dat : ot.data = .seq ys.toArray k)
    (fin : Q ys { s with heap := (s.heap.push (seqObj "list" #[] 0)).update s.heap.objs.size (Obj.mapSeq (· ++ ys.toArray)) }) (z : ys.length ≤ sizeLine) : wpAny (model prog w) A (collect (.ref tp)) Q E s := by
  have here : (s.heap.push (seqObj "list" #[] 0)).get? tp = some ot := Heap.get?_push_of_some _ at_
  have new : (s.heap.push (seqObj "list" #[] 0)).get? s.heap.objs.size = some (seqObj "list" #[] 0) := Heap.get?_push_size _ rfl
  have both : #[] ++ ys.toArray = ys.toArray := by simp
  unfold collect
  apply wpAny_bind; apply wpAny_runValue; refine codeAny_builtin (b := _) entry_proto_collect' (wpAny_bind (wpAny_newList (wpAny_pure (And.intro (Code.quiet_builtin _ (by decide +kernel)) (codeAny_builtin (b := _) entry_list_iadd' ?_)))))
  change wpAny _ _ (Builtin.List.listExtendWith (Value.ref s.heap.objs.size) (Value.ref tp) (Value.ref s.heap.objs.size)) _ _ { s with heap := s.heap.push (seqObj "list" #[] 0) }
  unfold Builtin.List.listExtendWith; apply wpAny_bind; refine wpAny_typeOf (T := "tuple") ⟨ot, here, isT⟩ ?_
  rw [if_pos (by simp)]; apply wpAny_bind; refine listItems_at here dat ?_
  apply wpAny_bind; refine listItems_at (n := 0) (xs := #[]) new rfl ?_
  rw [if_neg (by simp)]; apply wpAny_bind
  refine listUpdate_at (n := 0) (xs := #[]) new rfl ?_ (Nat.zero_le _) (by show (#[] ++ ys.toArray).size ≤ _; rw [both, List.size_toArray]; omega)
  apply wpAny_pure; apply wpAny_bind; refine wpAny_load (get?_update_seq new _) ?_
  apply wpAny_pure
  show Q ((#[] : Array Value) ++ ys.toArray).toList _
  rw [both]; exact fin
/-- sorted(t), t a tuple -/
theorem sortedTup {tp : Addr} {ot : Obj} {k : Nat} {ys : List Value} {lt : Value → Value → Bool} {Q : Value → Shared → Prop} (ord : SrtO.Swo lt) (at_ : s.heap.get? tp = some ot) (isT : ot.cls = .type "tuple") (dat : ot.data = .seq ys.toArray k) (z : ys.length ≤ sizeLine)
    (able : 2 ≤ ys.length → ∀ (h₁ : Heap) (l : Addr), h₁.get? l = some (seqObj "list" ys.toArray 0) → (∀ b o, s.heap.get? b = some o → b ≠ l ∧ h₁.get? b = some o) → SrtO.SortableO prog w A.in1.in1 { s with heap := h₁ } l ys lt)
    (fin : ∀ out : List Value, SrtO.Srtd lt out → SrtO.Stb lt out ys → Q (.ref (s.heap.objs.size + 1)) { s with heap := sortedAll s.heap ys out.toArray }) : wpAny (model prog w) A (call (.builtin "sorted") [.ref tp]) Q E s := by
  have step : ∀ {h1 h2 : Heap} {n : Nat}, h1 = (s.heap.push (seqObj "list" #[] 0)).update s.heap.objs.size (Obj.mapSeq (· ++ ys.toArray)) → h2 = h1.push (seqObj "list" ys.toArray 0) → n = s.heap.objs.size + 1 → h2.get? n = some (seqObj "list" ys.toArray 0) ∧ h1.objs.size = n ∧ ∀ b o, s.heap.get? b = some o → b ≠ n ∧ h2.get? b = some o := by
    rintro _ _ _ rfl rfl rfl
    have e : ((s.heap.push (seqObj "list" #[] 0)).update s.heap.objs.size (Obj.mapSeq (· ++ ys.toArray))).objs.size = s.heap.objs.size + 1 := (Heap.size_update ..).trans (size_push' ..)
    refine ⟨by rw [← e]; exact Heap.get?_push_size _ rfl, e, fun b o there => ?_⟩
    have below := Heap.lt_size there
    exact ⟨Nat.ne_of_lt (Nat.lt_succ_of_lt below), Heap.get?_push_of_some _ (by rw [Heap.get?_update_ne _ _ _ _ (Nat.ne_of_lt below)]; exact Heap.get?_push_of_some _ there)⟩
  obtain ⟨st1, st2, st3⟩ := step rfl rfl rfl
  refine Calls.call_function_entry kind_sorted plain_sorted entry_sorted (args_sorted1 (.ref tp)) ?_
  unfold Builtin.«sorted»
  refine wpAny_bind (m := checkCount "sorted" 1 1 1) (wpAny_pure (wpAny_bind (collectTup at_ isT dat (wpAny_bind (wpAny_newList ?_ z)) z)))
  rw [st2]; apply wpAny_bind; apply wpAny_holding
  refine wpAny_call_entry slot_list_sort (And.intro st1 rfl |> fun x => ⟨_, x⟩) entry_list_sort (SrtO.list_sort_ord ord st1 z (fun two => able two _ _ st1 st3) fun out o1 o2 => ⟨.none, rfl, ?_⟩) (args_list_sort _)
  exact wpAny_pure ⟨_, rfl, fin out o1 o2⟩
end
section
variable {w : World} {P : Program} {A : Around} {R : Result → Shared → Prop}
/-- what is asked of the items, turn by turn: none is equal to x -/
def NoneEq (P : Program) (w : World) (A : Around) (R : Value → Shared → Prop) (l : Addr) (x : Value) (N : Nat) (I : Shared → Prop) : Prop := ∀ s, I s → ∃ (its : Array Value) (k : Nat), s.heap.get? l = some { cls := .type "list", data := .seq its k } ∧ its.size = N ∧
      ∀ (i : Nat) (h : i < its.size), wpAny (model P w) A.in1 (eqBool its[i] x) (fun b s' => b = false ∧ I s') R s
theorem none_loop {l : Addr} {x : Value} {N : Nat} {I : Shared → Prop} (ask : NoneEq P w A (fun e s' => R (.error e) s') l x N I) (fin : ∀ s, I s → R (.ok (.ret (.bool false))) s) : ∀ (left i : Nat), N - i = left → i ≤ N → ∀ s, I s →
      wpAny (model P w) A.in1 (Builtin.«list.__contains__.loop» ⟨[.ref l, x, rawInt i], []⟩) (FinOf P w A R) (fun e s' => R (.error e) s') s
  | 0, i, el, li, s, inv => by
    obtain ⟨its, k, at_, sz, _⟩ := ask _ inv
    have done := fin s inv
    rcases s with ⟨h0, gs, dr, tk, os⟩
    wp_walk using wpAny_loadPart' at_
    rw [show its[((i : Nat) : Int).toNat]? = none by simp; omega]
    wp_walk
    exact done
  | left + 1, i, el, li, s, inv => by
    obtain ⟨its, k, at_, sz, turn⟩ := ask _ inv
    have inside : i < its.size := by omega
    have one := turn i inside
    rcases s with ⟨h0, gs, dr, tk, os⟩
    wp_walk using wpAny_loadPart' at_
    rw [show its[((i : Nat) : Int).toNat]? = some its[i] by simp [inside]]
    apply wpAny_bind
    refine wpAny_mono one (fun b s2 both => ?_) fun _ _ z => z
    obtain ⟨rfl, inv2⟩ := both
    have again := none_loop ask fin left (i + 1) (by omega) (by omega) s2 inv2
    rcases s2 with ⟨h2, gs2, dr2, tk2, os2⟩
    wp_walk
    rw [show ((i : Int) + 1) = ((i + 1 : Nat) : Int) by omega]
    refine ⟨plainId_quiet plain_contains_loop _, codeAny_builtin entry_contains_loop ?_⟩
    rw [Around.under_plainId plain_contains_loop]; exact again
theorem none_in {l : Addr} {x : Value} {N : Nat} {I : Shared → Prop} (ask : NoneEq P w A (fun e s' => R (.error e) s') l x N I) (fin : ∀ s, I s → R (.ok (.ret (.bool false))) s) {s : Shared} (inv : I s) :
    wpAny (model P w) A.in1 (Builtin.«list.__contains__» ⟨[.ref l, x], []⟩) (FinOf P w A R) (fun e s' => R (.error e) s') s := by
  obtain ⟨its, k, at_, _⟩ := ask _ inv
  have all := none_loop ask fin N 0 rfl (Nat.zero_le N) s inv
  rcases s with ⟨h0, gs, dr, tk, os⟩
  wp_walk using wpAny_loadPart' at_
  refine ⟨plainId_quiet plain_contains_loop _, codeAny_builtin entry_contains_loop ?_⟩
  rw [Around.under_plainId plain_contains_loop]; exact all
/-- x in l: none of the items is equal to x -/
theorem in_noneG {E : Value → Shared → Prop} {s : Shared} {l : Addr} {x : Value} {N : Nat} {Q : Value → Shared → Prop} (I : Shared → Prop) (ask : NoneEq P w A E l x N I)
    (fin : ∀ s, I s → Q (.bool false) s) (inv : I s) : wpAny (model P w) A (compareOp .In x (.ref l)) Q E s := by
  obtain ⟨its, k, at_, _⟩ := ask _ inv
  show wpAny _ A (do return .bool (← PySem.contains (.ref l) x)) Q E s
  refine wpAny_bind (wpAny_contains_slot (T := "list") ⟨_, at_, rfl⟩ F.slot_list_contains (call_here F.slot_list_contains ⟨_, at_, rfl⟩ F.entry_list_contains (F.args_list_contains_2 _ _) ?_))
  exact none_in (R := wants _ E) ask (fun s' q => wpAny_truthy_bool (wpAny_pure (fin s' q))) inv
end
end GQ

set_option Elab.async false
set_option linter.all false
set_option maxRecDepth 100000
set_option maxHeartbeats 4100000
namespace GQ
open PySem PySem.SeqAt PySem.Spec PyProof.Rows
open AutoSeq1 (wpAny_loadPart' )
open SeqRoads2 MeetsSeq3 MeetsSeq2 MeetsSeq
section
variable {prog : Program} {w : World} {A : Around} {E : Value → Shared → Prop} {s : Shared} {x C dx : Addr}
/-- an instance of an own class is no text, no tuple, not None -/
theorem str_eq_no {z : Str} {t : Tok} {Q : Value → Shared → Prop} (hx : s.heap.get? x = some (PySem.W.instObj C dx)) (q : Q .notImplemented s) : wpAny (model prog w) A (call (.builtin "str.__eq__") [.str z t, .ref x]) Q E s := by
  refine wpAny_call_entry F.slot_str_eq (typeIs_str s z t) F.entry_str_eq ?_ (F.args_str_eq_2 _ _)
  rcases s with ⟨hp, g, d, tk, os⟩
  have hx2 : hp.get? x = some { cls := .ref C, dict := some dx, data := (PySem.W.instObj C dx).data, slots := (PySem.W.instObj C dx).slots } := hx
  wp_walk using wpAny_load hx2
  exact ⟨_, rfl, q⟩
theorem tup_eq_no {l : Addr} {o : Obj} {Q : Value → Shared → Prop} (hl : s.heap.get? l = some o) (hc : o.cls = .type "tuple") (hx : PySem.W.Looks (model prog w) s.heap (typeOf (.ref x)) (.ref C)) (hn : PySem.W.Looks (model prog w) s.heap (isSubtype (.ref C) (.type "tuple")) false) (q : Q .notImplemented s) : wpAny (model prog w) A (call (.builtin "tuple.__eq__") [.ref l, .ref x]) Q E s := by
  refine wpAny_call_entry F.slot_tuple_eq ⟨o, hl, hc⟩ F.entry_tuple_eq ?_ (F.args_tuple_eq_2 _ _)
  rcases s with ⟨hp, g, d, tk, os⟩
  wp_walk using hx.at, hn.at
  exact ⟨_, rfl, q⟩
theorem none_eq_no {Q : Value → Shared → Prop} (q : Q .notImplemented s) : wpAny (model prog w) A (call (.builtin "NoneType.__eq__") [.none, .ref x]) Q E s :=
  call_gives F.slot_NoneType_eq (typeIs_none s) F.entry_NoneType_eq (F.args_NoneType_eq_2 _ _) (NoneType___eq___none_ref_0 x) q
end
section
open PySem.W
variable {prog : Program} {w : World} {A : Around} {E : Value → Shared → Prop} {s : Shared} {K : Frag} {C x f : Addr} {ox : Obj} {od : Option Obj}
/-- the own == asked of an instance, by whatever name -/
theorem own_asked {name : Str} {a : Value} {Q : Value → Shared → Prop} (X : K.In s.heap) (I : InstAt s.heap x ox C od) (own : findIn K (.ref C) name = some (some (.ref f))) (isf : isFn K (.ref f) = true)
    (go : wpAny (model prog w) A (call (.ref f) [.ref x, a]) (PySem.W.CmpBack Q) E s) : wpAny (model prog w) A (tryCompare (.ref x) name a) (fun r s' => ∃ v, r = some v ∧ Q v s') E s := by
  unfold tryCompare; apply wpAny_bind
  refine ifBound_K X I own isf (wpAny_mono go (fun v s' back => ?_) fun _ _ z => z)
  cases v with
  | notImplemented => exact back.elim
  | _ => exact wpAny_pure ⟨_, rfl, back⟩
/-- what is none of the class, on the left of an instance with its own == -/
theorem rc_decl {a : Value} {Ta id : String} {Q : Value → Shared → Prop} (ha : s.TypeIs a Ta) (X : K.In s.heap) (I : InstAt s.heap x ox C od) (hsub : mroIn K C (.type Ta) = some false) (sl : Slot Ta "__eq__" id)
    (hu : A.units < cLine) (hc1 : ∀ Q' : Value → Shared → Prop, Q' .notImplemented s → wpAny (model prog w) A (call (.builtin id) [a, .ref x]) Q' E s)
    (own : findIn K (.ref C) "__eq__" = some (some (.ref f))) (isf : isFn K (.ref f) = true) (go : wpAny (model prog w) A (call (.ref f) [.ref x, a]) (PySem.W.CmpBack Q) E s) : wpAny (model prog w) A (richCompare .Eq a (.ref x)) Q E s := by
  have info : cmpInfo CmpOp.Eq = ("==", ("__eq__" : Str), ("__eq__" : Str)) := rfl
  have differ : (Value.type Ta != Value.ref C) = true := by simp
  simp only [richCompare, ha.oneThing_none, info]; apply wpAny_holding
  refine wpAny_bind (wpAny_cRoomFor_or (.inr hu) (wpAny_bind (wpAny_typeOf ha (wpAny_bind (I.type.here ?_)))))
  simp only [if_true, differ]; apply wpAny_bind; refine (looks_mroIn X hsub).here ?_
  simp only [Bool.not_false, if_true, if_false, Bool.false_eq_true]
  refine wpAny_bind (m := tryCompare a _ (.ref x)) (wpAny_tryCompare_declines ha sl (hc1 _ ⟨rfl, ?_⟩))
  refine wpAny_bind (m := tryCompare (.ref x) _ a) (wpAny_mono (own_asked X I own isf go) (fun r s' told => ?_) fun _ _ z => z)
  obtain ⟨v, rfl, q⟩ := told
  exact wpAny_pure q
/-- a special method of the builtin kind, asked of an instance -/
theorem ifBound_B {M : Model} {name : Str} {id : String} {args : List Value} {Q : Option Value → Shared → Prop} (X : K.In s.heap) (I : InstAt s.heap x ox C od) (blt : findIn K (.ref C) name = some (some (.builtin id))) (bound : bindSpecial (.builtin id) (.ref x) = pure (.builtin id, [.ref x]))
    (go : wpAny M A (call (.builtin id) (.ref x :: args)) (fun v => Q (some v)) E s) : wpAny M A (callSpecialIfBound? (.ref x) name args) Q E s := by
  have tail : wpAny M A (call (.builtin id) ([.ref x] ++ args) >>= fun v => pure (some v)) Q E s := wpAny_bind (wpAny_mono go (fun v s' q => wpAny_pure q) fun _ _ z => z)
  simp only [bindSpecialIfBound?, callSpecialIfBound?]; apply wpAny_holding
  refine wpAny_bind (wpAny_bind (wpAny_bind (I.type.here ((looks_findIn X blt).here (wpAny_bind (wpAny_askSetting (wpAny_ite ?_)))))))
  rw [bound]
  split
  · exact wpAny_bind (wpAny_pure (wpAny_pure (by exact tail)))
  · exact wpAny_tryCatch (wpAny_bind (wpAny_pure (wpAny_pure (by exact tail))))
/-- a != b of two instances of a class with its own == -/
theorem rc_ne {y : Addr} {oy : Obj} {oe : Option Obj} {Q : Value → Shared → Prop} (hu : A.units + 1 < cLine) (X : K.In s.heap) (I : InstAt s.heap x ox C od) (J : InstAt s.heap y oy C oe)
    (hn : findIn K (.ref C) "__ne__" = some (some (.builtin "object.__ne__"))) (ho : mroIn K C (.type "object") = some true) (own : findIn K (.ref C) "__eq__" = some (some (.ref f))) (isf : isFn K (.ref f) = true)
    (go : wpAny (model prog w) A.in1 (call (.ref f) [.ref x, .ref y]) (fun v s' => ∃ b, v = .bool b ∧ Q (.bool (!b)) s') E s) : wpAny (model prog w) A (richCompare .NotEq (.ref x) (.ref y)) Q E s := by
  have ne : wpAny (model prog w) A (tryCompare (.ref x) "__ne__" (.ref y)) (fun r s' => ∃ v, r = some v ∧ Q v s') E s := by
    unfold tryCompare; apply wpAny_bind
    refine ifBound_B X I hn (PySem.F.cmp_object.ne.bind (.ref x)) (wpAny_call (codeAny_call_builtin PySem.F.cmp_object.ne.plain F.cmpEntry_ne ?_))
    refine @check_slot (model prog w) _ _ s "object.__ne__" "object" "__ne__" (.ref x) [.ref y] [] _ F.cmpKind_ne F.cmpSplit_ne (I.type.andThen (looks_mroIn X ho)) (F.cmpArgs_ne _ _) ?_
    unfold Builtin.«object.__ne__»; apply wpAny_bind
    refine wpAny_of_eq (a := ((Value.ref x : Value), [Value.ref y])) (by first | rfl | (simp only [Builtin.slotArgs]; rfl)) (wpAny_bind (wpAny_cRoomFor hu (wpAny_bind ?_)))
    refine ifBound_K X I own isf (wpAny_mono go (fun v s' told => ?_) fun _ _ z => z)
    obtain ⟨b, rfl, q⟩ := told
    exact wpAny_bind (wpAny_truthy_bool (wpAny_pure (wpAny_pure ⟨_, rfl, q⟩)))
  have info : cmpInfo CmpOp.NotEq = ("!=", ("__ne__" : Str), ("__ne__" : Str)) := rfl
  have alike : (Value.ref C != Value.ref C) = false := by simp
  unfold richCompare
  simp only [oneThing_ref, info]; apply wpAny_holding
  refine wpAny_bind (wpAny_cRoomFor (by omega) (wpAny_bind (I.type.here (wpAny_bind (J.type.here ?_)))))
  rw [alike]; simp only [if_false, Bool.false_eq_true]; apply wpAny_bind; apply wpAny_pure
  simp only [if_false, Bool.false_eq_true]; apply wpAny_bind
  refine wpAny_mono ne (fun r s' told => ?_) fun _ _ z => z
  obtain ⟨v, rfl, q⟩ := told
  exact wpAny_pure q
end
end GQ

set_option Elab.async false
set_option linter.all false
set_option maxRecDepth 100000
set_option maxHeartbeats 4100000
namespace L2
open PySem PySem.Spec PyProof.Rows
/-- what the written part says of a class with an own == -/
structure OwnE (K : PySem.W.Frag) (C f : Addr) : Prop where
  eq : PySem.W.findIn K (.ref C) "__eq__" = some (some (.ref f))
  fn : PySem.W.isFn K (Value.ref f) = true
  ne : PySem.W.findIn K (.ref C) "__ne__" = some (some (.builtin "object.__ne__"))
  ob : PySem.W.mroIn K C (.type "object") = some true
  st : PySem.W.mroIn K C (.type "str") = some false
  tu : PySem.W.mroIn K C (.type "tuple") = some false
  no : PySem.W.mroIn K C (.type "NoneType") = some false
def E00 : XK := fun _ _ _ => False
section
variable {X : Cx} {CX : CXT} {n : Nat} {C f : Addr} {fd : FuncData} {ps : List Str} {sp : Sp}
theorem own_run {A : Around} {pins : List (Addr × Obj)} {σ : St} {H : Hp} {s : Shared} {a : Addr} {y : V} {v : Value} {Q : Bool → Hp → Prop} (F : FnOk X.prog X.w X.K X.mg X.base CX n f fd ps sp) (sb : Sub X n A) (hb : Binds X.K fd ps []) (hx : Passes CX X E00) (I : Inv X pins σ H s) (ry : RelV y v)
    (h : sp [.ref a, y] H (fun r G => ∃ b, r = .bl b ∧ Q b G) E00) : wpAny (model X.prog X.w) A (call (.ref f) [.ref a, v]) (fun r s' => ∃ b, r = .bool b ∧ ∃ G, Inv X pins σ G s' ∧ Q b G) X.xe s := by
  have env := I.env0
  have e0 : Env0 X.prog X.w X.K X.mg X.base A X.stack s H := ⟨sb.fr ▸ env.frames, env.mod, env.bs, env.bsz, env.funs, env.frf, env.hok, env.bare⟩
  have hl := F.len _ _ _ _ h
  have r2 : Vals [V.ref a, y] [Value.ref a, v] := .cons rfl (.cons ry .nil)
  refine wpAny_call (codeAny_mono (F.run A X.stack s H ⟨[.ref a, v], []⟩ [.ref a, v] [.ref a, y] _ E00 sb.room e0 (by
    have := hb s [.ref a, v] I.kIn (by simpa using hl)
    simpa using this) r2 h) fun r s' hq => ?_)
  cases r with
  | error er => exact hx pins σ H s er s' I hq
  | ok fl =>
    cases fl with
    | ret w =>
      obtain ⟨z, H', I', rz, b, ez, ex⟩ := I.after hq
      subst ez
      cases rz
      exact ⟨b, rfl, H', I', ex⟩
    | next => exact False.elim hq
    | brk => exact False.elim hq
    | cont => exact False.elim hq
/-- a == b of two instances, by their own == -/
def rEqO (C : Addr) (sp : Sp) : R2 := fun x y H Q => ∃ a b dx dy fs gs, x = .ref a ∧ y = .ref b ∧ H a = some (.ins C dx fs) ∧ H b = some (.ins C dy gs) ∧ sp [.ref a, .ref b] H (fun r G => ∃ b, r = .bl b ∧ Q (.bl b) G) E00
theorem op_eqO (F : FnOk X.prog X.w X.K X.mg X.base CX n f fd ps sp) (hr : Room n X.A) (hb : Binds X.K fd ps []) (hx : Passes CX X E00) (O : OwnE X.K C f) : OpR X (compareOp .Eq) (rEqO C sp) := by
  rintro pins s σ H _ _ v u Q I rx ry ⟨a, b, dx, dy, fs, gs, rfl, rfl, ha, hb', h⟩
  cases rx
  cases ry
  show wpAny (model X.prog X.w) X.A (richCompare .Eq (.ref a) (.ref b)) (EP X pins σ Q) X.xe s
  obtain ⟨_, Ja, _⟩ := ins_get I.hok ha
  obtain ⟨_, Jb, _⟩ := ins_get I.hok hb'
  obtain ⟨_, J, _⟩ := Ja.look
  obtain ⟨_, J', _⟩ := Jb.look
  obtain ⟨m, hF⟩ := I.fr
  refine PySem.W.cmp_K (op := .Eq) (tb := .ref C) hr.units0 hF I.ok.mod.kin J J'.type (by simp [PySem.W.notFirst]) O.eq O.fn ?_
  refine wpAny_mono (own_run (Q := fun b G => Q (.bl b) G) F ⟨hr, rfl⟩ hb hx I (y := .ref b) rfl h) (fun r s' hq => ?_) fun _ _ e => e
  obtain ⟨b, rfl, G, I', q⟩ := hq
  exact ⟨.bl b, G, I', rfl, q⟩
/-- a != b -/
def rNeO (C : Addr) (sp : Sp) : R2 := fun x y H Q => ∃ a b dx dy fs gs, x = .ref a ∧ y = .ref b ∧ H a = some (.ins C dx fs) ∧ H b = some (.ins C dy gs) ∧ sp [.ref a, .ref b] H (fun r G => ∃ b, r = .bl b ∧ Q (.bl (!b)) G) E00
theorem op_neO (F : FnOk X.prog X.w X.K X.mg X.base CX n f fd ps sp) (hr : Room (n + 1) X.A) (hu : X.A.units + 1 < cLine) (hb : Binds X.K fd ps []) (hx : Passes CX X E00) (O : OwnE X.K C f) : OpR X (compareOp .NotEq) (rNeO C sp) := by
  rintro pins s σ H _ _ v u Q I rx ry ⟨a, b, dx, dy, fs, gs, rfl, rfl, ha, hb', h⟩
  cases rx
  cases ry
  show wpAny (model X.prog X.w) X.A (richCompare .NotEq (.ref a) (.ref b)) (EP X pins σ Q) X.xe s
  obtain ⟨_, Ja, _⟩ := ins_get I.hok ha
  obtain ⟨_, Jb, _⟩ := ins_get I.hok hb'
  obtain ⟨_, J, _⟩ := Ja.look
  obtain ⟨_, J', _⟩ := Jb.look
  refine GQ.rc_ne hu I.kIn J J' O.ne O.ob O.eq O.fn ?_
  refine wpAny_mono (own_run (A := X.A.in1) (Q := fun b G => Q (.bl (!b)) G) F (Sub.in1 ⟨hr, rfl⟩) hb hx I (y := .ref b) rfl h) (fun r s' hq => ?_) fun _ _ e => e
  obtain ⟨b, rfl, G, I', q⟩ := hq
  exact ⟨b, rfl, .bl (!b), G, I', rfl, q⟩
/-- a in l, the items texts, tuples and Nones -/
def OddV (K : PySem.W.Frag) (H : Hp) (u : V) : Prop := (∃ z, u = .str z) ∨ u = .non ∨ ∃ t xs, u = .ref t ∧ SqT K H t xs
def rInO (K : PySem.W.Frag) (C : Addr) (sp : Sp) : R2 := fun x y H Q => ∃ a l dx fs ys, x = .ref a ∧ y = .ref l ∧ H a = some (.ins C dx fs) ∧ H l = some (.lst ys) ∧ (∀ u ∈ ys, OddV K H u) ∧
  (∀ u ∈ ys, ∀ G, Ext H G → sp [.ref a, u] G (fun r G' => ∃ b, r = .bl b ∧ b = false ∧ Ext G G') E00) ∧ ∀ G, Ext H G → Q (.bl false) G
theorem op_inO (F : FnOk X.prog X.w X.K X.mg X.base CX n f fd ps sp) (hr : Room (n + 1) X.A) (hu : X.A.units + 1 < cLine) (hb : Binds X.K fd ps []) (hx : Passes CX X E00) (O : OwnE X.K C f) : OpR X (compareOp .In) (rInO X.K C sp) := by
  rintro pins s σ H _ _ v u Q I rx ry ⟨a, l, dx, fs, ys, rfl, rfl, ha, hl, odd, h, q⟩
  cases rx
  cases ry
  refine GQ.in_noneG (N := ys.length) (fun s' => ∃ G, Inv X pins σ G s' ∧ Ext H G) (fun s' ⟨G, J, e⟩ => ?_) (fun s' ⟨G, J, e⟩ => ⟨.bl false, G, J, rfl, q G e⟩) ⟨H, I, Ext.rfl'⟩
  obtain ⟨z, its, k, r, ob⟩ := J.hok l _ (e _ _ hl)
  refine ⟨its.toArray, k, ob, by rw [List.size_toArray, ← r.length], fun i hi => ?_⟩
  have k1 : i < ys.length := by rw [r.length]; simpa using hi
  obtain ⟨w0, hw, rw0⟩ := r.get (List.getElem?_eq_getElem k1)
  have inside : i < its.length := by simpa using hi
  have g1 : its[i]? = some (its.toArray[i]) := by
    have h1' := inside
    rw [List.getElem?_eq_getElem h1'] ; all_goals simp
  rw [g1] at hw
  rw [Option.some.inj hw]
  have mem : ys[i] ∈ ys := List.getElem_mem k1
  have sb : Sub X n X.A.in1 := Sub.in1 ⟨hr, rfl⟩
  have run := own_run (A := X.A.in1) (Q := fun b G' => b = false ∧ Ext G G') F sb hb hx J rw0 (h _ mem G e)
  obtain ⟨mA, Ja, _⟩ := ins_get J.hok (e _ _ ha)
  have hax := Ja.obj
  obtain ⟨od, Ja, _⟩ := Ja.look
  have back : ∀ (r : Value) (s2 : Shared), (∃ b, r = .bool b ∧ ∃ G', Inv X pins σ G' s2 ∧ b = false ∧ Ext G G') → PySem.W.CmpBack (fun v s' => ∃ b, v = .bool b ∧ b = false ∧ ∃ G, Inv X pins σ G s' ∧ Ext H G) r s2 := fun r s2 ⟨b, er, G', J', eb, ex⟩ => by
    subst er
    exact ⟨b, rfl, eb, G', J', e.trans ex⟩
  have fin : ∀ {u : Value}, wpAny (model X.prog X.w) X.A.in1 (richCompare .Eq u (.ref a)) (fun v s' => ∃ b, v = .bool b ∧ b = false ∧ ∃ G, Inv X pins σ G s' ∧ Ext H G) X.xe s' → u ≠ .ref a → (∀ b t, u ≠ .float b t) →
      wpAny (model X.prog X.w) X.A.in1 (eqBool u (.ref a)) (fun r s' => r = false ∧ ∃ G, Inv X pins σ G s' ∧ Ext H G) X.xe s' := fun {u} hh ne nf => by
    unfold eqBool
    refine wpAny_holding ?_
    refine wpAny_ite_split (fun hab => absurd (eq_of_beq hab) ne) (fun _ => ?_)
    split
    · rename_i h1
      exact absurd (congrArg Prod.fst h1) (nf _ _)
    · refine wpAny_bind (wpAny_mono hh (fun v s' hv => ?_) fun _ _ x => x)
      obtain ⟨b, rfl, rfl, q⟩ := hv
      exact wpAny_truthy_bool ⟨rfl, q⟩
  have ux : X.A.in1.units < cLine := sb.room.units0
  generalize hy : ys[i] = yi at *
  rcases odd _ mem with ⟨z, rfl⟩ | rfl | ⟨t, xs, rfl, ht⟩
  · obtain ⟨tk, rfl⟩ := rw0
    refine fin (GQ.rc_decl (typeIs_str s' z tk) J.kIn Ja O.st PySem.F.slot_str_eq ux (fun Q' q' => GQ.str_eq_no hax q') O.eq O.fn (wpAny_mono run back fun _ _ e => e)) (fun z => nomatch z) (fun _ _ z => nomatch z)
  · cases (show w0 = Value.none from rw0)
    refine fin (GQ.rc_decl (typeIs_none s') J.kIn Ja O.no PySem.F.slot_NoneType_eq ux (fun Q' q' => GQ.none_eq_no q') O.eq O.fn (wpAny_mono run back fun _ _ e => e)) (fun z => nomatch z) (fun _ _ z => nomatch z)
  · cases (show w0 = Value.ref t from rw0)
    obtain ⟨its2, r2, ⟨o2, here, c2, m2, d2⟩, _⟩ := J.tuple (ht.ext e)
    have ne : (Value.ref t) ≠ .ref a := fun z => by
      have : t = a := Value.ref.inj z
      subst this
      rw [hax] at here
      cases here
      cases c2
    refine fin (GQ.rc_decl (Ta := "tuple") ⟨o2, here, c2⟩ J.kIn Ja O.tu PySem.F.slot_tuple_eq ux (fun Q' q' => GQ.tup_eq_no here c2 Ja.type (PySem.W.looks_mroIn J.kIn O.tu) q') O.eq O.fn (wpAny_mono run back fun _ _ e => e)) ne (fun _ _ z => nomatch z)
end
/-! ### C(e, ..) that may raise, in a try -/
section
variable {X : Cx} {CX : CXT} {k : Nat} {f C : Addr} {fd : FuncData} {ps : List Str} {sp : Sp} {E : St → XK} {x : Str} {p pos : Pos} {e : Expr} {es : List Expr} {t : TA}
def tMakeS (C : Addr) (sp : Sp) (E : St → XK) (t : TA) : TE := fun σ H Q => t σ H fun vs H1 => ∀ x dx, H1 x = none → H1 dx = none → dx ≠ x →
  sp (.ref x :: vs) (upd (upd H1 dx (.own x)) x (.ins C dx [])) (fun v H2 => v = .non ∧ Q (.ref x) H2) (E σ)
theorem pe_makeS (M : Mk X.K C f) (F : FnOk X.prog X.w X.K X.mg X.base CX k f fd ps sp) (hr : Room (k + 1) X.A) (hg : Gl X x) (hm : X.mg x = some (.ref C)) (hb : Binds X.K fd ps []) (hx : ∀ σ, PassesAt CX X σ (E σ))
    (args : PA X (e :: es) t) (hdb : (x == ("__debug__" : Str)) = false := by decide) (he : starEach (e :: es) X.env = (false, eval e X.env) :: starEach es X.env := by rfl) (hpl : (backTo pos (starEach es X.env)).any (·.1) = false := by rfl) :
    PE X (.Call (.Name x p) (e :: es) [] pos) (tMakeS C sp E t) := by
  refine ⟨fun pins s σ H Q I h => ?_⟩
  refine wpAny_Call_Name_kw (ld_glob I hg hm (PySem.W.callWith_K (h₀ := X.base) I.ok.mod.kin M.kp (thn (args.run pos pins s σ H _ I h) fun us s1 ⟨vs, H1, I1, r, q⟩ => ⟨I1.kIn, ?_⟩) he hpl) hdb)
  have hq := q (s1.heap.objs.size + 1) s1.heap.objs.size (I1.hok.fresh (Nat.le_succ _)) (I1.hok.fresh (Nat.le_refl _)) (Nat.ne_of_lt (Nat.lt_succ_self _))
  have I2 := Inv.made (C := C) I1
  have r2 : Vals (V.ref (s1.heap.objs.size + 1) :: vs) (Value.ref (s1.heap.objs.size + 1) :: us) := .cons rfl r
  have hl : (Value.ref (s1.heap.objs.size + 1) :: us ++ []).length = ps.length := by
    have e := r2.length
    rw [F.len _ _ _ _ hq] at e
    rw [List.append_nil]
    exact e.symm
  refine wpAny_call (make_map (f := f) I1.kIn M.makes M.init (beq_iff_eq.mp M.fn) (codeAny_mono (F.run _ X.stack _ _ ⟨Value.ref (s1.heap.objs.size + 1) :: us, []⟩ (Value.ref (s1.heap.objs.size + 1) :: us) _ _ (E σ) (hr.make C us [])
    (I2.env0.make C us []) (by
      have := hb _ (Value.ref (s1.heap.objs.size + 1) :: us) I2.kIn hl
      rw [List.append_nil] at this
      exact this) r2 hq) fun r s' hq' => ?_))
  cases r with
  | error e => exact hx σ pins _ _ e s' I2 hq'
  | ok fl =>
    cases fl with
    | ret u =>
      obtain ⟨_, H', I3, rv, ev, q3⟩ := I2.after hq'
      subst ev
      exact ⟨rv, ⟨V.ref (s1.heap.objs.size + 1), H', I3, rfl, q3⟩⟩
    | next => exact hq'.elim
    | brk => exact False.elim hq'
    | cont => exact hq'.elim
end
end L2

set_option Elab.async false
set_option linter.all false
set_option maxRecDepth 100000
set_option maxHeartbeats 2000000
namespace L2
open PySem PySem.Spec PyProof.Rows
/-- what the written part says of an own error class -/
structure ErrC (K : PySem.W.Frag) (D : Addr) : Prop where
  ox : OexC K D
  xf : XfC K D
  cA : PySem.W.findIn K (.ref D) "__class__" = some (some (.builtin "object.__class__"))
  cG : PySem.W.specialIn K (.builtin "object.__class__") "__get__" = some (some (.builtin "getset_descriptor.__get__")) ∧ PySem.W.takesIn K (.builtin "object.__class__") = some true
  cM : PySem.W.mroIn K D (.type "object") = some true
theorem ErrC.kit {K : PySem.W.Frag} {D : Addr} (T : ErrC K D) {a : Addr} {ox : Obj} {od : Option Obj} : PySem.W.KitX K (.ref a) (.ref D) (fun h => PySem.W.InstAt h a ox D od) := by
  have some_ : (PySem.W.clsIn K D).isSome = true := by
    rcases T.ox.cls with ⟨_, _, _, _, _, _, _, _, _, _, _, _, _, _, _, look, _⟩
    unfold PySem.W.clsIn
    rw [look] <;> rfl
  exact PySem.W.kitx_exc some_ T.xf.ga T.xf.gg T.xf.exC T.cA T.cG.1 T.cG.2 T.cM
/-- isinstance(e, c), e the error that the suite holds, with a dict -/
def rIsES (K : PySem.W.Frag) (cls : Value) (d : Option Addr) (a : Addr) : List V → Hp → VK → Prop := fun vs G Q => ∃ (D dd : Addr) (fs : List (Str × V)) (c : V) (cv : Value) (b : Bool), vs = [.ref a, c] ∧ cls = .ref D ∧ d = some dd ∧ G dd = some (.xd fs) ∧ ClsV c cv ∧ ErrC K D ∧ PySem.W.kitOne K (.ref D) cv = some b ∧ Q (.bl b) G
theorem call_isES {X : Cx} {a : Addr} {cls : Value} {d : Option Addr} {oe : Obj} {pn : List (Addr × Obj)} (z : Zc cls d oe) (df : ∃ fv, oe.data = .fields fv) : CallR (X.suite a ((a, oe) :: pn)) (.builtin "isinstance") (rIsES X.K cls d a) := by
  rintro pins s σ G _ us Q I r ⟨D, dd, fs, c, cv, b, rfl, rfl, rfl, ed, k, T, ans, q⟩
  rcases vals2 r with ⟨v, v', rfl, rfl, rc⟩
  obtain rfl := k.eq rc
  have pin := (I.pin (a, oe) (List.mem_append_left _ List.mem_cons_self)).1
  obtain ⟨fv, f⟩ := df
  obtain ⟨mA, ns, _⟩ := (show ObjOk X.prog X.w G s.heap dd (.xd fs) from I.hok dd _ ed)
  obtain ⟨od, hod, _⟩ := lookIn_ns ns
  have inst : PySem.W.InstAt s.heap a oe D (some od) := ⟨pin, z.1, by unfold PySem.W.notCls; rw [f] <;> rfl, by rw [z.2]; exact hod⟩
  exact PySem.W.kia_one (T.kit (ox := oe) (od := some od)) I.kIn inst ans (fun z => nomatch z) fun tk => ⟨.bl b, G, I.tok tk, rfl, q⟩
end L2

namespace K02
open PySem L2
abbrev sBadInit : Stmt := inClass (top 6) 0
/-- the making of an error with a field -/
def spBad (K : PySem.W.Frag) (C : Addr) : Sp := fun vs H Q _ => ∃ (a : Addr) (y : V), vs = [.ref a, y] ∧ H a = some (exo a C none) ∧ ∀ dx, H dx = none → dx ≠ a → Q .non (upd (upd H dx (exd dx [(("part" : Str), y)])) a (exo a C (some dx)))
/-- BadLot as the text has it -/
structure BadT (K : PySem.W.Frag) (mg : Str → Option Value) (CB fB : Addr) (fdB : FuncData) : Prop where
  err : ErrC K CB
  no : PySem.W.findIn K (.ref CB) "part" = some none
  m : mg "BadLot" = some (.ref CB)
  F : Fun K "__init__" "BadLot.__init__" sBadInit fB fdB
  b : Binds K fdB ["self", "part"] []
  i : PySem.W.findIn K (.ref CB) "__init__" = some (some (.ref fB))
  t : PySem.W.typeIn K (.ref fB) = some (.type "function")
section
variable {P : Program} {w : World} {K : PySem.W.Frag} {mg : Str → Option Value} {base : Heap}
theorem scBad : FnScope ["self", "part"] ["self", "part"] (defScope sBadInit) := ⟨rfl, rfl, rfl, by decide +kernel, rfl, by decide +kernel, by decide +kernel⟩
theorem ok_bad {f C : Addr} {fd : FuncData} (F : Fun K "__init__" "BadLot.__init__" sBadInit f fd) (T : OexC K C) (hno : PySem.W.findIn K (.ref C) "part" = some none) : FnOk P w K mg base CX0 1 f fd ["self", "part"] (spBad K C) := by
  refine F.ok scBad (fun vs H Q E h => ?_) (fun cdv A outer s H vs Q E hr h => ?_)
  · obtain ⟨a, y, rfl, _⟩ := h
    rfl
  · obtain ⟨a, y, rfl, ha, k⟩ := h
    refine ⟨_, pss_one (ps_ost (pv 0) (pv 1)), ?_⟩
    exact ⟨_, rfl, _, rfl, a, C, rfl, T, hno, .inl ⟨ha, k⟩⟩
end
end K02

set_option Elab.async false
set_option linter.all false
namespace K02
/-! ### sums of numbers, each as often as one likes: mathematics alone -/
inductive Sm (M : List Nat) : Nat → Prop
  | zero : Sm M 0
  | add {n m : Nat} : Sm M n → m ∈ M → Sm M (n + m)
theorem Sm.mono {M M' : List Nat} (h : ∀ m ∈ M, m ∈ M') {n : Nat} (s : Sm M n) : Sm M' n := by
  induction s with
  | zero => exact .zero
  | add _ hm ih => exact .add ih (h _ hm)
theorem Sm.plus {M : List Nat} {x y : Nat} (hx : Sm M x) (hy : Sm M y) : Sm M (x + y) := by
  induction hy with
  | zero => exact hx
  | add _ hm ih => rw [← Nat.add_assoc]; exact .add ih hm
theorem Sm.one {M : List Nat} {m : Nat} (h : m ∈ M) : Sm M m := by
  have := Sm.add (.zero : Sm M 0) h
  rwa [Nat.zero_add] at this
/-! ### least sums, None for none -/
def leO (x y : Option Nat) : Prop := ∀ v, y = some v → ∃ u, x = some u ∧ u ≤ v
def addO (x : Option Nat) (m : Nat) : Option Nat := x.map (· + m)
def lesser : Option Nat → Option Nat → Option Nat
  | none, o => o
  | some t, some o => if o < t then some o else some t
  | some t, none => some t
theorem leO.refl (x : Option Nat) : leO x x := fun v h => ⟨v, h, Nat.le_refl _⟩
theorem leO.trans {x y z : Option Nat} (h : leO x y) (h' : leO y z) : leO x z := fun v e => by
  obtain ⟨u, eu, lu⟩ := h' v e
  obtain ⟨t, et, lt⟩ := h u eu
  exact ⟨t, et, Nat.le_trans lt lu⟩
theorem leO.add {x y : Option Nat} (h : leO x y) (m : Nat) : leO (addO x m) (addO y m) := fun v e => by
  cases y with
  | none => cases e
  | some y =>
    obtain ⟨u, eu, lu⟩ := h y rfl
    have e2 : y + m = v := Option.some.inj e
    exact ⟨u + m, by rw [eu]; rfl, by omega⟩
theorem addO_addO (x : Option Nat) (m n : Nat) : addO (addO x m) n = addO x (m + n) := by
  cases x with
  | none => rfl
  | some x => show some (x + m + n) = some (x + (m + n)); rw [Nat.add_assoc]
theorem leO_addO (x : Option Nat) (m : Nat) : leO x (addO x m) := fun v e => by
  cases x with
  | none => cases e
  | some x =>
    have e2 : x + m = v := Option.some.inj e
    exact ⟨x, rfl, by omega⟩
theorem addO_zero (x : Option Nat) : addO x 0 = x := by cases x <;> rfl
theorem lesser_l (t o : Option Nat) : leO (lesser t o) t := fun v e => by
  subst e
  cases o with
  | none => exact ⟨v, rfl, Nat.le_refl _⟩
  | some o =>
    by_cases h : o < v
    · exact ⟨o, by simp [lesser, h], Nat.le_of_lt h⟩
    · exact ⟨v, by simp [lesser, h], Nat.le_refl _⟩
theorem lesser_r (t o : Option Nat) : leO (lesser t o) o := fun v e => by
  cases t with
  | none => exact ⟨v, e, Nat.le_refl _⟩
  | some t =>
    cases e
    by_cases h : v < t
    · exact ⟨v, by simp [lesser, h], Nat.le_refl _⟩
    · exact ⟨t, by simp [lesser, h], by omega⟩
theorem lesser_or (t o : Option Nat) : lesser t o = t ∨ lesser t o = o := by
  cases t with
  | none => exact .inr rfl
  | some t =>
    cases o with
    | none => exact .inl rfl
    | some o =>
      by_cases h : o < t
      · exact .inr (by simp [lesser, h])
      · exact .inl (by simp [lesser, h])
theorem lesser_eq {t o : Option Nat} (h : leO o t) : lesser t o = o := by
  cases t with
  | none => rfl
  | some t =>
    obtain ⟨u, rfl, lu⟩ := h t rfl
    by_cases c : u < t
    · simp [lesser, c]
    · have : u = t := by omega
      simp [lesser, this]
/-! ### one ring -/
def updF (L : Nat → Option Nat) (k : Nat) (v : Option Nat) : Nat → Option Nat := fun j => if j = k then v else L j
theorem updF_same {L : Nat → Option Nat} {k : Nat} {v : Option Nat} : updF L k v k = v := by simp [updF]
theorem updF_ne {L : Nat → Option Nat} {k j : Nat} {v : Option Nat} (h : j ≠ k) : updF L k v j = L j := by simp [updF, h]
theorem updF_self {L : Nat → Option Nat} {k : Nat} : updF L k (L k) = L := by
  funext j
  by_cases h : j = k
  · rw [h, updF_same]
  · exact updF_ne h
def At (a m start i : Nat) : Nat := (start + i * m) % a
def run (a m start : Nat) (L : Nat → Option Nat) : Nat → (Nat → Option Nat) × Option Nat
  | 0 => (L, L start)
  | i + 1 => (updF (run a m start L i).1 (At a m start (i + 1)) (lesser (addO (run a m start L i).2 m) ((run a m start L i).1 (At a m start (i + 1)))), lesser (addO (run a m start L i).2 m) ((run a m start L i).1 (At a m start (i + 1))))
theorem at_next {a m start i : Nat} : (At a m start i + m) % a = At a m start (i + 1) := by
  unfold At
  rw [Nat.mod_add_mod, Nat.succ_mul, Nat.add_assoc]
section
variable {a m start : Nat} {L : Nat → Option Nat}
theorem run_cur (hs : start < a) : ∀ i, (run a m start L i).2 = (run a m start L i).1 (At a m start i)
  | 0 => by
    show L start = L ((start + 0 * m) % a)
    rw [Nat.zero_mul, Nat.add_zero, Nat.mod_eq_of_lt hs]
  | i + 1 => updF_same.symm
theorem run_le (k : Nat) : ∀ i, leO ((run a m start L i).1 k) (L k)
  | 0 => .refl _
  | i + 1 => by
    show leO (updF _ _ _ k) (L k)
    by_cases h : k = At a m start (i + 1)
    · rw [h, updF_same]
      rw [← h]
      exact (lesser_r _ _).trans (run_le k i)
    · rw [updF_ne h]
      exact run_le k i
theorem run_off {k : Nat} : ∀ i, (∀ j, 1 ≤ j → j ≤ i → At a m start j ≠ k) → (run a m start L i).1 k = L k
  | 0, _ => rfl
  | i + 1, h => by
    show updF _ _ _ k = L k
    rw [updF_ne fun z => h (i + 1) (by omega) (Nat.le_refl _) z.symm]
    exact run_off i fun j h1 h2 => h j h1 (by omega)
def Sound (a : Nat) (L : Nat → Option Nat) (M : List Nat) : Prop := ∀ k, k < a → ∀ v, L k = some v → v % a = k ∧ Sm M v
theorem run_sound {M : List Nat} (ha : 0 < a) (hm : m ∈ M) (hs : start < a) (h : Sound a L M) : ∀ i, Sound a (run a m start L i).1 M
  | 0 => h
  | i + 1 => fun k hk v e => by
    have ih := run_sound ha hm hs h i
    have e' : updF (run a m start L i).1 (At a m start (i + 1)) (lesser (addO (run a m start L i).2 m) ((run a m start L i).1 (At a m start (i + 1)))) k = some v := e
    by_cases hk2 : k = At a m start (i + 1)
    · rw [hk2, updF_same] at e'
      rcases lesser_or (addO (run a m start L i).2 m) ((run a m start L i).1 (At a m start (i + 1))) with q | q
      · rw [q, run_cur hs] at e'
        cases c : (run a m start L i).1 (At a m start i) with
        | none => rw [c] at e'; cases e'
        | some u =>
          rw [c] at e'
          have ev : u + m = v := Option.some.inj e'
          obtain ⟨h1, h2⟩ := ih (At a m start i) (Nat.mod_lt _ ha) u c
          subst ev
          refine ⟨?_, .add h2 hm⟩
          rw [hk2, ← at_next, ← h1, Nat.mod_add_mod]
      · rw [q] at e'
        rw [hk2]
        exact ih _ (Nat.mod_lt _ ha) v e'
    · rw [updF_ne hk2] at e'
      exact ih k hk v e'
/-- a step keeps a sum -/
def Tight (m : Nat) (S : Nat → Option Nat) (x y : Nat) : Prop := leO (S y) (addO (S x) m)
theorem run_first {len : Nat} (hs : start < a) (hinj : ∀ i j, 1 ≤ i → i ≤ len → 1 ≤ j → j ≤ len → At a m start i = At a m start j → i = j) : ∀ i, i ≤ len → ∀ j, 1 ≤ j → j < i → Tight m (run a m start L i).1 (At a m start j) (At a m start (j + 1))
  | 0, _, j, _, h => by omega
  | i + 1, hi, j, h1, h2 => by
    have ih := run_first hs hinj i (by omega)
    show leO (updF _ _ _ _) (addO (updF _ _ _ _) m)
    by_cases e : j = i
    · subst e
      rw [updF_same, updF_ne fun z => by have := hinj _ _ h1 (by omega) (by omega) hi z; omega, ← run_cur hs]
      exact lesser_l _ _
    · rw [updF_ne fun z => by have := hinj _ _ (by omega) (by omega) (by omega) hi z; omega, updF_ne fun z => by have := hinj _ _ h1 (by omega) (by omega) hi z; omega]
      exact ih j h1 (by omega)
/-- once round: the start is reached from each one of the ring -/
theorem run_back {len : Nat} (hs : start < a) (hinj : ∀ i j, 1 ≤ i → i ≤ len → 1 ≤ j → j ≤ len → At a m start i = At a m start j → i = j) : ∀ d j, 1 ≤ j → j + d = len → leO ((run a m start L len).1 (At a m start len)) (addO ((run a m start L len).1 (At a m start j)) (d * m))
  | 0, j, h1, h2 => by
    have : j = len := by omega
    subst this
    rw [Nat.zero_mul, addO_zero]
    exact .refl _
  | d + 1, j, h1, h2 => by
    have ih := run_back hs hinj d (j + 1) (by omega) (by omega)
    have t := run_first (L := L) hs hinj len (Nat.le_refl _) j h1 (by omega)
    refine ih.trans ?_
    have := t.add (d * m)
    rw [addO_addO] at this
    rwa [show m + d * m = (d + 1) * m by rw [Nat.succ_mul, Nat.add_comm]] at this
structure Second (a m start len : Nat) (W : Option Nat) (i : Nat) (S : Nat → Option Nat) : Prop where
  back : ∀ j, 1 ≤ j → j ≤ len → leO W (addO (S (At a m start j)) ((len - j) * m))
  end_ : S (At a m start len) = W
  done : ∀ j, j < i → Tight m S (At a m start j) (At a m start (j + 1))
  left : ∀ j, i < j → j < len → Tight m S (At a m start j) (At a m start (j + 1))
theorem run_second {len : Nat} (hs : start < a) (hl : 0 < len) (hinj : ∀ i j, 1 ≤ i → i ≤ len → 1 ≤ j → j ≤ len → At a m start i = At a m start j → i = j) (h0 : At a m start 0 = At a m start len) (hper : ∀ i, At a m start (len + i) = At a m start i) :
    ∀ i, i ≤ len → Second a m start len ((run a m start L len).1 (At a m start len)) i (run a m start L (len + i)).1
  | 0, _ => ⟨fun j h1 h2 => run_back hs hinj (len - j) j h1 (by omega), rfl, fun j h => by omega, fun j h1 h2 => run_first hs hinj len (Nat.le_refl _) j (by omega) h2⟩
  | i + 1, hi => by
    have ih := run_second hs hl hinj h0 hper i (by omega)
    have cur : (run a m start L (len + i)).2 = (run a m start L (len + i)).1 (At a m start i) := by rw [run_cur hs, hper]
    generalize hW : (run a m start L len).1 (At a m start len) = W at *
    have step : (run a m start L (len + (i + 1))).1 = updF (run a m start L (len + i)).1 (At a m start (i + 1)) (lesser (addO ((run a m start L (len + i)).1 (At a m start i)) m) ((run a m start L (len + i)).1 (At a m start (i + 1)))) := by
      show updF _ (At a m start (len + i + 1)) (lesser (addO (run a m start L (len + i)).2 m) ((run a m start L (len + i)).1 (At a m start (len + i + 1)))) = _
      rw [cur, Nat.add_assoc, hper]
      rfl
    rw [step]
    generalize (run a m start L (len + i)).1 = S at *
    -- from where one comes, the start is no lesser
    have low : leO W (addO (addO (S (At a m start i)) m) ((len - (i + 1)) * m)) := by
      rw [addO_addO]
      obtain z | z := Nat.eq_zero_or_pos i
      · subst z
        rw [h0, ih.end_]
        exact leO_addO _ _
      · have := ih.back i z (by omega)
        rwa [show m + (len - (i + 1)) * m = (len - i) * m by
          have : len - i = (len - (i + 1)) + 1 := by omega
          rw [this, Nat.succ_mul, Nat.add_comm]]
    by_cases c : i + 1 = len
    · have e1 : lesser (addO (S (At a m start i)) m) (S (At a m start (i + 1))) = S (At a m start (i + 1)) := by
        refine lesser_eq ?_
        rw [c, ih.end_]
        rw [c, Nat.sub_self, Nat.zero_mul, addO_zero] at low
        exact low
      rw [e1, updF_self]
      refine ⟨ih.back, ih.end_, fun j hj => ?_, fun j h1 h2 => by omega⟩
      by_cases e : j = i
      · subst e
        have := lesser_l (addO (S (At a m start j)) m) (S (At a m start (j + 1)))
        rwa [e1] at this
      · exact ih.done j (by omega)
    · have ne : ∀ j, 1 ≤ j → j ≤ len → j ≠ i + 1 → At a m start j ≠ At a m start (i + 1) := fun j h1 h2 h3 z => h3 (hinj _ _ h1 h2 (by omega) hi z)
      have n0 : At a m start 0 ≠ At a m start (i + 1) := by rw [h0]; exact ne len hl (Nat.le_refl _) (by omega)
      refine ⟨fun j h1 h2 => ?_, ?_, fun j hj => ?_, fun j h1 h2 => ?_⟩
      · by_cases e : j = i + 1
        · subst e
          rw [updF_same]
          rcases lesser_or (addO (S (At a m start i)) m) (S (At a m start (i + 1))) with q | q
          · rw [q]; exact low
          · rw [q]; exact ih.back _ h1 h2
        · rw [updF_ne (ne j h1 h2 e)]; exact ih.back j h1 h2
      · rw [updF_ne (ne len hl (Nat.le_refl _) (by omega))]; exact ih.end_
      · show leO (updF _ _ _ _) (addO (updF _ _ _ _) m)
        have nj : At a m start j ≠ At a m start (i + 1) := by
          rcases Nat.eq_zero_or_pos j with z | z
          · subst z; exact n0
          · exact ne j z (by omega) (by omega)
        rw [updF_ne nj]
        by_cases e : j = i
        · subst e
          rw [updF_same]
          exact lesser_l _ _
        · rw [updF_ne (ne (j + 1) (by omega) (by omega) (by omega))]
          exact ih.done j (by omega)
      · show leO (updF _ _ _ _) (addO (updF _ _ _ _) m)
        rw [updF_ne (ne j (by omega) (by omega) (by omega)), updF_ne (ne (j + 1) (by omega) (by omega) (by omega))]
        exact ih.left j (by omega) h2
end
/-! ### the rings of one number -/
theorem bezout : ∀ m n : Nat, ∃ u v : Int, u * (m : Int) + v * (n : Int) = ((Nat.gcd m n : Nat) : Int) := fun m n => by
  induction m, n using Nat.gcd.induction with
  | H0 n => exact ⟨0, 1, by simp⟩
  | H1 m n hm ih =>
    obtain ⟨u, v, e⟩ := ih
    refine ⟨v - u * ((n / m : Nat) : Int), u, ?_⟩
    rw [Nat.gcd_rec, ← e]
    have h : (n : Int) = (m : Int) * ((n / m : Nat) : Int) + ((n % m : Nat) : Int) := by
      have := Nat.div_add_mod n m
      omega
    generalize ((n / m : Nat) : Int) = d at *
    generalize ((n % m : Nat) : Int) = r at *
    rw [h, Int.sub_mul, Int.mul_add]
    have : u * d * (m : Int) = u * ((m : Int) * d) := by rw [Int.mul_assoc, Int.mul_comm d]
    omega
section
variable {a m : Nat}
/-- some number of times m leaves the greatest common divisor behind -/
theorem times_gcd (ha : 0 < a) : ∃ x : Nat, (x * m) % a = (Nat.gcd a m) % a := by
  obtain ⟨u, v, e⟩ := bezout a m
  refine ⟨(v % (a : Int)).toNat, ?_⟩
  have h0 : 0 ≤ v % (a : Int) := Int.emod_nonneg _ (by omega)
  have e1 : (((v % (a : Int)).toNat : Nat) : Int) = v % (a : Int) := Int.toNat_of_nonneg h0
  have : ((((v % (a : Int)).toNat * m) % a : Nat) : Int) = ((Nat.gcd a m % a : Nat) : Int) := by
    rw [Int.natCast_emod, Int.natCast_mul, e1, Int.natCast_emod, ← e, Int.add_comm, Int.mul_comm u, Int.add_mul_emod_self_left, Int.mul_emod, Int.emod_emod_of_dvd _ (Int.dvd_refl _), ← Int.mul_emod]
  exact Int.ofNat.inj this
variable {g len : Nat}
theorem at_shift (ha : a = g * len) (hm : g ∣ m) (start i : Nat) : At a m start (len + i) = At a m start i := by
  obtain ⟨k, rfl⟩ := hm
  unfold At
  rw [show start + (len + i) * (g * k) = start + i * (g * k) + k * (g * len) by
    rw [Nat.add_mul, Nat.mul_comm len, Nat.mul_assoc g, Nat.mul_comm k len, Nat.mul_left_comm k g len, Nat.mul_comm k len]; omega, ← ha, Nat.add_mul_mod_self_right]
theorem at_inj (hg : g = Nat.gcd a m) (ha0 : 0 < a) (ha : a = g * len) {start i j : Nat} (hi : i ≤ j) (hj : j < len + i) (h : At a m start i = At a m start j) : i = j := by
  have gp : 0 < g := by rw [hg]; exact Nat.gcd_pos_of_pos_left _ ha0
  obtain ⟨k, hk⟩ : g ∣ m := by rw [hg]; exact Nat.gcd_dvd_right _ _
  have d : a ∣ (start + j * m) - (start + i * m) := Nat.dvd_of_mod_eq_zero (Nat.sub_mod_eq_zero_of_mod_eq h.symm)
  have e : (start + j * m) - (start + i * m) = (j - i) * m := by rw [Nat.sub_mul]; omega
  rw [e] at d
  have cp : Nat.Coprime len k := by
    have := Nat.coprime_div_gcd_div_gcd (m := a) (n := m) (by rw [← hg]; exact gp)
    rw [← hg, ha, hk, Nat.mul_div_cancel_left _ gp, Nat.mul_div_cancel_left _ gp] at this
    exact this
  have d2 : len ∣ j - i := by
    refine Nat.Coprime.dvd_of_dvd_mul_right cp ?_
    rw [ha, hk, Nat.mul_left_comm] at d
    exact Nat.dvd_of_mul_dvd_mul_left gp d
  rcases Nat.eq_zero_or_pos (j - i) with z | z
  · omega
  · have := Nat.le_of_dvd z d2
    omega
theorem at_mod (hg : g = Nat.gcd a m) (start i : Nat) : At a m start i % g = start % g := by
  have h1 : g ∣ a := by rw [hg]; exact Nat.gcd_dvd_left _ _
  obtain ⟨k, hk⟩ : g ∣ m := by rw [hg]; exact Nat.gcd_dvd_right _ _
  unfold At
  rw [Nat.mod_mod_of_dvd _ h1, hk, Nat.mul_left_comm, Nat.add_mul_mod_self_left]
/-- each number stands in its ring -/
theorem at_onto (hg : g = Nat.gcd a m) (ha0 : 0 < a) (ha : a = g * len) {start k : Nat} (hs : start < g) (hk : k < a) (h : k % g = start) : ∃ j, j < len ∧ At a m start j = k := by
  have gp : 0 < g := by omega
  have hm : g ∣ m := by rw [hg]; exact Nat.gcd_dvd_right _ _
  have lp : 0 < len := by
    rcases Nat.eq_zero_or_pos len with z | z
    · rw [z, Nat.mul_zero] at ha; omega
    · exact z
  obtain ⟨x, hx⟩ := times_gcd (m := m) ha0
  rw [← hg] at hx
  have e1 : At a m start ((k / g) * x) = k := by
    unfold At
    rw [Nat.mul_assoc, Nat.add_mod, Nat.mul_mod, hx, ← Nat.mul_mod, ← Nat.add_mod]
    have := Nat.div_add_mod k g
    rw [h, Nat.mul_comm] at this
    rw [Nat.add_comm, this, Nat.mod_eq_of_lt hk]
  have red : ∀ n, At a m start n = At a m start (n % len) := fun n => by
    have := Nat.div_add_mod n len
    generalize n / len = q at this
    generalize n % len = r at *
    subst this
    induction q with
    | zero => rw [Nat.mul_zero, Nat.zero_add]
    | succ q ih => rw [Nat.mul_succ, Nat.add_comm (len * q), Nat.add_assoc, at_shift ha hm, ih]
  exact ⟨_, Nat.mod_lt _ lp, by rw [← red, e1]⟩
end
end K02

set_option Elab.async false
set_option linter.all false
namespace K02
/-! ### one maker more -/
def widen (a m len : Nat) (L : Nat → Option Nat) : Nat → Nat → Option Nat
  | 0 => L
  | r + 1 => (run a m r (widen a m len L r) (len + len)).1
structure Wide (a m g : Nat) (L : Nat → Option Nat) (r : Nat) (S : Nat → Option Nat) : Prop where
  le : ∀ k, leO (S k) (L k)
  tight : ∀ k, k < a → k % g < r → Tight m S k ((k + m) % a)
theorem widen_ok {a m g len : Nat} {L : Nat → Option Nat} (hg : g = Nat.gcd a m) (ha0 : 0 < a) (ha : a = g * len) : ∀ r, r ≤ g → Wide a m g L r (widen a m len L r)
  | 0, _ => ⟨fun k => .refl _, fun k _ h => by omega⟩
  | r + 1, hr => by
    have ih := widen_ok (L := L) hg ha0 ha r (by omega)
    have hm : g ∣ m := by rw [hg]; exact Nat.gcd_dvd_right _ _
    have lp : 0 < len := by
      rcases Nat.eq_zero_or_pos len with z | z
      · rw [z, Nat.mul_zero] at ha; omega
      · exact z
    have ga : g ≤ a := by rw [ha]; exact Nat.le_mul_of_pos_right _ lp
    have hs : r < a := by omega
    have hper : ∀ i, At a m r (len + i) = At a m r i := at_shift ha hm r
    have h0 : At a m r 0 = At a m r len := (hper 0).symm
    have hinj : ∀ i j, 1 ≤ i → i ≤ len → 1 ≤ j → j ≤ len → At a m r i = At a m r j → i = j := fun i j h1 h2 h3 h4 e => by
      rcases Nat.le_total i j with c | c
      · exact at_inj hg ha0 ha c (by omega) e
      · exact (at_inj hg ha0 ha c (by omega) e.symm).symm
    show Wide a m g L (r + 1) (run a m r (widen a m len L r) (len + len)).1
    have sec := run_second (L := widen a m len L r) hs lp hinj h0 hper len (Nat.le_refl _)
    refine ⟨fun k => (run_le k _).trans (ih.le k), fun k hk h => ?_⟩
    have gp : 0 < g := by omega
    by_cases c : k % g = r
    · obtain ⟨j, hj, e⟩ := at_onto hg ha0 ha (by omega) hk c
      have := sec.done j hj
      rw [← at_next, e] at this
      exact this
    · have off : ∀ x, x % g = k % g → (run a m r (widen a m len L r) (len + len)).1 x = widen a m len L r x := fun x hx => by
        refine run_off _ fun j _ _ z => c ?_
        rw [← hx, ← z, at_mod hg, Nat.mod_eq_of_lt (by omega)]
      have h1 : g ∣ a := by rw [hg]; exact Nat.gcd_dvd_left _ _
      have e2 : ((k + m) % a) % g = k % g := by
        obtain ⟨q, hq⟩ := hm
        rw [Nat.mod_mod_of_dvd _ h1, hq, Nat.add_mul_mod_self_left]
      show leO _ (addO _ m)
      rw [off _ e2, off _ rfl]
      exact ih.tight k hk (by omega)
theorem widen_sound {a m len : Nat} {L : Nat → Option Nat} {M : List Nat} (ha0 : 0 < a) (hm : m ∈ M) (h : Sound a L M) : ∀ r, r ≤ a → Sound a (widen a m len L r) M
  | 0, _ => h
  | r + 1, hr => run_sound ha0 hm (by omega) (widen_sound ha0 hm h r (by omega)) _
/-! ### what is a sum -/
def hasB (a : Nat) (L : Nat → Option Nat) (n : Nat) : Bool := match L (n % a) with
  | none => false
  | some v => decide (v ≤ n)
theorem hasB_iff {a : Nat} {L : Nat → Option Nat} {n : Nat} : hasB a L n = true ↔ ∃ v, L (n % a) = some v ∧ v ≤ n := by
  unfold hasB
  cases h : L (n % a) with
  | none => simp
  | some v => simp
structure SumsOk (a : Nat) (L : Nat → Option Nat) (M : List Nat) : Prop where
  pos : 0 < a
  mem : a ∈ M
  sound : Sound a L M
  full : ∀ n, Sm M n → hasB a L n = true
theorem Sm.times {M : List Nat} {m : Nat} (h : m ∈ M) : ∀ j, Sm M (j * m)
  | 0 => by rw [Nat.zero_mul]; exact .zero
  | j + 1 => by rw [Nat.succ_mul]; exact .add (Sm.times h j) h
theorem SumsOk.has {a : Nat} {L : Nat → Option Nat} {M : List Nat} (h : SumsOk a L M) (n : Nat) : hasB a L n = true ↔ Sm M n := by
  refine ⟨fun e => ?_, h.full n⟩
  obtain ⟨v, e1, l⟩ := hasB_iff.mp e
  obtain ⟨h1, h2⟩ := h.sound _ (Nat.mod_lt _ h.pos) v e1
  have d : a ∣ n - v := Nat.dvd_of_mod_eq_zero (Nat.sub_mod_eq_zero_of_mod_eq h1.symm)
  obtain ⟨q, hq⟩ := d
  have : n = v + q * a := by rw [Nat.mul_comm]; omega
  rw [this]
  exact h2.plus (.times h.mem q)
theorem sm_cons {M : List Nat} {m n : Nat} (h : Sm (m :: M) n) : ∃ k j, n = k + j * m ∧ Sm M k := by
  induction h with
  | zero => exact ⟨0, 0, by omega, .zero⟩
  | @add n x _ hx ih =>
    obtain ⟨k, j, e, hk⟩ := ih
    obtain rfl | hx := List.mem_cons.mp hx
    · exact ⟨k, j + 1, by rw [e, Nat.succ_mul, Nat.add_assoc], hk⟩
    · exact ⟨k + x, j, by omega, .add hk hx⟩
/-- one maker more -/
theorem SumsOk.widen {a m g len : Nat} {L : Nat → Option Nat} {M : List Nat} (h : SumsOk a L M) (hg : g = Nat.gcd a m) (ha : a = g * len) : SumsOk a (widen a m len L g) (m :: M) := by
  have w := widen_ok (L := L) hg h.pos ha g (Nat.le_refl _)
  have gp : 0 < g := by rw [hg]; exact Nat.gcd_pos_of_pos_left _ h.pos
  have ga : g ≤ a := by rw [hg]; exact Nat.gcd_le_left _ h.pos
  refine ⟨h.pos, List.mem_cons_of_mem _ h.mem, ?_, fun n hn => ?_⟩
  · exact widen_sound h.pos List.mem_cons_self (fun k hk v e => ⟨(h.sound k hk v e).1, (h.sound k hk v e).2.mono fun x hx => List.mem_cons_of_mem _ hx⟩) g ga
  · obtain ⟨k, j, rfl, hk⟩ := sm_cons hn
    have h0 : ∃ v, K02.widen a m len L g (k % a) = some v ∧ v ≤ k := by
      obtain ⟨v, e, l⟩ := hasB_iff.mp (h.full k hk)
      obtain ⟨u, e2, l2⟩ := w.le _ v e
      exact ⟨u, e2, by omega⟩
    rw [hasB_iff]
    clear hn hk
    induction j with
    | zero => rw [Nat.zero_mul, Nat.add_zero]; exact h0
    | succ j ih =>
      obtain ⟨v, e, l⟩ := ih
      have t := w.tight ((k + j * m) % a) (Nat.mod_lt _ h.pos) (Nat.mod_lt _ gp)
      rw [Nat.mod_add_mod] at t
      obtain ⟨u, e2, l2⟩ := t (v + m) (by rw [e]; rfl)
      refine ⟨u, ?_, ?_⟩
      · rw [Nat.succ_mul, ← Nat.add_assoc]; exact e2
      · rw [Nat.succ_mul]; omega
theorem sums_one {a : Nat} (ha : 0 < a) : SumsOk a (fun k => if k = 0 then some 0 else none) [a] := by
  refine ⟨ha, List.mem_cons_self, fun k hk v e => ?_, fun n hn => ?_⟩
  · by_cases c : k = 0
    · subst c
      have : (0 : Nat) = v := Option.some.inj e
      subst this
      exact ⟨Nat.zero_mod _, .zero⟩
    · rw [if_neg c] at e; cases e
  · obtain ⟨k, j, rfl, hk⟩ := sm_cons hn
    have k0 : k = 0 := by
      cases hk with
      | zero => rfl
      | add _ h => cases h
    subst k0
    rw [hasB_iff, Nat.zero_add, Nat.mul_mod_left]
    exact ⟨0, rfl, Nat.zero_le _⟩
end K02

set_option Elab.async false
set_option linter.all false
set_option maxRecDepth 100000
set_option maxHeartbeats 2100000
namespace K02
open PySem L2
abbrev sLesser : Stmt := top 10
abbrev sSHas : Stmt := inClass (top 9) 1
abbrev sSWiden : Stmt := inClass (top 9) 2
abbrev sSRound : Stmt := inClass (top 9) 3
structure Fn (K : PySem.W.Frag) (mg : Str → Option Value) (x : Str) (st : Stmt) (ps : List Str) (f : Addr) (fd : FuncData) : Prop where
  F : Fun K x x st f fd
  b : Binds K fd ps []
  m : mg x = some (.ref f)
theorem ifT {c : Bool} {A B : Prop} (hc : c = true) (h : A) : if c = true then A else B := by
  rw [if_pos hc]
  exact h
theorem ifF {c : Bool} {A B : Prop} (hc : c = false) (h : B) : if c = true then A else B := by
  rw [hc, if_neg Bool.false_ne_true]
  exact h
/-- a least sum as the program keeps it -/
def oV : Option Nat → V
  | none => .non
  | some n => .int (n : Int)
def spLesser : Sp := fun vs H Q _ => ∃ t o : Option Nat, vs = [oV t, oV o] ∧ Q (oV (lesser t o)) H
section
variable {P : Program} {w : World} {K : PySem.W.Frag} {mg : Str → Option Value} {base : Heap} {CS : Addr}
theorem scLes : FnScope ["total", "other"] ["total", "other"] (defScope sLesser) := ⟨rfl, rfl, rfl, by decide +kernel, rfl, by decide +kernel, by decide +kernel⟩
theorem ok_lesser {f : Addr} {fd : FuncData} (F : Fn K mg "_lesser" sLesser ["total", "other"] f fd) : FnOk P w K mg base CX0 1 f fd ["total", "other"] spLesser := by
  refine F.F.ok scLes (fun vs H Q E h => ?_) (fun cdv A outer s H vs Q E hr h => ?_)
  · obtain ⟨t, o, rfl, _⟩ := h
    rfl
  · obtain ⟨t, o, rfl, k⟩ := h
    refine ⟨_, pss_cons (ps_if (PW.pt (pw_or (pt_cmpR op_isN (pv 0) pe_non (nomark _)) (pw_or1 (PW.pt (pw_and (pt_cmpR op_notN (pv 1) pe_non (nomark _)) (pw_and1 (pt_cmpR op_lt (pv 1) (pv 0) (nomark _)))))))) (pss_one (ps_ret (pv 1))) pss_nil)
      (pss_one (ps_ret (pv 0))), ?_⟩
    have fin : ∀ z, lesser t o = z → Q (oV z) H := fun z e => by rw [← e]; exact k
    cases t with
    | none =>
      refine ⟨_, rfl, rfl, _, rfl, ?_⟩
      refine ifT (by decide) ?_
      refine ifT (by decide) ?_
      exact ⟨_, rfl, fin o rfl⟩
    | some t =>
      refine ⟨_, rfl, rfl, _, rfl, ?_⟩
      refine ifF (by rfl) ?_
      cases o with
      | none =>
        refine ⟨_, rfl, rfl, _, rfl, ?_⟩
        refine ifF (by decide) ?_
        refine ifF (by decide) ?_
        exact ⟨_, rfl, fin (some t) rfl⟩
      | some o =>
        refine ⟨_, rfl, rfl, _, rfl, ?_⟩
        refine ifT (by rfl) ?_
        refine ⟨_, rfl, _, rfl, _, _, rfl, rfl, _, rfl, ?_⟩
        refine ite2 (fun c => ?_) (fun c => ?_)
        · have c2 : o < t := by have := of_decide_eq_true c; omega
          exact ⟨_, rfl, fin (some o) (by simp [lesser, c2])⟩
        · have c2 : ¬ o < t := fun z => c (decide_eq_true (by omega))
          exact ⟨_, rfl, fin (some t) (by simp [lesser, c2])⟩
/-- a Sums object: its least sums are those of L -/
structure SumAt (H : Hp) (x la : Addr) (CS : Addr) (a : Nat) (L : Nat → Option Nat) : Prop where
  ob : ∃ dx fs, H x = some (.ins CS dx fs) ∧ fs.lookup ("_least" : Str) = some (.ref la)
  ls : H la = some (.lst ((List.range a).map fun k => oV (L k)))
/-- what the written part says of Sums -/
structure SumT (K : PySem.W.Frag) (CS : Addr) : Prop where
  cl : Cls K CS
  nL : NoAttr K CS "_least"
  nS : NoAttr K CS "step"
  nM : NoAttr K CS "makers"
  nF : NoAttr K CS "far"
def hasZ (a : Nat) (L : Nat → Option Nat) (n : Int) : Bool := match L (n % (a : Int)).toNat with
  | none => false
  | some v => decide ((v : Int) ≤ n)
theorem hasZ_nat {a : Nat} {L : Nat → Option Nat} {n : Nat} : hasZ a L (n : Int) = hasB a L n := by
  unfold hasZ hasB
  have e : ((n : Int) % (a : Int)).toNat = n % a := by rw [← Int.natCast_emod]; rfl
  rw [e]
  cases L (n % a) with
  | none => rfl
  | some v => simp
def spSHas (CS : Addr) : Sp := fun vs H Q _ => ∃ (x la : Addr) (a : Nat) (L : Nat → Option Nat) (n : Int), vs = [.ref x, .int n] ∧ SumAt H x la CS a L ∧ 0 < a ∧ Q (.bl (hasZ a L n)) H
theorem SumAt.get {H : Hp} {x la : Addr} {a : Nat} {L : Nat → Option Nat} (h : SumAt H x la CS a L) {k : Nat} (hk : k < a) : atI ((List.range a).map fun k => oV (L k)) (k : Int) = some (oV (L k)) :=
  atI_nat (by rw [List.getElem?_map, List.getElem?_range hk]; rfl)
theorem scSHas : FnScope ["self", "number", "least"] ["self", "number"] (defScope sSHas) := ⟨rfl, rfl, rfl, by decide +kernel, rfl, by decide +kernel, by decide +kernel⟩
theorem ok_shas {f : Addr} {fd : FuncData} (F : Fun K "has" "Sums.has" sSHas f fd) (T : TxB mg) (S : SumT K CS) : FnOk P w K mg base CX0 1 f fd ["self", "number"] (spSHas CS) := by
  refine F.ok scSHas (fun vs H Q E h => ?_) (fun cdv A outer s H vs Q E hr h => ?_)
  · obtain ⟨x, la, a, L, n, rfl, _⟩ := h
    rfl
  · obtain ⟨x, la, a, L, n, rfl, hs, ha, k⟩ := h
    have nd := scSHas.nd
    obtain ⟨dx, fs, hx, hf⟩ := hs.ob
    refine ⟨_, pss_cons (ps_set (i := 2) nd rfl (Or.inl rfl) (pe_ix ix_list (pe_fld (pv 0) rfl) (pe_op op_mod (pv 1) (pe_callB call_len (by rfl) T.len PySem.boot_len (pa_cons (pe_fld (pv 0) rfl) pa_nil))) (fun _ _ => rfl)))
      (pss_one (ps_ret (pe_and (pe_cmpR op_notN (pv 2) pe_non (nomark _)) (pe_one (pe_cmpR op_le (pv 2) (pv 1) (nomark _)))))), ?_⟩
    have h0 : 0 ≤ n % (a : Int) := Int.emod_nonneg _ (by omega)
    have h1 : n % (a : Int) < (a : Int) := Int.emod_lt_of_pos _ (by omega)
    have e1 : (((n % (a : Int)).toNat : Nat) : Int) = n % (a : Int) := Int.toNat_of_nonneg h0
    have hat := hs.get (k := (n % (a : Int)).toNat) (by omega)
    rw [e1] at hat
    refine ⟨_, rfl, x, CS, dx, _, _, rfl, hx, S.cl, S.nL, hf, ?_⟩
    refine ⟨_, rfl, _, rfl, x, CS, dx, _, _, rfl, hx, S.cl, S.nL, hf, _, _, rfl, .inl ⟨_, SqL.of hs.ls, rfl⟩, ?_⟩
    simp only [List.length_range, List.length_map]
    refine ⟨_, _, rfl, rfl, (by show (0 : Int) < (a : Int); omega), la, _, _, _, rfl, rfl, SqL.of hs.ls, hat, ?_⟩
    have fin : ∀ z, hasZ a L n = z → Q (.bl z) H := fun z e => by rw [← e]; exact k
    cases c : L (n % (a : Int)).toNat with
    | none =>
      refine ⟨_, rfl, rfl, _, rfl, ?_⟩
      refine ifF (by decide) ?_
      exact fin false (by unfold hasZ; rw [c])
    | some v =>
      refine ⟨_, rfl, rfl, _, rfl, ?_⟩
      refine ifT (by rfl) ?_
      refine ⟨_, rfl, _, rfl, _, _, rfl, rfl, ?_⟩
      exact fin (decide ((v : Int) ≤ n)) (by unfold hasZ; rw [c])
/-- a walk round: from start, so many steps -/
def spRound (K : PySem.W.Frag) (CS : Addr) : Sp := fun vs H Q _ => ∃ (x la : Addr) (a : Nat) (L : Nat → Option Nat) (start m len : Nat), vs = [.ref x, .int (start : Int), .int (m : Int), .int (len : Int)] ∧ SumAt H x la CS a L ∧ start < a ∧ len ≤ 1000000 ∧ x ≠ la ∧
  ∀ H', (∀ b, b ≠ la → H' b = H b) → H' la = some (.lst ((List.range a).map fun k => oV ((run a m start L (len + len)).1 k))) → Q .non H'
theorem map_set {a k : Nat} {f : Nat → Option Nat} {v : Option Nat} : ((List.range a).map fun j => oV (f j)).set k (oV v) = (List.range a).map fun j => oV (updF f k v j) := by
  apply List.ext_getElem?; intro j
  rw [List.getElem?_set, List.getElem?_map, List.getElem?_map, List.length_map, List.length_range]
  by_cases h : k = j
  · subst h
    rw [if_pos rfl]
    by_cases hk : k < a
    · rw [if_pos hk, List.getElem?_range hk]
      show _ = some (oV (updF f k v k))
      rw [updF_same]
    · rw [if_neg hk, List.getElem?_eq_none (by rw [List.length_range]; omega)]
      rfl
  · rw [if_neg h]
    cases e : (List.range a)[j]? with
    | none => rfl
    | some i =>
      have : i = j := by
        have h2 := (List.getElem?_eq_some_iff.mp e).1
        rw [List.length_range] at h2
        rw [List.getElem?_range h2] at e
        exact (Option.some.inj e).symm
      subst this
      show some (oV (f i)) = some (oV (updF f k v i))
      rw [updF_ne fun z => h z.symm]
theorem ixN_nat {n j : Nat} (h : j < n) : ixN n (j : Int) = some j := by
  unfold ixN
  rw [if_pos (by omega), if_pos (by omega), Int.toNat_natCast]
theorem scSRound : FnScope ["self", "start", "maker", "length", "at", "least", "_"] ["self", "start", "maker", "length"] (defScope sSRound) := ⟨rfl, rfl, rfl, by decide +kernel, rfl, by decide +kernel, by decide +kernel⟩
theorem ok_round {f fL : Addr} {fd fdL : FuncData} (F : Fun K "_go_round" "Sums._go_round" sSRound f fd) (NL : Fn K mg "_lesser" sLesser ["total", "other"] fL fdL) (T : TxB mg) (S : SumT K CS) : FnOk P w K mg base CX0 2 f fd ["self", "start", "maker", "length"] (spRound K CS) := by
  have GL : FnOk P w K mg base CX0 1 fL fdL ["total", "other"] spLesser := ok_lesser NL
  refine F.ok scSRound (fun vs H Q E h => ?_) (fun cdv A outer s H vs Q E hr h => ?_)
  · obtain ⟨x, la, a, L, start, m, len, rfl, _⟩ := h
    rfl
  · obtain ⟨x, la, a, L, start, m, len, rfl, hs, hst, hl, hxl, k⟩ := h
    have nd := scSRound.nd
    obtain ⟨dx, fs, hx, hf⟩ := hs.ob
    refine ⟨_, pss_cons (ps_set (i := 4) nd rfl (Or.inl rfl) (pv 1))
      (pss_cons (ps_set (i := 5) nd rfl (Or.inl rfl) (pe_ix ix_list (pe_fld (pv 0) rfl) (pv 4) (fun _ _ => rfl)))
      (pss_one (ps_for PassesOwn.never rfl (pi_range1 (by rfl) T.range (pa_cons (pe_op op_mul pe_int (pv 3)) pa_nil)) (pg_name (i := 6) nd rfl (Or.inl rfl))
        (pss_cons (ps_set (i := 4) nd rfl (Or.inl rfl) (pe_op op_mod (pe_op op_add (pv 4) (pv 2)) (pe_callB call_len (by rfl) T.len PySem.boot_len (pa_cons (pe_fld (pv 0) rfl) pa_nil))))
        (Evl.pss_cut (ps_if (pt_cmpR op_notN (pv 5) pe_non (nomark _)) (pss_one (ps_set (i := 5) nd rfl (Or.inl rfl) (pe_op op_add (pv 5) (pv 2)))) pss_nil)
        (pss_cons (ps_set (i := 5) nd rfl (Or.inl rfl) (pe_call GL hr (by rfl) NL.m NL.F.kp NL.b .nil pass0 (pa_cons (pv 5) (pa_cons (pe_ix ix_list (pe_fld (pv 0) rfl) (pv 4) (fun _ _ => rfl)) pa_nil))))
        (pss_one (ps_asg (pv 5) (pg_sub (pe_fld (pv 0) rfl) (pv 4) set_list))))))))), ?_⟩
    have ha : 0 < a := by omega
    refine ⟨_, rfl, ?_⟩
    refine ⟨_, rfl, x, CS, dx, _, _, rfl, hx, S.cl, S.nL, hf, _, rfl, la, _, _, _, rfl, rfl, SqL.of hs.ls, hs.get hst, ?_⟩
    refine ⟨_, rfl, _, _, rfl, rfl, ?_⟩
    have e2 : (2 * (len : Int)).toNat = len + len := by omega
    refine ⟨.inl ⟨by omega, by omega⟩, _, rfl, by omega, by omega, for_range (lo := 0) (n := (2 * (len : Int)).toNat) (fun i σ H' => ∃ t6 : Option V, σ = [some (.ref x), some (.int (start : Int)), some (.int (m : Int)), some (.int (len : Int)), some (.int (At a m start i : Nat)), some (oV (run a m start L i).2), t6] ∧
      (∀ b, b ≠ la → H' b = H b) ∧ H' la = some (.lst ((List.range a).map fun k => oV ((run a m start L i).1 k)))) ⟨none, ?_, fun _ _ => rfl, hs.ls⟩ ?_ ?_⟩
    · have e0 : At a m start 0 = start := by unfold At; rw [Nat.zero_mul, Nat.add_zero, Nat.mod_eq_of_lt hst]
      rw [e0]
      rfl
    · rintro i σ H' hi ⟨t6, rfl, hk, hl'⟩
      have hx' : H' x = some (.ins CS dx fs) := (hk x hxl).trans hx
      have sA : SumAt H' x la CS a (run a m start L i).1 := ⟨⟨dx, fs, hx', hf⟩, hl'⟩
      have hat : At a m start (i + 1) < a := Nat.mod_lt _ ha
      refine ⟨_, rfl, _, rfl, _, _, rfl, rfl, _, rfl, x, CS, dx, _, _, rfl, hx', S.cl, S.nL, hf, _, _, rfl, .inl ⟨_, SqL.of hl', rfl⟩, ?_⟩
      simp only [List.length_range, List.length_map]
      refine ⟨_, _, rfl, rfl, (by show (0 : Int) < (a : Int); omega), ?_⟩
      have eA : ((At a m start i : Nat) + (m : Int)) % (a : Int) = ((At a m start (i + 1) : Nat) : Int) := by
        rw [← at_next, Int.natCast_emod, Int.natCast_add]
      refine ⟨fun σ' H2 => σ' = [some (.ref x), some (.int (start : Int)), some (.int (m : Int)), some (.int (len : Int)), some (.int (At a m start (i + 1) : Nat)), some (oV (addO (run a m start L i).2 m)), some (.int (0 + (i : Int)))] ∧ H2 = H', ?_, ?_⟩
      · cases c : (run a m start L i).2 with
        | none =>
          refine ⟨_, rfl, rfl, _, rfl, ?_⟩
          refine ifF (by decide) ?_
          exact ⟨by rw [← eA]; rfl, rfl⟩
        | some u =>
          refine ⟨_, rfl, rfl, _, rfl, ?_⟩
          refine ifT (by rfl) ?_
          refine ⟨_, rfl, _, rfl, _, _, rfl, rfl, ?_⟩
          exact ⟨by rw [← eA]; rfl, rfl⟩
      · rintro _ _ ⟨rfl, rfl⟩
        refine ⟨_, rfl, _, rfl, x, CS, dx, _, _, rfl, hx', S.cl, S.nL, hf, _, rfl, la, _, _, _, rfl, rfl, SqL.of hl', sA.get hat, ?_⟩
        refine ⟨_, _, rfl, ?_⟩
        refine ⟨_, rfl, _, rfl, x, CS, dx, _, _, rfl, hx', S.cl, S.nL, hf, _, rfl, la, _, _, At a m start (i + 1), rfl, rfl, hl', ixN_nat (by rw [List.length_map, List.length_range]; exact hat), ?_⟩
        rw [map_set]
        exact ⟨_, rfl, fun b hb => (upd_ne hb).trans (hk b hb), upd_same⟩
    · rintro σ H' ⟨t6, rfl, hk, hl'⟩
      rw [e2] at hl'
      exact k H' hk hl'
end
end K02

set_option Elab.async false
set_option linter.all false
set_option maxRecDepth 100000
set_option maxHeartbeats 2100000
namespace K02
open PySem L2
/-- one maker more -/
def spWiden (CS : Addr) : Sp := fun vs H Q _ => ∃ (x la dx : Addr) (fs : List (Str × V)) (a : Nat) (L : Nat → Option Nat) (m g len : Nat), vs = [.ref x, .int (m : Int)] ∧ H x = some (.ins CS dx fs) ∧ fs.lookup ("_least" : Str) = some (.ref la) ∧ fs.lookup ("_go_round" : Str) = none ∧ SumAt H x la CS a L ∧ 0 < a ∧ a ≤ 1000000 ∧ x ≠ la ∧ g = Nat.gcd a m ∧ a = g * len ∧
  ∀ H', (∀ b, b ≠ la → H' b = H b) → H' la = some (.lst ((List.range a).map fun k => oV (widen a m len L g k))) → Q .non H'
section
variable {P : Program} {w : World} {K : PySem.W.Frag} {mg : Str → Option Value} {base : Heap} {CS : Addr}
theorem scSWiden : FnScope ["self", "maker", "rings", "start"] ["self", "maker"] (defScope sSWiden) := ⟨rfl, rfl, rfl, by decide +kernel, rfl, by decide +kernel, by decide +kernel⟩
theorem ok_widen {f fR fL : Addr} {fd fdR fdL : FuncData} (F : Fun K "_widen" "Sums._widen" sSWiden f fd) (FR : Fun K "_go_round" "Sums._go_round" sSRound fR fdR) (bR : Binds K fdR ["self", "start", "maker", "length"] []) (mR : Meth K CS "_go_round" fR)
    (NL : Fn K mg "_lesser" sLesser ["total", "other"] fL fdL) (T : TxB mg) (S : SumT K CS) (mG : mg "gcd" = some (.builtin "math.gcd")) : FnOk P w K mg base CX0 3 f fd ["self", "maker"] (spWiden CS) := by
  have GR : FnOk P w K mg base CX0 2 fR fdR ["self", "start", "maker", "length"] (spRound K CS) := ok_round FR NL T S
  refine F.ok scSWiden (fun vs H Q E h => ?_) (fun cdv A outer s H vs Q E hr h => ?_)
  · obtain ⟨x, la, dx, fs, a, L, m, g, len, rfl, _⟩ := h
    rfl
  · obtain ⟨x, la, dx, fs, a, L, m, g, len, rfl, hx, hf, hno, hs, ha, hab, hxl, hg, hal, k⟩ := h
    have nd := scSWiden.nd
    refine ⟨_, pss_cons (ps_set (i := 2) nd rfl (Or.inl rfl) (pe_callBfun cr_gcd (by rfl) mG (pa_cons (pe_callB call_len (by rfl) T.len PySem.boot_len (pa_cons (pe_fld (pv 0) rfl) pa_nil)) (pa_cons (pv 1) pa_nil))))
      (pss_one (ps_for PassesOwn.never rfl (pi_range1 (by rfl) T.range (pa_cons (pv 2) pa_nil)) (pg_name (i := 3) nd rfl (Or.inl rfl))
        (pss_one (ps_expr (pe_meth (pv 0) S.cl mR GR hr bR .nil pass0 (pa_cons (pv 3) (pa_cons (pv 1) (pa_cons (pe_op op_fdivN (pe_callB call_len (by rfl) T.len PySem.boot_len (pa_cons (pe_fld (pv 0) rfl) pa_nil)) (pv 2)) pa_nil)))))))), ?_⟩
    have gp : 0 < g := by rw [hg]; exact Nat.gcd_pos_of_pos_left _ ha
    have ga : g ≤ a := by rw [hg]; exact Nat.gcd_le_left _ ha
    have eg : (Nat.gcd ((a : Int)).natAbs ((m : Int)).natAbs) = g := by rw [hg]; rfl
    have nl : x ≠ la := hxl
    refine ⟨_, rfl, x, CS, dx, _, _, rfl, hx, S.cl, S.nL, hf, _, _, rfl, .inl ⟨_, SqL.of hs.ls, rfl⟩, _, rfl, ?_⟩
    simp only [List.length_range, List.length_map]
    refine ⟨_, _, rfl, ?_⟩
    rw [eg]
    refine ⟨_, rfl, _, rfl, by omega, by omega, for_range (lo := 0) (n := ((g : Nat) : Int).toNat) (fun i σ H' => ∃ t3 : Option V, σ = [some (.ref x), some (.int (m : Int)), some (.int (g : Int)), t3] ∧
      (∀ b, b ≠ la → H' b = H b) ∧ H' la = some (.lst ((List.range a).map fun k => oV (widen a m len L i k)))) ⟨none, rfl, fun _ _ => rfl, hs.ls⟩ ?_ ?_⟩
    · rintro i σ H' hi ⟨t3, rfl, hk, hl'⟩
      have hx' : H' x = some (.ins CS dx fs) := (hk x nl).trans hx
      have ed : ((a : Int)).fdiv (g : Int) = (len : Int) := by
        rw [Int.fdiv_eq_ediv_of_nonneg _ (by omega), hal, Int.natCast_mul, Int.mul_ediv_cancel_left _ (by omega)]
      have lena : len ≤ a := by rw [hal]; exact Nat.le_mul_of_pos_left _ gp
      refine ⟨_, rfl, x, dx, fs, rfl, hx', hno, ?_⟩
      refine ⟨_, rfl, _, rfl, _, rfl, x, CS, dx, _, _, rfl, hx', S.cl, S.nL, hf, _, _, rfl, .inl ⟨_, SqL.of hl', rfl⟩, _, rfl, _, _, rfl, rfl, ?_, ?_⟩
      · simp only [List.length_range, List.length_map]
        exact ⟨by omega, by rw [Int.natAbs_natCast]; omega⟩
      · simp only [List.length_range, List.length_map]
        refine ⟨x, la, a, widen a m len L i, i, m, len, ?_, ⟨⟨dx, fs, hx', hf⟩, hl'⟩, by omega, by omega, nl, fun H2 hk2 hl2 => ?_⟩
        · show [V.ref x, V.int (0 + (i : Int)), V.int (m : Int), V.int ((a : Int).fdiv (g : Int))] = _
          rw [Int.zero_add, ed]
        · exact ⟨_, rfl, fun b hb => (hk2 b hb).trans (hk b hb), hl2⟩
    · rintro σ H' ⟨t3, rfl, hk, hl'⟩
      exact k H' hk hl'
end
end K02

set_option Elab.async false
set_option linter.all false
namespace K02
/-! ### all numbers, one behind another -/
theorem SumsOk.congr {a : Nat} {L : Nat → Option Nat} {M M' : List Nat} (h : SumsOk a L M) (e : ∀ x, x ∈ M ↔ x ∈ M') : SumsOk a L M' :=
  ⟨h.pos, (e a).mp h.mem, fun k hk v q => ⟨(h.sound k hk v q).1, (h.sound k hk v q).2.mono fun x hx => (e x).mp hx⟩, fun n hn => h.full n (hn.mono fun x hx => (e x).mpr hx)⟩
def feed (a : Nat) (st : List Nat × (Nat → Option Nat)) (x : Nat) : List Nat × (Nat → Option Nat) :=
  if hasB a st.2 x = true then st else (st.1 ++ [x], widen a x (a / Nat.gcd a x) st.2 (Nat.gcd a x))
/-- what is kept of the numbers of xs makes the same sums; what is kept is no sum of what was kept ahead of it -/
structure FeedOk (a : Nat) (st : List Nat × (Nat → Option Nat)) (xs : List Nat) : Prop where
  ok : SumsOk a st.2 st.1
  sub : ∀ x ∈ st.1, x ∈ xs
  all : ∀ x ∈ xs, Sm st.1 x
  new : ∀ (i : Nat) (hi : i < st.1.length), 0 < i → ¬ Sm (st.1.take i) st.1[i]
theorem FeedOk.same {a : Nat} {st : List Nat × (Nat → Option Nat)} {xs : List Nat} (h : FeedOk a st xs) (n : Nat) : Sm st.1 n ↔ Sm xs n := by
  refine ⟨fun s => s.mono h.sub, fun s => ?_⟩
  induction s with
  | zero => exact .zero
  | add _ hm ih => exact ih.plus (h.all _ hm)
theorem feed_one {a : Nat} (ha : 0 < a) : FeedOk a ([a], fun k => if k = 0 then some 0 else none) [a] :=
  ⟨sums_one ha, fun x hx => hx, fun x hx => .one hx, fun i hi h0 => by
    have : i < 1 := hi
    omega⟩
theorem feed_ok {a x : Nat} {st : List Nat × (Nat → Option Nat)} {xs : List Nat} (h : FeedOk a st xs) : FeedOk a (feed a st x) (xs ++ [x]) := by
  unfold feed
  by_cases c : hasB a st.2 x = true
  · rw [if_pos c]
    refine ⟨h.ok, fun y hy => List.mem_append_left _ (h.sub y hy), fun y hy => ?_, h.new⟩
    obtain hy | hy := List.mem_append.mp hy
    · exact h.all y hy
    · rw [List.mem_singleton] at hy
      subst hy
      exact (h.ok.has y).mp c
  · rw [if_neg c]
    have gp : 0 < Nat.gcd a x := Nat.gcd_pos_of_pos_left _ h.ok.pos
    have e : a = Nat.gcd a x * (a / Nat.gcd a x) := (Nat.mul_div_cancel' (Nat.gcd_dvd_left a x)).symm
    refine ⟨(h.ok.widen rfl e).congr fun y => by rw [List.mem_append, List.mem_singleton, List.mem_cons, or_comm], fun y hy => ?_, fun y hy => ?_, fun i hi h0 => ?_⟩
    · rcases List.mem_append.mp hy with hy | hy
      · exact List.mem_append_left _ (h.sub y hy)
      · exact List.mem_append_right _ hy
    · rcases List.mem_append.mp hy with hy | hy
      · exact (h.all y hy).mono fun z hz => List.mem_append_left _ hz
      · exact .one (List.mem_append_right _ hy)
    · have hi' : i < (st.1 ++ [x]).length := hi
      rw [List.length_append, List.length_singleton] at hi'
      show ¬ Sm ((st.1 ++ [x]).take i) (st.1 ++ [x])[i]
      by_cases l : i < st.1.length
      · rw [List.take_append_of_le_length (Nat.le_of_lt l), List.getElem_append_left l]
        exact h.new i l h0
      · have ei : i = st.1.length := by omega
        subst ei
        rw [List.take_append_of_le_length (Nat.le_refl _), List.take_length, List.getElem_append_right (Nat.le_refl _)]
        simp only [Nat.sub_self, List.getElem_singleton]
        exact fun s => c ((h.ok.has x).mpr s)
theorem feed_all {a : Nat} : ∀ (ys : List Nat) {st : List Nat × (Nat → Option Nat)} {xs : List Nat}, FeedOk a st xs → FeedOk a (ys.foldl (feed a) st) (xs ++ ys)
  | [], st, xs, h => by rw [List.append_nil]; exact h
  | y :: ys, st, xs, h => by
    have := feed_all ys (feed_ok (x := y) h)
    rwa [List.append_assoc] at this
/-- the first number is taken twice, and kept once -/
theorem feed_first {a : Nat} (ha : 0 < a) : feed a ([a], fun k => if k = 0 then some 0 else none) a = ([a], fun k => if k = 0 then some 0 else none) := by
  unfold feed
  rw [if_pos ((sums_one ha).full a (.one List.mem_cons_self))]
/-! ### from where on all that the step divides is a sum -/
theorem sm_dvd {M : List Nat} {d : Nat} (h : ∀ m ∈ M, d ∣ m) {n : Nat} (s : Sm M n) : d ∣ n := by
  induction s with
  | zero => exact Nat.dvd_zero _
  | add _ hm ih => exact Nat.dvd_add ih (h _ hm)
end K02

set_option Elab.async false
set_option linter.all false
namespace K02
theorem times_two {a : Nat} (ha : 0 < a) (d m : Nat) : ∃ x y : Nat, (x * d + y * m) % a = (Nat.gcd d m) % a := by
  obtain ⟨u, v, e⟩ := bezout d m
  have h1 : 0 ≤ u % (a : Int) := Int.emod_nonneg _ (by omega)
  have h2 : 0 ≤ v % (a : Int) := Int.emod_nonneg _ (by omega)
  refine ⟨(u % (a : Int)).toNat, (v % (a : Int)).toNat, ?_⟩
  have e1 : (((u % (a : Int)).toNat : Nat) : Int) = u % (a : Int) := Int.toNat_of_nonneg h1
  have e2 : (((v % (a : Int)).toNat : Nat) : Int) = v % (a : Int) := Int.toNat_of_nonneg h2
  have : ((((u % (a : Int)).toNat * d + (v % (a : Int)).toNat * m) % a : Nat) : Int) = ((Nat.gcd d m % a : Nat) : Int) := by
    rw [Int.natCast_emod, Int.natCast_add, Int.natCast_mul, Int.natCast_mul, e1, e2, Int.natCast_emod, ← e, Int.add_emod, Int.mul_emod (u % (a : Int)), Int.emod_emod_of_dvd _ (Int.dvd_refl _), ← Int.mul_emod, Int.mul_emod (v % (a : Int)), Int.emod_emod_of_dvd _ (Int.dvd_refl _), ← Int.mul_emod, ← Int.add_emod]
  exact Int.ofNat.inj this
theorem Sm.mul {M : List Nat} {n : Nat} (h : Sm M n) : ∀ j, Sm M (j * n)
  | 0 => by rw [Nat.zero_mul]; exact .zero
  | j + 1 => by rw [Nat.succ_mul]; exact (Sm.mul h j).plus h
/-- the greatest number that divides all -/
def gcdL (M : List Nat) : Nat := M.foldl Nat.gcd 0
theorem gcdL_snoc (M : List Nat) (x : Nat) : gcdL (M ++ [x]) = Nat.gcd (gcdL M) x := by
  unfold gcdL
  rw [List.foldl_append]
  rfl
theorem foldl_dvd : ∀ (M : List Nat) (d : Nat), M.foldl Nat.gcd d ∣ d ∧ ∀ m ∈ M, M.foldl Nat.gcd d ∣ m
  | [], d => ⟨Nat.dvd_refl _, fun m h => by cases h⟩
  | x :: M, d => by
    have h := foldl_dvd M (Nat.gcd d x)
    refine ⟨Nat.dvd_trans h.1 (Nat.gcd_dvd_left _ _), fun m hm => ?_⟩
    obtain e | hm := List.mem_cons.mp hm
    · rw [e]; exact Nat.dvd_trans h.1 (Nat.gcd_dvd_right _ _)
    · exact h.2 m hm
theorem gcdL_dvd {M : List Nat} {m : Nat} (h : m ∈ M) : gcdL M ∣ m := (foldl_dvd M 0).2 m h
theorem reach {a : Nat} (ha : 0 < a) {M' : List Nat} : ∀ (M : List Nat) (d : Nat), (∃ n, Sm M' n ∧ n % a = d % a) → (∀ m ∈ M, m ∈ M') → ∃ n, Sm M' n ∧ n % a = (M.foldl Nat.gcd d) % a
  | [], d, h, _ => h
  | x :: M, d, ⟨n, hn, e⟩, hM => by
    refine reach ha M (Nat.gcd d x) ?_ fun m hm => hM m (List.mem_cons_of_mem _ hm)
    obtain ⟨u, v, q⟩ := times_two ha d x
    refine ⟨u * n + v * x, (hn.mul u).plus (.times (hM x List.mem_cons_self) v), ?_⟩
    rw [← q, Nat.add_mod, Nat.mul_mod u n, e, ← Nat.mul_mod, ← Nat.add_mod]
/-- from far on, all that the step divides is a sum -/
theorem SumsOk.far {a far : Nat} {L : Nat → Option Nat} {M : List Nat} (h : SumsOk a L M) (hf : ∀ k, k < a → ∀ v, L k = some v → v ≤ far) {n : Nat} (hn : far ≤ n) (hd : gcdL M ∣ n) : Sm M n := by
  obtain ⟨t, e⟩ := hd
  obtain ⟨r, hr, er⟩ := reach h.pos (M' := M) M 0 ⟨0, .zero, rfl⟩ fun m hm => hm
  have er2 : r % a = gcdL M % a := er
  have h1 := h.full _ (hr.mul t)
  have e2 : (t * r) % a = n % a := by rw [e, Nat.mul_mod, er2, ← Nat.mul_mod, Nat.mul_comm]
  obtain ⟨v, ev, _⟩ := hasB_iff.mp h1
  rw [e2] at ev
  refine (h.has n).mp (hasB_iff.mpr ⟨v, ev, ?_⟩)
  have := hf _ (Nat.mod_lt _ h.pos) v ev
  omega
end K02

set_option Elab.async false
set_option linter.all false
namespace K02
/-! ### what is no sum of lesser ones -/
def IsGen (M : List Nat) (n : Nat) : Prop := 0 < n ∧ Sm M n ∧ ¬ Sm (M.filter (· < n)) n
theorem Sm.bel {M : List Nat} {n : Nat} (h : Sm M n) : ∀ {k}, n < k → Sm (M.filter (· < k)) n := by
  induction h with
  | zero => intro k _; exact .zero
  | @add n m _ hm ih =>
    intro k hk
    exact .add (ih (by omega)) (List.mem_filter.mpr ⟨hm, decide_eq_true (by omega)⟩)
theorem Sm.trans {M M' : List Nat} {n : Nat} (h : Sm M n) (hs : ∀ m ∈ M, Sm M' m) : Sm M' n := by
  induction h with
  | zero => exact .zero
  | add _ hm ih => exact ih.plus (hs _ hm)
/-- a sum is nothing, or one of those and a sum -/
theorem Sm.last {M : List Nat} {n : Nat} (h : Sm M n) (h0 : 0 < n) (hp : ∀ m ∈ M, 0 < m) : ∃ m ∈ M, m ≤ n ∧ Sm M (n - m) := by
  cases h with
  | zero => omega
  | @add k m hk hm => exact ⟨m, hm, by omega, by rw [Nat.add_sub_cancel]; exact hk⟩
theorem sm_iff {M : List Nat} {n : Nat} (hp : ∀ m ∈ M, 0 < m) (h0 : 0 < n) : Sm M n ↔ ∃ m ∈ M, m ≤ n ∧ Sm M (n - m) :=
  ⟨fun h => h.last h0 hp, fun ⟨m, hm, l, h⟩ => by
    have := Sm.add h hm
    rwa [Nat.sub_add_cancel l] at this⟩
theorem gen_in {M : List Nat} (hp : ∀ m ∈ M, 0 < m) : ∀ {n : Nat}, Sm M n → 0 < n → ∃ g, IsGen M g ∧ g ≤ n ∧ Sm M (n - g) := by
  intro n
  induction n using Nat.strongRecOn with | _ n ih =>
    intro h h0
    by_cases c : Sm (M.filter (· < n)) n
    · obtain ⟨m, hm, l, k⟩ := c.last h0 (fun m hm => hp m (List.mem_filter.mp hm).1)
      have hm2 := List.mem_filter.mp hm
      have lt : m < n := of_decide_eq_true hm2.2
      obtain ⟨g, hg, gl, gs⟩ := ih m lt (.one hm2.1) (hp m hm2.1)
      refine ⟨g, hg, by omega, ?_⟩
      have := (k.mono fun x hx => (List.mem_filter.mp hx).1).plus gs
      rwa [show n - m + (m - g) = n - g by omega] at this
    · exact ⟨n, ⟨h0, h, c⟩, Nat.le_refl _, by rw [Nat.sub_self]; exact .zero⟩
theorem gen_not {M : List Nat} {n g : Nat} (hg : IsGen M g) (l : g < n) (h : Sm M (n - g)) : Sm M n ∧ ¬ IsGen M n := by
  have h0 := hg.1
  refine ⟨?_, fun z => z.2.2 ?_⟩
  · have := hg.2.1.plus h
    rwa [show g + (n - g) = n by omega] at this
  · have := (hg.2.1.bel l).plus (h.bel (k := n) (by omega))
    rwa [show g + (n - g) = n by omega] at this
/-! ### ascending lists of the same members -/
theorem asc_eq : ∀ {xs ys : List Nat}, xs.Pairwise (· < ·) → ys.Pairwise (· < ·) → (∀ x, x ∈ xs ↔ x ∈ ys) → xs = ys
  | [], [], _, _, _ => rfl
  | [], y :: ys, _, _, h => by have := (h y).mpr List.mem_cons_self; cases this
  | x :: xs, [], _, _, h => by have := (h x).mp List.mem_cons_self; cases this
  | x :: xs, y :: ys, hx, hy, h => by
    have hx' := List.pairwise_cons.mp hx
    have hy' := List.pairwise_cons.mp hy
    have e : x = y := by
      rcases List.mem_cons.mp ((h x).mp List.mem_cons_self) with e | e
      · exact e
      · rcases List.mem_cons.mp ((h y).mpr List.mem_cons_self) with e2 | e2
        · exact e2.symm
        · have := hy'.1 x e
          have := hx'.1 y e2
          omega
    subst e
    rw [asc_eq hx'.2 hy'.2 fun z => ?_]
    refine ⟨fun hz => ?_, fun hz => ?_⟩
    · rcases List.mem_cons.mp ((h z).mp (List.mem_cons_of_mem _ hz)) with e | e
      · have := hx'.1 z hz; omega
      · exact e
    · rcases List.mem_cons.mp ((h z).mpr (List.mem_cons_of_mem _ hz)) with e | e
      · have := hy'.1 z hz; omega
      · exact e
/-! ### what is kept -/
/-- kept of the numbers seen, these in ascending order -/
structure Kept (kept seen : List Nat) : Prop where
  asc : kept.Pairwise (· < ·)
  sub : ∀ x ∈ kept, x ∈ seen
  all : ∀ x ∈ seen, Sm kept x
  new : ∀ x ∈ kept, ¬ Sm (kept.filter (· < x)) x
theorem Kept.more {kept seen : List Nat} {x : Nat} (h : Kept kept seen) (hx : ∀ y ∈ seen, y ≤ x) (n : ¬ Sm kept x) : Kept (kept ++ [x]) (seen ++ [x]) := by
  have lt : ∀ y ∈ kept, y < x := fun y hy => by
    have := hx y (h.sub y hy)
    rcases Nat.lt_or_eq_of_le this with l | e
    · exact l
    · exact absurd (e ▸ Sm.one hy) n
  refine ⟨?_, fun y hy => ?_, fun y hy => ?_, fun y hy => ?_⟩
  · rw [List.pairwise_append]
    refine ⟨h.asc, List.pairwise_singleton _ _, fun a ha b hb => ?_⟩
    rw [List.mem_singleton] at hb
    rw [hb]; exact lt a ha
  · rcases List.mem_append.mp hy with hy | hy
    · exact List.mem_append_left _ (h.sub y hy)
    · exact List.mem_append_right _ hy
  · rcases List.mem_append.mp hy with hy | hy
    · exact (h.all y hy).mono fun z hz => List.mem_append_left _ hz
    · exact .one (List.mem_append_right _ hy)
  · rw [List.filter_append]
    obtain hy | hy := List.mem_append.mp hy
    · have e : [x].filter (· < y) = [] := by
        rw [List.filter_cons_of_neg (by have := lt y hy; simp; omega)]; rfl
      rw [e, List.append_nil]
      exact h.new y hy
    · rw [List.mem_singleton] at hy
      subst hy
      have e : [y].filter (· < y) = [] := by rw [List.filter_cons_of_neg (by simp)]; rfl
      have e2 : kept.filter (· < y) = kept := List.filter_eq_self.mpr fun z hz => decide_eq_true (lt z hz)
      rw [e, e2, List.append_nil]
      exact n
theorem Kept.skip {kept seen : List Nat} {x : Nat} (h : Kept kept seen) (n : Sm kept x) : Kept kept (seen ++ [x]) :=
  ⟨h.asc, fun y hy => List.mem_append_left _ (h.sub y hy), fun y hy => by
    obtain hy | hy := List.mem_append.mp hy
    · exact h.all y hy
    · rw [List.mem_singleton] at hy; rw [hy]; exact n, h.new⟩
theorem Kept.gen {kept seen : List Nat} (h : Kept kept seen) (hp : ∀ x ∈ seen, 0 < x) (x : Nat) : x ∈ kept ↔ IsGen seen x := by
  refine ⟨fun hx => ⟨hp x (h.sub x hx), .one (h.sub x hx), fun z => h.new x hx (z.trans fun y hy => ?_)⟩, fun hg => ?_⟩
  · have hy2 := List.mem_filter.mp hy
    exact (h.all y hy2.1).bel (of_decide_eq_true hy2.2)
  · refine Classical.byContradiction fun c => hg.2.2 ?_
    have s : Sm kept x := hg.2.1.trans h.all
    have : ∀ {n}, Sm kept n → n ≤ x → Sm (seen.filter (· < x)) n := by
      intro n hn
      induction hn with
      | zero => intro _; exact .zero
      | @add k m _ hm ih =>
        intro l
        refine .add (ih (by omega)) (List.mem_filter.mpr ⟨h.sub m hm, decide_eq_true ?_⟩)
        have : m ≠ x := fun e => c (e ▸ hm)
        omega
    exact this s (Nat.le_refl _)
theorem Kept.same {kept seen : List Nat} (h : Kept kept seen) (n : Nat) : Sm kept n ↔ Sm seen n := ⟨fun s => s.mono h.sub, fun s => s.trans h.all⟩
/-! ### the law's own search for makers -/
noncomputable def smB (M : List Nat) (n : Nat) : Bool := @decide (Sm M n) (Classical.propDecidable _)
theorem smB_iff {M : List Nat} {n : Nat} : smB M n = true ↔ Sm M n := @decide_eq_true_iff _ (Classical.propDecidable _)
def toldB (found : List Nat) (sums : List Bool) (n : Nat) : Bool := found.any fun m => decide (m ≤ n) && sums.getD (n - m) false
/-- behind so many numbers -/
structure Gens (M found : List Nat) (sums : List Bool) (n : Nat) : Prop where
  asc : found.Pairwise (· < ·)
  mem : ∀ x, x ∈ found ↔ IsGen M x ∧ x ≤ n
  len : sums.length = n + 1
  val : ∀ k, k ≤ n → sums.getD k false = smB M k
theorem gens_zero {M : List Nat} : Gens M [] [true] 0 := by
  refine ⟨.nil, fun x => ⟨fun h => (by cases h), fun ⟨h, l⟩ => by have := h.1; omega⟩, rfl, fun k hk => ?_⟩
  have : k = 0 := by omega
  subst this
  exact (smB_iff.mpr .zero).symm
theorem Gens.told {M found : List Nat} {sums : List Bool} {n : Nat} (h : Gens M found sums n) (hp : ∀ m ∈ M, 0 < m) : toldB found sums (n + 1) = true ↔ Sm M (n + 1) ∧ ¬ IsGen M (n + 1) := by
  unfold toldB
  rw [List.any_eq_true]
  refine ⟨fun ⟨g, hg, e⟩ => ?_, fun ⟨hs, hn⟩ => ?_⟩
  · rw [Bool.and_eq_true] at e
    obtain ⟨g1, g2⟩ := (h.mem g).mp hg
    have g0 := g1.1
    rw [h.val _ (by omega), smB_iff] at e
    exact gen_not g1 (by omega) e.2
  · obtain ⟨g, hg, gl, gs⟩ := gen_in hp hs (by omega)
    have gl2 : g ≤ n := by
      rcases Nat.lt_or_eq_of_le gl with l | e
      · omega
      · exact absurd (e ▸ hg) hn
    refine ⟨g, (h.mem g).mpr ⟨hg, gl2⟩, ?_⟩
    have g0 := hg.1
    rw [Bool.and_eq_true]
    exact ⟨decide_eq_true gl, by rw [h.val _ (by omega)]; exact smB_iff.mpr gs⟩
theorem getD_snoc {l : List Bool} {b : Bool} {k : Nat} (h : k ≤ l.length) : (l ++ [b]).getD k false = if k = l.length then b else l.getD k false := by
  by_cases e : k = l.length
  · rw [if_pos e, e]; simp [List.getD]
  · rw [if_neg e]
    simp only [List.getD]
    rw [List.getElem?_append_left (by omega)]
theorem Gens.next {M found : List Nat} {sums : List Bool} {n : Nat} (h : Gens M found sums n) (hp : ∀ m ∈ M, 0 < m) :
    Gens M (if smB M (n + 1) && !toldB found sums (n + 1) then found ++ [n + 1] else found) (sums ++ [smB M (n + 1)]) (n + 1) := by
  have key : (smB M (n + 1) && !toldB found sums (n + 1)) = true ↔ IsGen M (n + 1) := by
    rw [Bool.and_eq_true, smB_iff, Bool.not_eq_true']
    refine ⟨fun ⟨a, b⟩ => Classical.byContradiction fun c => ?_, fun g => ⟨g.2.1, ?_⟩⟩
    · rw [(h.told hp).mpr ⟨a, c⟩] at b; cases b
    · cases e : toldB found sums (n + 1) with
      | false => rfl
      | true => exact absurd g ((h.told hp).mp e).2
  have sums_ok : ∀ k, k ≤ n + 1 → (sums ++ [smB M (n + 1)]).getD k false = smB M k := fun k hk => by
    rw [getD_snoc (by rw [h.len]; exact hk), h.len]
    by_cases e : k = n + 1
    · rw [if_pos e, e]
    · rw [if_neg e]; exact h.val k (by omega)
  by_cases c : (smB M (n + 1) && !toldB found sums (n + 1)) = true
  · rw [if_pos c]
    refine ⟨?_, fun x => ⟨fun hx => ?_, fun ⟨hx, l⟩ => ?_⟩, by rw [List.length_append, h.len]; rfl, sums_ok⟩
    · rw [List.pairwise_append]
      refine ⟨h.asc, List.pairwise_singleton _ _, fun a ha b hb => ?_⟩
      rw [List.mem_singleton] at hb
      have := ((h.mem a).mp ha).2
      omega
    · obtain hx | hx := List.mem_append.mp hx
      · have := (h.mem x).mp hx; exact ⟨this.1, by omega⟩
      · rw [List.mem_singleton] at hx; rw [hx]; exact ⟨key.mp c, Nat.le_refl _⟩
    · by_cases e : x = n + 1
      · rw [e]; exact List.mem_append_right _ List.mem_cons_self
      · exact List.mem_append_left _ ((h.mem x).mpr ⟨hx, by omega⟩)
  · rw [if_neg c]
    refine ⟨h.asc, fun x => ⟨fun hx => ?_, fun ⟨hx, l⟩ => ?_⟩, by rw [List.length_append, h.len]; rfl, sums_ok⟩
    · have := (h.mem x).mp hx; exact ⟨this.1, by omega⟩
    · refine (h.mem x).mpr ⟨hx, ?_⟩
      by_cases e : x = n + 1
      · exact absurd (key.mpr (e ▸ hx)) c
      · omega
/-- both find the same -/
theorem Gens.kept {M found kept : List Nat} {sums : List Bool} {n : Nat} (h : Gens M found sums n) (k : Kept kept M) (hp : ∀ x ∈ M, 0 < x) (hl : ∀ x ∈ M, x ≤ n) : found = kept :=
  asc_eq h.asc k.asc fun x => by
    rw [h.mem, k.gen hp]
    exact ⟨fun z => z.1, fun z => ⟨z, hl x (k.sub x ((k.gen hp x).mpr z))⟩⟩
theorem IsGen.congr {M M' : List Nat} (hp : ∀ x ∈ M, 0 < x) (hp' : ∀ x ∈ M', 0 < x) (h : ∀ n, Sm M n ↔ Sm M' n) (n : Nat) : IsGen M n → IsGen M' n := fun g => by
  refine ⟨g.1, (h n).mp g.2.1, fun z => g.2.2 (z.trans fun m hm => ?_)⟩
  have hm2 := List.mem_filter.mp hm
  exact ((h m).mpr (.one hm2.1)).bel (of_decide_eq_true hm2.2)
/-! ### of so many numbers below a limit two are one -/
theorem pigeon : ∀ (a : Nat) (f : Nat → Nat), (∀ i, i ≤ a → f i < a) → ∃ i j, i < j ∧ j ≤ a ∧ f i = f j
  | 0, f, h => by have := h 0 (Nat.le_refl _); omega
  | a + 1, f, h => by
    by_cases c : ∃ i, i ≤ a ∧ f i = f (a + 1)
    · obtain ⟨i, hi, e⟩ := c
      exact ⟨i, a + 1, by omega, Nat.le_refl _, e⟩
    · have ne : ∀ i, i ≤ a → f i ≠ f (a + 1) := fun i hi e => c ⟨i, hi, e⟩
      obtain ⟨i, j, hij, hj, e⟩ := pigeon a (fun i => if f i < f (a + 1) then f i else f i - 1) fun i hi => by
        have h1 := h i (by omega)
        have h2 := h (a + 1) (Nat.le_refl _)
        have h3 := ne i hi
        show (if f i < f (a + 1) then f i else f i - 1) < a
        split <;> omega
      refine ⟨i, j, hij, by omega, ?_⟩
      have h1 := ne i (by omega)
      have h2 := ne j hj
      have e' : (if f i < f (a + 1) then f i else f i - 1) = (if f j < f (a + 1) then f j else f j - 1) := e
      split at e' <;> split at e' <;> omega
theorem Sm.list {M : List Nat} {v : Nat} (h : Sm M v) : ∃ xs : List Nat, (∀ x ∈ xs, x ∈ M) ∧ xs.sum = v := by
  induction h with
  | zero => exact ⟨[], fun x hx => (by cases hx), rfl⟩
  | @add n m _ hm ih =>
    obtain ⟨xs, h1, h2⟩ := ih
    refine ⟨m :: xs, fun x hx => ?_, by rw [List.sum_cons, h2, Nat.add_comm]⟩
    obtain e | hx := List.mem_cons.mp hx
    · rw [e]; exact hm
    · exact h1 x hx
theorem Sm.of_list {M : List Nat} : ∀ {xs : List Nat}, (∀ x ∈ xs, x ∈ M) → Sm M xs.sum
  | [], _ => .zero
  | x :: xs, h => by
    rw [List.sum_cons, Nat.add_comm]
    exact .add (Sm.of_list fun y hy => h y (List.mem_cons_of_mem _ hy)) (h x List.mem_cons_self)
theorem sum_le {B : Nat} : ∀ {xs : List Nat}, (∀ x ∈ xs, x ≤ B) → xs.sum ≤ xs.length * B
  | [], _ => Nat.zero_le _
  | x :: xs, h => by
    have h1 := sum_le fun y hy => h y (List.mem_cons_of_mem _ hy)
    have h2 := h x List.mem_cons_self
    rw [List.sum_cons, List.length_cons, Nat.succ_mul]
    omega
theorem sum_pos {xs : List Nat} (h : ∀ x ∈ xs, 0 < x) (h0 : 0 < xs.length) : 0 < xs.sum := by
  cases xs with
  | nil => cases h0
  | cons x xs =>
    have := h x List.mem_cons_self
    rw [List.sum_cons]; omega
/-- the least sums stay below a limit -/
theorem SumsOk.small {a B : Nat} {L : Nat → Option Nat} {M : List Nat} (h : SumsOk a L M) (hp : ∀ m ∈ M, 0 < m) (hB : ∀ m ∈ M, m ≤ B) {k v : Nat} (hk : k < a) (e : L k = some v) : v ≤ (a - 1) * B := by
  obtain ⟨h1, h2⟩ := h.sound k hk v e
  obtain ⟨xs, hx, hs⟩ := h2.list
  have short : xs.length < a := by
    refine Nat.lt_of_not_le fun c => ?_
    obtain ⟨i, j, hij, hj, q⟩ := pigeon a (fun i => (xs.take i).sum % a) fun i _ => Nat.mod_lt _ h.pos
    have q' : (xs.take i).sum % a = (xs.take j).sum % a := q
    have cut : xs = xs.take j ++ xs.drop j := (List.take_append_drop j xs).symm
    have cut2 : xs.take j = xs.take i ++ (xs.take j).drop i := by
      have : xs.take i = (xs.take j).take i := by rw [List.take_take, Nat.min_eq_left (by omega)]
      rw [this]; exact (List.take_append_drop i _).symm
    have s1 : xs.sum = (xs.take j).sum + (xs.drop j).sum := by
      have := congrArg List.sum cut
      rw [List.sum_append] at this
      exact this
    have s2 : (xs.take j).sum = (xs.take i).sum + ((xs.take j).drop i).sum := by
      have := congrArg List.sum cut2
      rw [List.sum_append] at this
      exact this
    have pos : 0 < ((xs.take j).drop i).sum := by
      refine sum_pos (fun x hx' => hp x (hx x (List.mem_of_mem_take (List.mem_of_mem_drop hx')))) ?_
      rw [List.length_drop, List.length_take]; omega
    have less : Sm M ((xs.take i).sum + (xs.drop j).sum) := by
      have := Sm.of_list (M := M) (xs := xs.take i ++ xs.drop j) fun x hx' => by
        obtain hx' | hx' := List.mem_append.mp hx'
        · exact hx x (List.mem_of_mem_take hx')
        · exact hx x (List.mem_of_mem_drop hx')
      rwa [List.sum_append] at this
    have em : ((xs.take i).sum + (xs.drop j).sum) % a = k := by
      rw [← h1, ← hs, s1, Nat.add_mod, q', ← Nat.add_mod]
    obtain ⟨u, e2, l2⟩ := hasB_iff.mp (h.full _ less)
    rw [em, e] at e2
    cases e2
    omega
  have := sum_le (B := B) fun x hx' => hB x (hx x hx')
  rw [← hs]
  exact Nat.le_trans this (Nat.mul_le_mul_right _ (by omega))
end K02

set_option Elab.async false
set_option linter.all false
set_option maxRecDepth 100000
set_option maxHeartbeats 2000000
namespace K02
open PySem L2
theorem tyx_same {K : PySem.W.Frag} {H H' : Hp} {v : V} {t : Value} (s : Same H H') (h : TyX K H v t) : TyX K H' v t := by
  cases h with
  | base b =>
    cases b with
    | non => exact .base .non
    | bl x => exact .base (.bl x)
    | int i => exact .base (.int i)
    | str x => exact .base (.str x)
    | flt x => exact .base (.flt x)
    | lst e => exact .base (.lst (s _ _ e))
    | frz e => exact .base (.frz (s _ _ e))
    | tup e => exact .base (.tup (s _ _ e))
    | dK e => exact .base (.dK (s _ _ e))
    | dT e => exact .base (.dT (s _ _ e))
    | ins e cl ha hn htk hm => exact .base (.ins (s _ _ e) cl ha hn htk hm)
  | byt b => exact .byt b
  | set e => exact .set (s _ _ e)
  | kList e c => exact .kList e c
  | kTuple e c => exact .kTuple e c
  | kDict e c => exact .kDict e c
  | fTuple e => exact .fTuple (s _ _ e)
  | fDict e => exact .fDict (s _ _ e)
theorem same_refl (H : Hp) : Same H H := fun _ _ e => e
theorem same_trans {H H' H'' : Hp} (a : Same H H') (b : Same H' H'') : Same H H'' := fun c o e => b c o (a c o e)
theorem same_new {H H' : Hp} {p : Addr} {o : HO} (s : Same H H') (hp : H' p = none) : Same H (upd H' p o) := fun b u e => by rw [upd_ne (ne_of_none (s b u e) hp)]; exact s b u e
theorem same_none {H H' : Hp} {p : Addr} (s : Same H H') (hp : H' p = none) : H p = none := by
  cases e : H p with
  | none => rfl
  | some o => have := s p o e; rw [hp] at this; cases this

/-- what is none of a built-in class -/
def Nt (K : PySem.W.Frag) (H : Hp) (v : V) (T : String) : Prop := ∃ tv, TyX K H v tv ∧ PySem.W.kitOne K tv (.type T) = some false
theorem Nt.same {K : PySem.W.Frag} {H H' : Hp} {v : V} {T : String} (h : Nt K H v T) (s : Same H H') : Nt K H' v T := by
  obtain ⟨tv, a, b⟩ := h
  exact ⟨tv, tyx_same s a, b⟩
/-- a word: a text, or none -/
def WdAt (K : PySem.W.Frag) (H : Hp) : Option Str → V → Prop
  | some z, v => v = .str z
  | none, v => Nt K H v "str"
theorem WdAt.same {K : PySem.W.Frag} {H H' : Hp} {o : Option Str} {v : V} (h : WdAt K H o v) (s : Same H H') : WdAt K H' o v := by
  cases o with
  | some z => exact h
  | none => exact Nt.same h s
/-- an item of the makers: an integer, or none -/
def ItAt (K : PySem.W.Frag) (H : Hp) : Option Int → V → Prop
  | some i, v => v = .int i
  | none, v => ∃ tv b, TyX K H v tv ∧ PySem.W.kitOne K tv (.type "int") = some b ∧ (b = true → PySem.W.kitOne K tv (.type "bool") = some true)
theorem ItAt.same {K : PySem.W.Frag} {H H' : Hp} {o : Option Int} {v : V} (h : ItAt K H o v) (s : Same H H') : ItAt K H' o v := by
  cases o with
  | some z => exact h
  | none =>
    obtain ⟨tv, b, a, c⟩ := h
    exact ⟨tv, b, tyx_same s a, c⟩
theorem ItAt.ty {K : PySem.W.Frag} {H : Hp} {o : Option Int} {v : V} (h : ItAt K H o v) : ∃ tv b, TyX K H v tv ∧ PySem.W.kitOne K tv (.type "int") = some b ∧ (b = true → PySem.W.kitOne K tv (.type "bool") = some (!o.isSome)) ∧ (o.isSome = true → b = true) := by
  cases o with
  | some i =>
    have e : v = .int i := h
    subst e
    exact ⟨_, true, .base (.int i), kit_ty (r := true) (by decide +kernel), fun _ => kit_ty (r := false) (by decide +kernel), fun _ => rfl⟩
  | none =>
    obtain ⟨tv, b, a, c, d⟩ := h
    exact ⟨tv, b, a, c, d, fun z => nomatch z⟩
/-- the makers: a tuple, or none -/
def MkAt (K : PySem.W.Frag) (H : Hp) : Option (List (Option Int)) → V → Prop
  | some os, v => ∃ a ys, v = .ref a ∧ SqT K H a ys ∧ ys.length = os.length ∧ os.length ≤ 100 ∧ ∀ (i : Nat) o y, os[i]? = some o → ys[i]? = some y → ItAt K H o y
  | none, v => Nt K H v "tuple"
theorem sqt_same {K : PySem.W.Frag} {H H' : Hp} {a : Addr} {xs : List V} (h : SqT K H a xs) (e : Same H H') : SqT K H' a xs := h.ext e
theorem MkAt.same {K : PySem.W.Frag} {H H' : Hp} {o : Option (List (Option Int))} {v : V} (h : MkAt K H o v) (s : Same H H') : MkAt K H' o v := by
  cases o with
  | some z =>
    obtain ⟨a, ys, e, t, l, l2, k⟩ := h
    exact ⟨a, ys, e, sqt_same t s, l, l2, fun i o y h1 h2 => (k i o y h1 h2).same s⟩
  | none => exact Nt.same h s
theorem mk_ty {K : PySem.W.Frag} {H : Hp} {o : Option (List (Option Int))} {v : V} (h : MkAt K H o v) (ht : ∀ a ys, v = .ref a → SqT K H a ys → TyX K H v (.type "tuple")) : ∃ tv, TyX K H v tv ∧ PySem.W.kitOne K tv (.type "tuple") = some o.isSome := by
  cases o with
  | some os =>
    obtain ⟨a, ys, e, t, _⟩ := h
    exact ⟨_, ht a ys e t, kit_ty (r := true) (by decide +kernel)⟩
  | none => exact h
def words : List Str := ["once", "loan", "free", "more"]
def itOk (o : Option Int) : Bool := match o with
  | some i => decide (1 ≤ i) && decide (i ≤ 12)
  | none => false
def mkOk (z : Str) (o : Option (List (Option Int))) : Bool := match o with
  | some os => if z = "more" then decide (1 ≤ os.length) && decide (os.length ≤ 4) && os.all itOk else decide (os.length = 0)
  | none => false
/-- the first part that is not as told -/
def duePart (wd : Option Str) (mk : Option (List (Option Int))) : Option Str := match wd with
  | some z => if words.contains z = true then (if mkOk z mk = true then none else some "makers") else some "word"
  | none => some "word"
end K02

set_option Elab.async false
set_option linter.all false
set_option maxRecDepth 100000
set_option maxHeartbeats 2000000
namespace K02
open PySem L2
abbrev sSInit : Stmt := inClass (top 9) 0
theorem sqt_ty {K : PySem.W.Frag} {H : Hp} {a : Addr} {ys : List V} (h : SqT K H a ys) : TyX K H (.ref a) (.type "tuple") := by
  rcases h with h | ⟨o, its, n, hk, hc, _⟩
  · rcases h with h | ⟨o, h⟩
    · exact .base (.tup h)
    · exact .fTuple h
  · exact .kTuple hk hc
theorem MkAt.ty {K : PySem.W.Frag} {H : Hp} {o : Option (List (Option Int))} {v : V} (h : MkAt K H o v) : ∃ tv, TyX K H v tv ∧ PySem.W.kitOne K tv (.type "tuple") = some o.isSome :=
  mk_ty h fun a ys e t => e ▸ sqt_ty t
def nI (m : Nat) : V := .int (m : Int)
/-- the attributes of a Sums object on the way, and whole -/
def SF (la : Addr) (g : Nat) : List (Str × V) := [(("_least" : Str), .ref la), (("step" : Str), nI g)]
def SFull (la tk : Addr) (g far : Nat) : List (Str × V) := [(("_least" : Str), .ref la), (("step" : Str), nI g), (("makers" : Str), .ref tk), (("far" : Str), nI far)]
theorem sf_1 {la : Addr} {g : Nat} : putF "step" (nI g) (putF "_least" (.ref la) []) = SF la g := by
  have h1 : ¬ (("_least" : Str) = "step") := by decide +kernel
  simp only [putF, if_neg h1, SF]
theorem sf_2 {la : Addr} {g g' : Nat} : putF "step" (nI g') (SF la g) = SF la g' := by
  have h1 : ¬ (("_least" : Str) = "step") := by decide +kernel
  simp only [putF, SF, if_neg h1, if_true]
theorem sf_3 {la tk : Addr} {g far : Nat} : putF "far" (nI far) (putF "makers" (.ref tk) (SF la g)) = SFull la tk g far := by
  have h1 : ¬ (("_least" : Str) = "makers") := by decide +kernel
  have h2 : ¬ (("step" : Str) = "makers") := by decide +kernel
  have h3 : ¬ (("_least" : Str) = "far") := by decide +kernel
  have h4 : ¬ (("step" : Str) = "far") := by decide +kernel
  have h5 : ¬ (("makers" : Str) = "far") := by decide +kernel
  simp only [putF, SF, SFull, if_neg h1, if_neg h2, if_neg h3, if_neg h4, if_neg h5]
theorem sf_least {la : Addr} {g : Nat} : (SF la g).lookup ("_least" : Str) = some (.ref la) := rfl
theorem sf_step {la : Addr} {g : Nat} : (SF la g).lookup ("step" : Str) = some (nI g) := rfl
theorem sf_has {la : Addr} {g : Nat} : (SF la g).lookup ("has" : Str) = none := rfl
theorem sf_widen {la : Addr} {g : Nat} : (SF la g).lookup ("_widen" : Str) = none := rfl
theorem sf_round {la : Addr} {g : Nat} : (SF la g).lookup ("_go_round" : Str) = none := rfl
/-- a Sums object that is whole -/
structure SumOb (CS : Addr) (H : Hp) (s tk : Addr) (M : List Nat) (la : Addr) (a : Nat) (L : Nat → Option Nat) (kept : List Nat) (far : Nat) : Prop where
  ob : ∃ dx, H s = some (.ins CS dx (SFull la tk (gcdL kept) far))
  ls : H la = some (.lst ((List.range a).map fun k => oV (L k)))
  mkr : H tk = some (.tup (kept.map nI))
  ok : SumsOk a L kept
  kp : Kept kept M
  ab : a ≤ 1000000
  fr : ∀ k, k < a → ∀ v, L k = some v → v ≤ far
  fe : ∃ k, k < a ∧ L k = some far
theorem SumOb.same {CS : Addr} {H H' : Hp} {s tk : Addr} {M : List Nat} {la : Addr} {a : Nat} {L : Nat → Option Nat} {kept : List Nat} {far : Nat} (h : SumOb CS H s tk M la a L kept far) (e : Same H H') : SumOb CS H' s tk M la a L kept far := by
  obtain ⟨dx, h1⟩ := h.ob
  exact ⟨⟨dx, e _ _ h1⟩, e _ _ h.ls, e _ _ h.mkr, h.ok, h.kp, h.ab, h.fr, h.fe⟩
theorem Kept.congr {kept M M' : List Nat} (h : Kept kept M) (e : ∀ x, x ∈ M ↔ x ∈ M') : Kept kept M' :=
  ⟨h.asc, fun x hx => (e x).mp (h.sub x hx), fun x hx => h.all x ((e x).mpr hx), h.new⟩
def L0 : Nat → Option Nat := fun k => if k = 0 then some 0 else none
theorem l0_map {a : Nat} (h : 0 < a) : (List.range a).map (fun k => oV (L0 k)) = .int 0 :: List.replicate (a - 1) .non := by
  apply List.ext_getElem?; intro j
  cases j with
  | zero => rw [List.getElem?_map, List.getElem?_range h]; rfl
  | succ j =>
    rw [List.getElem?_map, List.getElem?_cons_succ, List.getElem?_replicate]
    by_cases c : j + 1 < a
    · rw [List.getElem?_range c, if_pos (by omega)]
      rfl
    · rw [List.getElem?_eq_none (by rw [List.length_range]; omega), if_neg (by omega)]
      rfl
/-- so far in the walk over the ascending numbers -/
structure Walk (a : Nat) (st : List Nat × (Nat → Option Nat)) (seen : List Nat) : Prop where
  f : FeedOk a st seen
  k : Kept st.1 seen
theorem walk_one {a : Nat} (ha : 0 < a) : Walk a ([a], L0) [a] := by
  refine ⟨feed_one ha, List.pairwise_singleton _ _, fun x hx => hx, fun x hx => .one hx, fun x hx z => ?_⟩
  rw [List.mem_singleton] at hx
  subst hx
  have e : [x].filter (· < x) = [] := by rw [List.filter_cons_of_neg (by simp)]; rfl
  rw [e] at z
  have : 0 < x := ha
  cases z with
  | zero => omega
  | add _ hm => cases hm
theorem Walk.next {a x : Nat} {st : List Nat × (Nat → Option Nat)} {seen : List Nat} (h : Walk a st seen) (hx : ∀ y ∈ seen, y ≤ x) : Walk a (feed a st x) (seen ++ [x]) := by
  refine ⟨feed_ok h.f, ?_⟩
  unfold feed
  by_cases c : hasB a st.2 x = true
  · rw [if_pos c]; exact h.k.skip ((h.f.ok.has x).mp c)
  · rw [if_neg c]; exact h.k.more hx fun z => c ((h.f.ok.has x).mpr z)
/-- the number of this turn -/
theorem walk_turn {asc : List Nat} {a i n : Nat} {st : List Nat × (Nat → Option Nat)} (ha : asc[0]? = some a) (hs : asc.Pairwise (· ≤ ·)) (hi : asc[i]? = some n) (h : Walk a st (a :: asc.take i)) : Walk a (feed a st n) (a :: asc.take (i + 1)) := by
  have hi2 : i < asc.length := (List.getElem?_eq_some_iff.mp hi).1
  have en : asc[i] = n := (List.getElem?_eq_some_iff.mp hi).2
  have h0 : 0 < asc.length := by omega
  have e0 : asc[0] = a := (List.getElem?_eq_some_iff.mp ha).2
  have le : ∀ j (hj : j < asc.length), j ≤ i → asc[j] ≤ n := fun j hj l => by
    rcases Nat.lt_or_eq_of_le l with l | l
    · have := List.pairwise_iff_getElem.mp hs j i hj hi2 l
      rw [en] at this; exact this
    · subst l; rw [en]; exact Nat.le_refl _
  rw [List.take_add_one, hi]
  show Walk a _ ((a :: asc.take i) ++ [n])
  refine h.next fun y hy => ?_
  obtain e | hy := List.mem_cons.mp hy
  · rw [e, ← e0]; exact le 0 h0 (Nat.zero_le _)
  · obtain ⟨j, hj, e⟩ := List.mem_iff_getElem.mp hy
    rw [List.length_take] at hj
    rw [List.getElem_take] at e
    rw [← e]
    exact le j (by omega) (by omega)
theorem feed_gcd {a n : Nat} {st : List Nat × (Nat → Option Nat)} : gcdL (feed a st n).1 = if hasB a st.2 n = true then gcdL st.1 else Nat.gcd (gcdL st.1) n := by
  unfold feed
  by_cases c : hasB a st.2 n = true
  · rw [if_pos c, if_pos c]
  · rw [if_neg c, if_neg c, gcdL_snoc]
/-- the least sums that are there, up to the k-th -/
def leasts (L : Nat → Option Nat) (k : Nat) : List Nat := (List.range k).filterMap L
theorem leasts_succ {L : Nat → Option Nat} {k : Nat} : leasts L (k + 1) = leasts L k ++ (L k).toList := by
  unfold leasts
  rw [List.range_succ, List.filterMap_append]
  cases h : L k <;> simp [h]
theorem mem_leasts {L : Nat → Option Nat} {k v : Nat} : v ∈ leasts L k ↔ ∃ j, j < k ∧ L j = some v := by
  unfold leasts
  rw [List.mem_filterMap]
  simp
theorem len_leasts {L : Nat → Option Nat} {k : Nat} : (leasts L k).length ≤ k := by
  unfold leasts
  have := List.length_filterMap_le L (List.range k)
  rwa [List.length_range] at this
def spSInit (K : PySem.W.Frag) (CS : Addr) : Sp := fun vs H Q _ => ∃ (x t dx : Addr) (ms : List Nat), vs = [.ref x, .ref t] ∧ H x = some (.ins CS dx []) ∧ (SqT K H t (ms.map nI) ∨ SqL K H t (ms.map nI)) ∧ 0 < ms.length ∧ ms.length ≤ 1000000 ∧ (∀ m ∈ ms, 1 ≤ m ∧ m ≤ 1000000) ∧
  ∀ H' tk la a L kept far, (∀ b o, b ≠ x → H b = some o → H' b = some o) → SumOb CS H' x tk ms la a L kept far → Q .non H'
end K02

set_option Elab.async false
set_option linter.all false
set_option maxRecDepth 100000
set_option maxHeartbeats 2000000
namespace L2
open PySem PySem.Spec PyProof.Rows
/-- sorted(t), t a tuple of ints -/
def rSortTI (K : PySem.W.Frag) : List V → Hp → VK → Prop := fun vs H Q => ∃ (tp : Addr) (zs : List Int), vs = [.ref tp] ∧ SqT K H tp (zs.map V.int) ∧ ∀ (up : List Int) (p : Addr), up.Perm zs → up.Pairwise (· ≤ ·) → H p = none → Q (.ref p) (upd H p (.lst (up.map V.int)))
theorem cr_sortTI {X : Cx} : CallR X (.builtin "sorted") (rSortTI X.K) := by
  rintro pins s σ H _ us Q I r ⟨tp, zs, rfl, at_, q⟩
  obtain ⟨its, rv, ⟨o, here, isT, n, dat⟩, small⟩ := I.tuple at_
  cases Vals.ref1 r
  have few : its.length ≤ sizeLine := rv.length ▸ small
  have isI := rv.ints
  refine GQ.sortedTup SrtO.swo_int here isT dat few (fun two h₁ _ _ _ => SrtO.ints_sortable isI two) fun out o1 o2 => ?_
  obtain ⟨e1, perm, asc⟩ := SrtO.ints_out isI o1 o2
  obtain ⟨ep, there⟩ := PyProof.Rows.sortedAll_at (s.heap) its (out.toArray)
  have len : ((out.map SrtO.iv).map V.int).length ≤ sizeLine := by
    simp only [List.length_map, perm.length_eq] at small ⊢; exact small
  have J := I.laid (t' := s.toks) (o := .lst ((out.map SrtO.iv).map V.int)) (fun _ _ => PyProof.Rows.sortedAll_old) (Nat.le_succ _) ⟨len, out, ep, vals_of_ints e1, there⟩
  exact ⟨.ref (s.heap.objs.size + 1), _, J, rfl, q _ _ perm asc (I.hok.fresh (Nat.le_succ _))⟩
/-- sorted(t), t a tuple or a list of ints -/
def rSortTL (K : PySem.W.Frag) : List V → Hp → VK → Prop := fun vs H Q => ∃ (tp : Addr) (zs : List Int), vs = [.ref tp] ∧ (SqT K H tp (zs.map V.int) ∨ SqL K H tp (zs.map V.int)) ∧ ∀ (up : List Int) (p : Addr), up.Perm zs → up.Pairwise (· ≤ ·) → H p = none → Q (.ref p) (upd H p (.lst (up.map V.int)))
theorem cr_sortTL {X : Cx} : CallR X (.builtin "sorted") (rSortTL X.K) := by
  rintro pins s σ H vs us Q I r ⟨tp, zs, e, at_, q⟩
  rcases at_ with at_ | at_
  · exact cr_sortTI pins s σ H vs us Q I r ⟨tp, zs, e, at_, q⟩
  · exact cr_sortedI pins s σ H vs us Q I r ⟨tp, zs, e, at_, q⟩
/-- so long a list has room -/
theorem room2 {n : Nat} (h : n ≤ 3000000) : n < sizeLine := Nat.lt_of_le_of_lt h (by decide)
end L2
namespace K02
open PySem L2
/-- ascending naturals of the ascending ints -/
theorem nats_of {ms : List Nat} {ns : List Int} (h : ns.Perm (ms.map fun m : Nat => (m : Int))) (hs : ns.Pairwise (· ≤ ·)) : ∃ asc : List Nat, ns = asc.map (fun m : Nat => (m : Int)) ∧ asc.Perm ms ∧ asc.Pairwise (· ≤ ·) := by
  have all : ∀ n ∈ ns, 0 ≤ n := fun n hn => by
    obtain ⟨m, _, e⟩ := List.mem_map.mp (h.mem_iff.mp hn)
    rw [← e]; exact Int.natCast_nonneg m
  have e : ns = (ns.map Int.toNat).map (fun m : Nat => (m : Int)) := by
    rw [List.map_map]
    have : ∀ l : List Int, (∀ n ∈ l, 0 ≤ n) → l = l.map ((fun m : Nat => (m : Int)) ∘ Int.toNat) := fun l => by
      induction l with
      | nil => intro _; rfl
      | cons a l ih =>
        intro hl
        rw [List.map_cons, ← ih fun n hn => hl n (List.mem_cons_of_mem _ hn)]
        show a :: l = ((a.toNat : Nat) : Int) :: l
        rw [Int.toNat_of_nonneg (hl a List.mem_cons_self)]
    exact this ns all
  refine ⟨ns.map Int.toNat, e, ?_, ?_⟩
  · have := h.map Int.toNat
    rw [List.map_map] at this
    have e2 : (ms.map (Int.toNat ∘ fun m : Nat => (m : Int))) = ms := by
      have : (Int.toNat ∘ fun m : Nat => (m : Int)) = id := by funext m; simp
      rw [this, List.map_id]
    rwa [e2] at this
  · rw [List.pairwise_map]
    exact hs.imp fun {a b} h => Int.toNat_le_toNat h
section
variable {P : Program} {w : World} {K : PySem.W.Frag} {mg : Str → Option Value} {base : Heap} {CS : Addr}
/-- further names of the text -/
structure TxD (mg : Str → Option Value) : Prop where
  tuple : mg "tuple" = none
  list : mg "list" = none
  dict : mg "dict" = none
  bool : mg "bool" = none
  str : mg "str" = none
  sorted : mg "sorted" = none
  max : mg "max" = none
  any : mg "any" = none
  gcd : mg "gcd" = some (.builtin "math.gcd")
theorem scSInit : FnScope ["self", "numbers", "ascending", "kept", "number", "least"] ["self", "numbers"] (defScope sSInit) := ⟨rfl, rfl, rfl, by decide +kernel, rfl, by decide +kernel, by decide +kernel⟩
theorem ok_sinit {f fH fW fR fL : Addr} {fd fdH fdW fdR fdL : FuncData} (F : Fun K "__init__" "Sums.__init__" sSInit f fd) (FH : Fun K "has" "Sums.has" sSHas fH fdH) (bH : Binds K fdH ["self", "number"] []) (mH : Meth K CS "has" fH)
    (FW : Fun K "_widen" "Sums._widen" sSWiden fW fdW) (bW : Binds K fdW ["self", "maker"] []) (mW : Meth K CS "_widen" fW) (FR : Fun K "_go_round" "Sums._go_round" sSRound fR fdR) (bR : Binds K fdR ["self", "start", "maker", "length"] []) (mR : Meth K CS "_go_round" fR)
    (NL : Fn K mg "_lesser" sLesser ["total", "other"] fL fdL) (T : TxB mg) (T2 : TxD mg) (S : SumT K CS) : FnOk P w K mg base CX0 4 f fd ["self", "numbers"] (spSInit K CS) := by
  have GH : FnOk P w K mg base CX0 1 fH fdH ["self", "number"] (spSHas CS) := ok_shas FH T S
  have GW : FnOk P w K mg base CX0 3 fW fdW ["self", "maker"] (spWiden CS) := ok_widen FW FR bR mR NL T S T2.gcd
  refine F.ok scSInit (fun vs H Q E h => ?_) (fun cdv A outer s H vs Q E hr h => ?_)
  · obtain ⟨x, t, dx, ms, rfl, _⟩ := h
    rfl
  · obtain ⟨x, t, dx, ms, rfl, hx, ht, h0, h60, hms, k⟩ := h
    have nd := scSInit.nd
    have hu := hu_of hr
    have hr1 := hr.mono (show 1 ≤ 3 by decide)
    refine ⟨_, pss_cons (ps_set (i := 2) nd rfl (Or.inl rfl) (pe_callB cr_sortTL (by rfl) T2.sorted (by decide +kernel) (pa_cons (pv 1) pa_nil)))
      (pss_cons (ps_fld (pv 0) (pe_op op_cat (pe_lst (pa_cons pe_int pa_nil)) (pe_op op_rep (pe_lst (pa_cons pe_non pa_nil)) (pe_op op_sub (pe_ix ix_list (pv 2) pe_int (fun _ _ => rfl)) pe_int))) rfl)
      (pss_cons (ps_fld (pv 0) (pe_ix ix_list (pv 2) pe_int (fun _ _ => rfl)) rfl)
      (pss_cons (ps_set (i := 3) nd rfl (Or.inl rfl) (pe_lst (pa_cons (pe_ix ix_list (pv 2) pe_int (fun _ _ => rfl)) pa_nil)))
      (pss_cons (ps_for PassesOwn.never rfl (pi_list (pv 2)) (pg_name (i := 4) nd rfl (Or.inl rfl))
        (pss_one (ps_if (pt_not (pt_val (pe_meth (pv 0) S.cl mH GH hr1 bH .nil pass0 (pa_cons (pv 4) pa_nil))))
          (pss_cons (ps_expr (pe_bm PySem.F.plainAttrs_list PySem.F.slot_list_append PySem.F.type_list_append mt_append (pv 3) (pa_cons (pv 4) pa_nil)))
          (pss_cons (ps_fld (pv 0) (pe_callBfun cr_gcd (by rfl) T2.gcd (pa_cons (pe_fld (pv 0) rfl) (pa_cons (pv 4) pa_nil))) rfl)
          (pss_one (ps_expr (pe_meth (pv 0) S.cl mW GW hr bW .nil pass0 (pa_cons (pv 4) pa_nil)))))) pss_nil)))
      (pss_cons (ps_fld (pv 0) (pe_callTy call_tuple_of (by rfl) T2.tuple (by decide +kernel) (pa_cons (pv 3) pa_nil)) rfl)
      (pss_one (ps_fld (pv 0) (pe_callB (cr_max rfl) (by rfl) T2.max (by decide +kernel) (pa_cons (pe_lc (own := [("least", 5)]) (g := gName 5) (tt := _) rfl nd (pi_list (pe_fld (pv 0) rfl))
        (blkOk_by (N := ["self", "numbers", "ascending", "kept", "number", "least"]) (sc := defScope sSInit) (by decide +kernel)) (fun _ _ _ _ _ => pg_name (i := 5) nd rfl (Or.inl rfl)) (fun _ _ _ _ _ => pts_one (pt_cmpR op_notN (pv 5) pe_non (nomark _)))
        (fun _ _ _ _ _ => pv 5)) pa_nil)) rfl))))))), ?_⟩
    have emap : ms.map nI = (ms.map fun m : Nat => (m : Int)).map V.int := by rw [List.map_map]; rfl
    refine ⟨_, rfl, t, ms.map (fun m : Nat => (m : Int)), rfl, (by rw [← emap]; exact ht), fun ns as pm srt has => ?_⟩
    obtain ⟨asc, rfl, pa, ps⟩ := nats_of pm srt
    have easc : (asc.map fun m : Nat => (m : Int)).map V.int = asc.map nI := by rw [List.map_map]; rfl
    rw [easc]
    have lasc : asc.length = ms.length := pa.length_eq
    obtain ⟨a, ha⟩ : ∃ a, asc[0]? = some a := ⟨_, List.getElem?_eq_getElem (by omega)⟩
    have ham : a ∈ ms := pa.mem_iff.mp (List.mem_of_getElem? ha)
    have ha1 := hms a ham
    have hat : atI (asc.map nI) (0 : Int) = some (nI a) := atI_nat (j := 0) (by rw [List.getElem?_map, ha]; rfl)
    -- the heap's way up to the first store
    have big : ∀ n, n ≤ 2000000 → n ≤ sizeLine := fun n h => Nat.le_of_lt (Nat.lt_of_le_of_lt (m := 2000000) h (by decide))
    have s1 := same_new (o := .lst (asc.map nI)) (same_refl H) has
    have fa : upd H as (.lst (asc.map nI)) as = some (.lst (asc.map nI)) := upd_same
    generalize upd H as (.lst (asc.map nI)) = G1 at *
    refine ⟨(by show 1 ≤ sizeLine; decide), fun l0 hl0 => ?_⟩
    have s2 := same_new (o := .lst [.int 0]) (same_refl G1) hl0
    have f2 : upd G1 l0 (.lst [.int 0]) l0 = some (.lst [.int 0]) := upd_same
    generalize upd G1 l0 (.lst [.int 0]) = G2 at *
    refine ⟨(by show 1 ≤ sizeLine; decide), fun l1 hl1 => ?_⟩
    have s3 := same_new (o := .lst [.non]) (same_refl G2) hl1
    have f3 : upd G2 l1 (.lst [.non]) l1 = some (.lst [.non]) := upd_same
    generalize upd G2 l1 (.lst [.non]) = G3 at *
    have a3 := s3 _ _ (s2 _ _ fa)
    refine ⟨_, rfl, as, _, _, _, rfl, rfl, SqL.of a3, hat, _, _, rfl, rfl, ?_⟩
    refine ⟨l1, (a : Int) - 1, _, rfl, rfl, f3, by omega, by omega, (by show 1 * _ ≤ sizeLine; rw [Nat.one_mul]; exact big _ (by omega)), fun l2 hl2 => ?_⟩
    have er : (List.replicate ((a : Int) - 1).toNat [V.non]).flatten = List.replicate (a - 1) V.non := by
      rw [show ((a : Int) - 1).toNat = a - 1 by omega, List.flatten_replicate_singleton]
    rw [er]
    have s4 := same_new (o := .lst (List.replicate (a - 1) V.non)) (same_refl G3) hl2
    have f4 : upd G3 l2 (.lst (List.replicate (a - 1) V.non)) l2 = some (.lst (List.replicate (a - 1) V.non)) := upd_same
    generalize upd G3 l2 (.lst (List.replicate (a - 1) V.non)) = G4 at *
    refine ⟨l0, l2, _, _, rfl, rfl, s4 _ _ (s3 _ _ f2), f4, (by rw [List.length_replicate]; exact big _ (by show 1 + (a - 1) ≤ 2000000; omega)), fun la hla => ?_⟩
    have el : ([V.int 0] ++ List.replicate (a - 1) V.non) = (List.range a).map fun k => oV (L0 k) := (l0_map (by omega)).symm
    rw [el]
    have s5 := same_new (o := .lst ((List.range a).map fun k => oV (L0 k))) (same_refl G4) hla
    have f5 : upd G4 la (.lst ((List.range a).map fun k => oV (L0 k))) la = some (.lst ((List.range a).map fun k => oV (L0 k))) := upd_same
    generalize upd G4 la (.lst ((List.range a).map fun k => oV (L0 k))) = G5 at *
    have s15 := same_trans s1 (same_trans s2 (same_trans s3 (same_trans s4 s5)))
    have nla : H la = none := same_none (same_trans s1 (same_trans s2 (same_trans s3 s4))) hla
    have a5 := s5 _ _ (s4 _ _ a3)
    have x5 := s15 _ _ hx
    have xla : x ≠ la := ne_of_none hx nla
    have xas : x ≠ as := ne_of_none hx has
    have las : la ≠ as := (ne_of_none (s4 _ _ a3) hla).symm
    clear s1 s2 s3 s4 s5 f2 f3 f4 hl0 hl1 hl2 hla a3
    refine ⟨_, rfl, x, CS, dx, _, rfl, x5, S.cl, S.nL, (by show 0 < 1000; decide), ?_⟩
    refine ⟨_, rfl, as, _, _, _, rfl, rfl, SqL.of (by rw [upd_ne xas.symm]; exact a5), hat, _, rfl, x, CS, dx, _, rfl, upd_same, S.cl, S.nS, (by show 1 < 1000; decide), ?_⟩
    rw [sf_1]
    have off6 : ∀ b o, b ≠ x → H b = some o → upd (upd G5 x (.ins CS dx (putF "_least" (.ref la) []))) x (.ins CS dx (SF la a)) b = some o := fun b o hb e => by rw [upd_ne hb, upd_ne hb]; exact s15 _ _ e
    have a6 : upd (upd G5 x (.ins CS dx (putF "_least" (.ref la) []))) x (.ins CS dx (SF la a)) as = some (.lst (asc.map nI)) := by rw [upd_ne xas.symm, upd_ne xas.symm]; exact a5
    have l6 : upd (upd G5 x (.ins CS dx (putF "_least" (.ref la) []))) x (.ins CS dx (SF la a)) la = some (.lst ((List.range a).map fun k => oV (L0 k))) := by rw [upd_ne xla.symm, upd_ne xla.symm]; exact f5
    have x6 : upd (upd G5 x (.ins CS dx (putF "_least" (.ref la) []))) x (.ins CS dx (SF la a)) x = some (.ins CS dx (SF la a)) := upd_same
    generalize upd (upd G5 x (.ins CS dx (putF "_least" (.ref la) []))) x (.ins CS dx (SF la a)) = G6 at *
    refine ⟨_, rfl, as, _, _, _, rfl, rfl, SqL.of a6, hat, (by show 1 ≤ sizeLine; decide), fun kp hkp => ?_⟩
    have nkp : H kp = none ∨ kp = x := by
      by_cases c : kp = x
      · exact .inr c
      · cases e : H kp with
        | none => exact .inl rfl
        | some o => have := off6 kp o c e; rw [hkp] at this; cases this
    have kpx : kp ≠ x := (ne_of_none x6 hkp).symm
    have nkp2 : H kp = none := nkp.resolve_right kpx
    have kpla : kp ≠ la := (ne_of_none l6 hkp).symm
    have kpas : kp ≠ as := (ne_of_none a6 hkp).symm
    refine ⟨_, rfl, as, rfl, ⟨_, SqL.of (by rw [upd_ne kpas.symm]; exact a6)⟩, for_list (xs := asc.map nI) (fun i σ H' => ∃ (st : List Nat × (Nat → Option Nat)) (t4 : Option V), σ = [some (.ref x), some (.ref t), some (.ref as), some (.ref kp), t4, none] ∧ Walk a st (a :: asc.take i) ∧
      (∀ b o, b ≠ x → H b = some o → H' b = some o) ∧ H' x = some (.ins CS dx (SF la (gcdL st.1))) ∧ H' la = some (.lst ((List.range a).map fun k => oV (st.2 k))) ∧ H' kp = some (.lst (st.1.map nI)) ∧ H' as = some (.lst (asc.map nI)) ∧ st.1.length ≤ i + 1)
      ⟨([a], L0), none, rfl, walk_one (by omega), fun b o hb e => ?_, ?_, ?_, upd_same, ?_, Nat.le_refl _⟩ (fun i σ H' _ h => by
        obtain ⟨_, _, _, _, _, _, _, _, q, _⟩ := h
        exact SqL.of q) ?_ ?_⟩
    · rw [upd_ne (ne_of_none e nkp2)]; exact off6 b o hb e
    · rw [upd_ne kpx.symm, x6]
      have : gcdL [a] = a := by unfold gcdL; simp
      show _ = some (HO.ins CS dx (SF la (gcdL [a])))
      rw [this]
    · rw [upd_ne kpla.symm]; exact l6
    · rw [upd_ne kpas.symm]; exact a6
    · rintro i v σ H' hv ⟨st, t4, rfl, wk, off, hx', hla', hkp', has', hlen⟩
      obtain ⟨n, hn, rfl⟩ : ∃ n, asc[i]? = some n ∧ v = nI n := by
        rw [List.getElem?_map] at hv
        cases e : asc[i]? with
        | none => rw [e] at hv; cases hv
        | some n => rw [e] at hv; exact ⟨n, rfl, (Option.some.inj hv).symm⟩
      have hi : i < asc.length := (List.getElem?_eq_some_iff.mp hn).1
      have wk' := walk_turn ha ps hn wk
      have sA : SumAt H' x la CS a st.2 := ⟨⟨dx, _, hx', sf_least⟩, hla'⟩
      refine ⟨_, rfl, x, dx, _, rfl, hx', sf_has, _, rfl, x, la, a, st.2, (n : Int), rfl, sA, by omega, _, rfl, ?_⟩
      rw [hasZ_nat]
      refine ite2 (fun c => ?_) (fun c => ?_)
      · have c2 : ¬ hasB a st.2 n = true := by simpa using c
        have ef : feed a st n = (st.1 ++ [n], K02.widen a n (a / Nat.gcd a n) st.2 (Nat.gcd a n)) := by unfold feed; rw [if_neg c2]
        have nas : H' kp = some (.lst (st.1.map nI)) := hkp'
        refine ⟨_, rfl, .inl ⟨rfl, _, SqL.of hkp'⟩, _, rfl, kp, _, _, rfl, rfl, hkp', (by rw [List.length_map]; exact room2 (by omega)), ?_⟩
        have x1 : upd H' kp (.lst (st.1.map nI ++ [nI n])) x = some (.ins CS dx (SF la (gcdL st.1))) := by rw [upd_ne kpx.symm]; exact hx'
        refine ⟨_, rfl, x, CS, dx, _, _, rfl, x1, S.cl, S.nS, sf_step, _, rfl, _, _, rfl, _, rfl, x, CS, dx, _, rfl, x1, S.cl, S.nS, (by show 2 < 1000; decide), ?_⟩
        have e2 : putF "step" (V.int ((Nat.gcd ((gcdL st.1 : Nat) : Int).natAbs ((n : Nat) : Int).natAbs : Nat) : Int)) (SF la (gcdL st.1)) = SF la (gcdL (st.1 ++ [n])) := by
          rw [gcdL_snoc]
          exact sf_2 (g' := Nat.gcd (gcdL st.1) n)
        rw [e2]
        have x2 : upd (upd H' kp (.lst (st.1.map nI ++ [nI n]))) x (.ins CS dx (SF la (gcdL (st.1 ++ [n])))) x = some (.ins CS dx (SF la (gcdL (st.1 ++ [n])))) := upd_same
        have la2 : upd (upd H' kp (.lst (st.1.map nI ++ [nI n]))) x (.ins CS dx (SF la (gcdL (st.1 ++ [n])))) la = some (.lst ((List.range a).map fun k => oV (st.2 k))) := by rw [upd_ne xla.symm, upd_ne kpla.symm]; exact hla'
        have kp2 : upd (upd H' kp (.lst (st.1.map nI ++ [nI n]))) x (.ins CS dx (SF la (gcdL (st.1 ++ [n])))) kp = some (.lst ((st.1 ++ [n]).map nI)) := by rw [upd_ne kpx, upd_same, List.map_append]; rfl
        have as2 : upd (upd H' kp (.lst (st.1.map nI ++ [nI n]))) x (.ins CS dx (SF la (gcdL (st.1 ++ [n])))) as = some (.lst (asc.map nI)) := by rw [upd_ne xas.symm, upd_ne kpas.symm]; exact has'
        have off2 : ∀ b o, b ≠ x → H b = some o → upd (upd H' kp (.lst (st.1.map nI ++ [nI n]))) x (.ins CS dx (SF la (gcdL (st.1 ++ [n])))) b = some o := fun b o hb e => by rw [upd_ne hb, upd_ne (ne_of_none e nkp2)]; exact off b o hb e
        generalize upd (upd H' kp (.lst (st.1.map nI ++ [nI n]))) x (.ins CS dx (SF la (gcdL (st.1 ++ [n])))) = G7 at *
        refine ⟨_, rfl, x, dx, _, rfl, x2, sf_widen, _, rfl, x, la, dx, _, a, st.2, n, Nat.gcd a n, a / Nat.gcd a n, rfl, x2, sf_least, sf_round, ⟨⟨dx, _, x2, sf_least⟩, la2⟩, by omega, by omega, xla, rfl, (Nat.mul_div_cancel' (Nat.gcd_dvd_left a n)).symm, fun H2 o2 hl2 => ?_⟩
        refine ⟨feed a st n, _, rfl, wk', fun b o hb e => (o2 b (ne_of_none e nla)).trans (off2 b o hb e), ?_, ?_, ?_, ?_, ?_⟩
        · rw [o2 x xla, ef]; exact x2
        · rw [ef]; exact hl2
        · rw [o2 kp kpla, ef]; exact kp2
        · rw [o2 as las.symm]; exact as2
        · rw [ef]; show (st.1 ++ [n]).length ≤ _; rw [List.length_append]; show st.1.length + 1 ≤ _; omega
      · have c2 : hasB a st.2 n = true := by simpa using c
        have ef : feed a st n = st := by unfold feed; rw [if_pos c2]
        rw [ef] at wk'
        exact ⟨st, _, rfl, wk', off, hx', hla', hkp', has', by omega⟩
    · rintro σ H' ⟨st, t4, rfl, wk, off, hx', hla', hkp', has', hlen⟩
      rw [List.length_map, List.take_length] at wk
      rw [List.length_map] at hlen
      refine ⟨_, rfl, kp, _, rfl, .inl ⟨SqL.of hkp', fun tk htk => ?_⟩⟩
      have tkx : tk ≠ x := (ne_of_none hx' htk).symm
      have tkla : tk ≠ la := (ne_of_none hla' htk).symm
      have x1 : upd H' tk (.tup (st.1.map nI)) x = some (.ins CS dx (SF la (gcdL st.1))) := by rw [upd_ne tkx.symm]; exact hx'
      refine ⟨_, rfl, x, CS, dx, _, rfl, x1, S.cl, S.nM, (by show 2 < 1000; decide), ?_⟩
      have x2 : upd (upd H' tk (.tup (st.1.map nI))) x (.ins CS dx (putF "makers" (.ref tk) (SF la (gcdL st.1)))) x = some (.ins CS dx (putF "makers" (.ref tk) (SF la (gcdL st.1)))) := upd_same
      have la2 : upd (upd H' tk (.tup (st.1.map nI))) x (.ins CS dx (putF "makers" (.ref tk) (SF la (gcdL st.1)))) la = some (.lst ((List.range a).map fun k => oV (st.2 k))) := by rw [upd_ne xla.symm, upd_ne tkla.symm]; exact hla'
      have tk2 : upd (upd H' tk (.tup (st.1.map nI))) x (.ins CS dx (putF "makers" (.ref tk) (SF la (gcdL st.1)))) tk = some (.tup (st.1.map nI)) := by rw [upd_ne tkx, upd_same]
      have off2 : ∀ b o, b ≠ x → H b = some o → upd (upd H' tk (.tup (st.1.map nI))) x (.ins CS dx (putF "makers" (.ref tk) (SF la (gcdL st.1)))) b = some o := fun b o hb e => by
        rw [upd_ne hb, upd_ne (ne_of_none (off b o hb e) htk)]; exact off b o hb e
      generalize upd (upd H' tk (.tup (st.1.map nI))) x (.ins CS dx (putF "makers" (.ref tk) (SF la (gcdL st.1)))) = G8 at *
      have lk : (putF "makers" (.ref tk) (SF la (gcdL st.1))).lookup ("_least" : Str) = some (.ref la) := by
        rw [lookup_putF, if_neg (by decide +kernel)]; rfl
      refine ⟨_, rfl, x, CS, dx, _, _, rfl, x2, S.cl, S.nL, lk, la, rfl, ⟨_, SqL.of la2⟩, fun D hD => ?_⟩
      refine lc_list (K := K) (a := la) (xs := (List.range a).map fun k => oV (st.2 k)) (fun i H2 => (∀ b, b ≠ D → H2 b = G8 b) ∧ H2 D = some (.lst ((leasts st.2 i).map nI))) ⟨fun b hb => upd_ne hb, upd_same⟩ (fun i H2 _ p => SqL.of (by
        have : la ≠ D := ne_of_none la2 hD
        rw [p.1 la this]; exact la2)) ?_ ?_
      · rintro i v H2 hv ⟨h1, h2⟩
        have hi : i < a := by
          have := (List.getElem?_eq_some_iff.mp hv).1
          rwa [List.length_map, List.length_range] at this
        have ev : v = oV (st.2 i) := by
          rw [List.getElem?_map, List.getElem?_range hi] at hv
          exact (Option.some.inj hv).symm
        subst ev
        refine ⟨rfl, ?_⟩
        have ll := len_leasts (L := st.2) (k := i)
        cases c : st.2 i with
        | none =>
          refine ⟨_, rfl, rfl, _, rfl, ?_⟩
          refine ifF (by decide) ?_
          refine ⟨h1, ?_⟩
          rw [leasts_succ, c]
          show _ = some (HO.lst (List.map nI (leasts st.2 i ++ [])))
          rw [List.append_nil]
          exact h2
        | some u =>
          refine ⟨_, rfl, rfl, _, rfl, ?_⟩
          refine ifT (by rfl) ?_
          refine ⟨_, rfl, _, h2, (by rw [List.length_map]; exact room2 (by omega)), fun b hb => (upd_ne hb).trans (h1 b hb), ?_⟩
          rw [upd_same, leasts_succ, c, List.map_append]
          rfl
      · rintro H2 ⟨h1, h2⟩
        rw [List.length_map, List.length_range] at h2
        have hD0 : G8 D = none := hD
        have xD : x ≠ D := ne_of_none x2 hD
        have eI : ∀ l : List Nat, l.map nI = (l.map fun m : Nat => (m : Int)).map V.int := fun l => by rw [List.map_map]; rfl
        have ok := wk.f.ok
        have have0 : ∃ v, st.2 0 = some v := by
          have := ok.full 0 .zero
          obtain ⟨v, e, _⟩ := hasB_iff.mp this
          rw [Nat.zero_mod] at e
          exact ⟨v, e⟩
        obtain ⟨v0, hv0⟩ := have0
        have m0 : v0 ∈ leasts st.2 a := mem_leasts.mpr ⟨0, by omega, hv0⟩
        refine ⟨D, (leasts st.2 a).map (fun m : Nat => (m : Int)), rfl, SqL.of (by rw [← eI]; exact h2), by rw [List.length_map]; exact List.length_pos_of_mem m0, fun m hm hmax => ?_⟩
        obtain ⟨far, hfar, rfl⟩ := List.mem_map.mp hm
        refine ⟨_, rfl, x, CS, dx, _, rfl, (by rw [h1 x xD]; exact x2), S.cl, S.nF, (by show 3 < 1000; decide), ?_⟩
        have ex : putF "far" (V.int ((far : Nat) : Int)) (putF "makers" (.ref tk) (SF la (gcdL st.1))) = SFull la tk (gcdL st.1) far := sf_3
        rw [ex]
        have offD : ∀ b o, b ≠ x → G8 b = some o → upd H2 x (.ins CS dx (SFull la tk (gcdL st.1) far)) b = some o := fun b o hb e => by
          rw [upd_ne hb, h1 b (ne_of_none e hD)]; exact e
        refine k _ tk la a st.2 st.1 far (fun b o hb e => offD b o hb (off2 b o hb e)) ⟨⟨dx, upd_same⟩, offD la _ xla.symm la2, offD tk _ tkx tk2, ok, wk.k.congr fun y => ?_, by omega, fun j hj v e => ?_, ?_⟩
        · rw [List.mem_cons, pa.mem_iff]
          exact ⟨fun z => z.elim (fun z => z ▸ ham) id, .inr⟩
        · have := hmax (v : Int) (List.mem_map.mpr ⟨v, mem_leasts.mpr ⟨j, hj, e⟩, rfl⟩)
          omega
        · obtain ⟨j, hj, e⟩ := mem_leasts.mp hfar
          exact ⟨j, hj, e⟩
end
end K02

set_option Elab.async false
set_option linter.all false
set_option maxRecDepth 100000
set_option maxHeartbeats 2000000
namespace K02
open PySem L2
abbrev sInteger : Stmt := top 2
abbrev sWithin : Stmt := top 3
abbrev sMk : Stmt := top 18
abbrev sLInit : Stmt := inClass (top 17) 0
abbrev sTake : Stmt := inClass (top 17) 1
abbrev sLEq : Stmt := inClass (top 17) 2
abbrev sLHas : Stmt := inClass (top 17) 3
def inB (lo hi : Int) (o : Option Int) : Bool := match o with
  | some i => decide (lo ≤ i) && decide (i ≤ hi)
  | none => false
def spInteger (K : PySem.W.Frag) : Sp := fun vs H Q _ => ∃ (v : V) (o : Option Int), vs = [v] ∧ ItAt K H o v ∧ Q (.bl o.isSome) H
def spWithin (K : PySem.W.Frag) : Sp := fun vs H Q _ => ∃ (lo hi : Int) (v : V) (o : Option Int), vs = [.int lo, .int hi, v] ∧ ItAt K H o v ∧ Q (.bl (inB lo hi o)) H
def spMk (K : PySem.W.Frag) : Sp := fun vs H Q _ => ∃ (z : Str) (v : V) (o : Option (List (Option Int))), vs = [.str z, v] ∧ MkAt K H o v ∧ ∀ H', Same H H' → Q (.bl (mkOk z o)) H'
theorem mkOk_more (os : List (Option Int)) : mkOk "more" (some os) = (decide (1 ≤ os.length) && decide (os.length ≤ 4) && os.all itOk) := by simp [mkOk]
theorem mkOk_else {z : Str} (h : z ≠ "more") (os : List (Option Int)) : mkOk z (some os) = decide (os.length = 0) := by simp [mkOk, h]
/-- numbers of the module -/
structure TxN (mg : Str → Option Value) : Prop where
  most : ∃ u, mg "MOST_MAKERS" = some (.int 4 u)
  great : ∃ u, mg "GREATEST_MAKER" = some (.int 12 u)
  num : ∃ u, mg "GREATEST_NUMBER" = some (.int 10000 u)
section
variable {P : Program} {w : World} {K : PySem.W.Frag} {mg : Str → Option Value} {base : Heap}
theorem scInteger : FnScope ["thing"] ["thing"] (defScope sInteger) := ⟨rfl, rfl, rfl, by decide +kernel, rfl, by decide +kernel, by decide +kernel⟩
theorem ok_integer {f : Addr} {fd : FuncData} (F : Fn K mg "is_integer" sInteger ["thing"] f fd) (T : TxB mg) (T2 : TxD mg) : FnOk P w K mg base CX0 1 f fd ["thing"] (spInteger K) := by
  refine F.F.ok scInteger (fun vs H Q E h => ?_) (fun cdv A outer s H vs Q E hr h => ?_)
  · obtain ⟨v, t, rfl, _⟩ := h
    rfl
  · obtain ⟨v, o, rfl, hv, k⟩ := h
    obtain ⟨tv, b, ty, k1, k2, k3⟩ := hv.ty
    refine ⟨_, pss_one (ps_ret (pe_and (pe_callB call_isi (by rfl) T.isinstance (by decide +kernel) (pa_cons (pv 0) (pa_cons (pe_bltn (v := .ty "int") (by rfl) T.int (by decide +kernel) rfl) pa_nil)))
      (pe_one (pe_not (pe_callB call_isi (by rfl) T.isinstance (by decide +kernel) (pa_cons (pv 0) (pa_cons (pe_bltn (v := .ty "bool") (by rfl) T2.bool (by decide +kernel) rfl) pa_nil))))))), ?_⟩
    refine ⟨_, rfl, _, _, _, _, _, rfl, .ty _, ty, k1, _, rfl, ?_⟩
    refine ite2 (fun c => ?_) (fun c => ?_)
    · refine ⟨_, rfl, _, _, _, _, _, rfl, .ty _, ty, k2 c, _, rfl, ?_⟩
      rw [Bool.not_not]
      exact k
    · have e : o.isSome = false := by
        cases h : o.isSome with
        | false => rfl
        | true => exact absurd (k3 h) c
      rw [e] at k
      exact k
theorem scWithin : FnScope ["low", "high", "thing"] ["low", "high", "thing"] (defScope sWithin) := ⟨rfl, rfl, rfl, by decide +kernel, rfl, by decide +kernel, by decide +kernel⟩
theorem ok_within {f f1 : Addr} {fd fd1 : FuncData} (F : Fn K mg "is_integer_within" sWithin ["low", "high", "thing"] f fd) (N1 : Fn K mg "is_integer" sInteger ["thing"] f1 fd1) (T : TxB mg) (T2 : TxD mg) : FnOk P w K mg base CX0 2 f fd ["low", "high", "thing"] (spWithin K) := by
  have G1 : FnOk P w K mg base CX0 1 f1 fd1 ["thing"] (spInteger K) := ok_integer N1 T T2
  refine F.F.ok scWithin (fun vs H Q E h => ?_) (fun cdv A outer s H vs Q E hr h => ?_)
  · obtain ⟨lo, hi, v, t, rfl, _⟩ := h
    rfl
  · obtain ⟨lo, hi, v, o, rfl, hv, k⟩ := h
    refine ⟨_, pss_one (ps_ret (pe_and (pe_call G1 hr (by rfl) N1.m N1.F.kp N1.b .nil pass0 (pa_cons (pv 2) pa_nil)) (pe_one (pe_chain op_le op_le (pv 0) (pv 2) (pv 1))))), ?_⟩
    refine ⟨_, rfl, v, o, rfl, hv, _, rfl, ?_⟩
    refine ite2 (fun c => ?_) (fun c => ?_)
    · obtain ⟨i, rfl⟩ := Option.isSome_iff_exists.mp c
      obtain rfl : v = .int i := hv
      refine ⟨_, rfl, _, rfl, _, _, rfl, rfl, _, rfl, ?_⟩
      refine ite2 (fun c2 => ?_) (fun c2 => ?_)
      · refine ⟨_, rfl, _, _, rfl, rfl, ?_⟩
        have e : inB lo hi (some i) = decide (i ≤ hi) := by show (decide (lo ≤ i) && decide (i ≤ hi)) = _; rw [c2, Bool.true_and]
        rw [e] at k
        exact k
      · have e : inB lo hi (some i) = false := by show (decide (lo ≤ i) && decide (i ≤ hi)) = _; rw [Bool.eq_false_iff.mpr c2, Bool.false_and]
        rw [e] at k
        exact k
    · have e : o = none := by
        cases o with
        | none => rfl
        | some i => exact absurd rfl c
      rw [e] at k
      exact k
theorem inB_it (o : Option Int) : inB 1 12 o = itOk o := by cases o <;> rfl
theorem scMk : FnScope ["word", "thing", "maker"] ["word", "thing"] (defScope sMk) := ⟨rfl, rfl, rfl, by decide +kernel, rfl, by decide +kernel, by decide +kernel⟩
theorem ok_mk {f f2 f1 : Addr} {fd fd2 fd1 : FuncData} (F : Fn K mg "_is_makers" sMk ["word", "thing"] f fd) (N2 : Fn K mg "is_integer_within" sWithin ["low", "high", "thing"] f2 fd2) (N1 : Fn K mg "is_integer" sInteger ["thing"] f1 fd1) (T : TxB mg) (T2 : TxD mg) (TN : TxN mg) : FnOk P w K mg base CX0 3 f fd ["word", "thing"] (spMk K) := by
  have G2 : FnOk P w K mg base CX0 2 f2 fd2 ["low", "high", "thing"] (spWithin K) := ok_within N2 N1 T T2
  obtain ⟨u4, h4⟩ := TN.most
  obtain ⟨u12, h12⟩ := TN.great
  refine F.F.ok scMk (fun vs H Q E h => ?_) (fun cdv A outer s H vs Q E hr h => ?_)
  · obtain ⟨z, v, o, rfl, _⟩ := h
    rfl
  · obtain ⟨z, v, o, rfl, hv, k⟩ := h
    have nd := scMk.nd
    refine ⟨_, pss_cons (ps_if (pt_not (pt_val (pe_callB call_isi (by rfl) T.isinstance (by decide +kernel) (pa_cons (pv 1) (pa_cons (pe_bltn (v := .ty "tuple") (by rfl) T2.tuple (by decide +kernel) rfl) pa_nil))))) (pss_one (ps_ret pe_bl)) pss_nil)
      (pss_cons (ps_if (pt_cmpR op_ne (pv 0) pe_str (nomark _)) (pss_one (ps_ret (pe_cmpR op_eq (pe_callB call_len (by rfl) T.len PySem.boot_len (pa_cons (pv 1) pa_nil)) pe_int (nomark _)))) pss_nil)
      (pss_cons (ps_if (pt_not (pt_chain op_le op_le pe_int (pe_callB call_len (by rfl) T.len PySem.boot_len (pa_cons (pv 1) pa_nil)) (pe_glob (v := .int 4) (by rfl) h4 ⟨_, rfl⟩))) (pss_one (ps_ret pe_bl)) pss_nil)
      (pss_one (ps_ret (pe_callB (cr_all rfl) (by rfl) T.all (by decide +kernel) (pa_cons (pe_lc (own := [("maker", 2)]) (g := gName 2) (tt := tYes) rfl nd (pi_tup (pv 1))
        (blkOk_by (N := ["word", "thing", "maker"]) (sc := defScope sMk) (by decide +kernel)) (fun _ _ _ _ _ => pg_name (i := 2) nd rfl (Or.inl rfl)) (fun _ _ _ _ _ => pts_nil)
        (fun _ _ _ _ _ => pe_call G2 hr (by rfl) N2.m N2.F.kp N2.b .nil pass0 (pa_cons pe_int (pa_cons (pe_glob (v := .int 12) (by rfl) h12 ⟨_, rfl⟩) (pa_cons (pv 2) pa_nil))))) pa_nil)))))), ?_⟩
    obtain ⟨tv, ty, kt⟩ := hv.ty
    refine ⟨_, rfl, _, _, _, _, _, rfl, .ty _, ty, kt, _, rfl, ?_⟩
    cases o with
    | none =>
      refine ifT rfl ?_
      exact k H (same_refl H)
    | some os =>
      refine ifF rfl ?_
      obtain ⟨a, ys, rfl, ht, hly, hlo, hit⟩ := hv
      refine ⟨_, rfl, rfl, _, rfl, ?_⟩
      refine ite2 (fun c => ?_) (fun c => ?_)
      · have c2 : z ≠ "more" := fun e => by subst e; revert c; simp
        refine ⟨_, rfl, _, _, rfl, .inr ⟨_, ht, rfl⟩, rfl, ?_⟩
        have e : mkOk z (some os) = decide (V.int (ys.length : Int) = V.int 0) := by
          have q0 : mkOk z (some os) = decide (os.length = 0) := mkOk_else c2 os
          rw [q0, hly]
          by_cases q : os.length = 0
          · rw [decide_eq_true q, decide_eq_true (by rw [q]; rfl)]
          · rw [decide_eq_false q, decide_eq_false fun h => q (by have := V.int.inj h; omega)]
        have k2 := k H (same_refl H)
        rw [e] at k2
        exact k2
      · have c2 : z = "more" := by
          have : ¬ ((!decide (V.str z = V.str "more")) = true) := c
          simp at this
          exact this
        subst c2
        have em : mkOk "more" (some os) = (decide (1 ≤ os.length) && decide (os.length ≤ 4) && os.all itOk) := mkOk_more os
        refine ⟨_, rfl, _, _, rfl, .inr ⟨_, ht, rfl⟩, _, _, rfl, rfl, _, rfl, ?_⟩
        refine ite2 (fun d1 => ?_) (fun d1 => ?_)
        · have d1' : 1 ≤ os.length := by have := of_decide_eq_true d1; omega
          refine ⟨_, _, rfl, rfl, _, rfl, ?_⟩
          refine ite2 (fun d2 => ?_) (fun d2 => ?_)
          · have d2' : ¬ os.length ≤ 4 := fun z => by
              have : decide ((ys.length : Int) ≤ 4) = true := decide_eq_true (by omega)
              rw [this] at d2; cases d2
            have k2 := k H (same_refl H)
            rw [em, decide_eq_false d2', Bool.and_false, Bool.false_and] at k2
            exact k2
          · have d2' : os.length ≤ 4 := by
              refine Classical.byContradiction fun z => d2 ?_
              have : decide ((ys.length : Int) ≤ 4) = false := decide_eq_false (by omega)
              rw [this]; rfl
            refine ⟨_, rfl, a, rfl, ⟨_, ht⟩, fun D hD => ?_⟩
            refine lc_tup (K := K) (a := a) (xs := ys) (fun i H' => Same H H' ∧ H' D = some (.lst ((os.take i).map fun o => V.bl (itOk o)))) ⟨same_new (same_refl H) hD, upd_same⟩ (fun i H' _ p => sqt_same ht p.1) ?_ ?_
            · rintro i y H' hy ⟨h1, h2⟩
              have hi : i < os.length := by rw [← hly]; exact (List.getElem?_eq_some_iff.mp hy).1
              refine ⟨rfl, ?_⟩
              refine yes_kept ?_
              refine ⟨_, rfl, 1, 12, y, os[i], rfl, (hit i _ _ (List.getElem?_eq_getElem hi) hy).same h1, ?_⟩
              refine ⟨_, h2, (by rw [List.length_map, List.length_take]; exact small1000 (by omega)), fun b u e => ?_, ?_⟩
              · rw [upd_ne (ne_of_none e hD)]; exact h1 b u e
              · rw [upd_same, List.take_add_one, List.getElem?_eq_getElem hi, List.map_append, inB_it]; rfl
            · rintro H' ⟨h1, h2⟩
              rw [hly, List.take_length] at h2
              refine ⟨D, os.map itOk, rfl, SqL.of (by rw [List.map_map]; exact h2), ?_⟩
              have k2 := k H' h1
              rw [em, decide_eq_true d1', decide_eq_true d2', Bool.and_self, Bool.true_and] at k2
              rw [List.all_map]
              exact k2
        · have d1' : ¬ 1 ≤ os.length := fun z => d1 (decide_eq_true (by omega))
          refine ⟨_, rfl, ?_⟩
          refine ifT rfl ?_
          have k2 := k H (same_refl H)
          rw [em, decide_eq_false d1', Bool.false_and, Bool.false_and] at k2
          exact k2
end
end K02

set_option Elab.async false
set_option linter.all false
set_option maxRecDepth 100000
set_option maxHeartbeats 2000000
namespace K02
open PySem L2
/-! ### flat lists as data -/
theorem dp_nats {K : PySem.W.Frag} {H : Hp} : ∀ l : List Nat, DpAll K H (l.map nI) (l.map fun m : Nat => PyData.int (m : Int))
  | [] => .nil
  | m :: l => .cons (.int _) (dp_nats l)
theorem dp_bools {K : PySem.W.Frag} {H : Hp} : ∀ l : List Bool, DpAll K H (l.map V.bl) (l.map PyData.bool)
  | [] => .nil
  | m :: l => .cons (.bl _) (dp_bools l)
theorem flat_ok : ∀ {l : List PyData}, (∀ d ∈ l, PyData.canLay0 d = true ∧ PyData.depth d = 0) → PyData.canLayAll0 l = true ∧ PyData.depthAll l = 0
  | [], _ => ⟨rfl, rfl⟩
  | d :: l, h => by
    have h1 := h d List.mem_cons_self
    have h2 := flat_ok fun e he => h e (List.mem_cons_of_mem _ he)
    refine ⟨?_, ?_⟩
    · show (PyData.canLay0 d && PyData.canLayAll0 l) = true
      rw [h1.1, h2.1]; rfl
    · show max (PyData.depth d) (PyData.depthAll l) = 0
      rw [h1.2, h2.2]; rfl
theorem shaped_tup {l : List PyData} (h : ∀ d ∈ l, PyData.canLay0 d = true ∧ PyData.depth d = 0) : SeqAt.shaped (.tuple l) = true := by
  obtain ⟨h1, h2⟩ := flat_ok h
  show (PyData.canLayAll0 l && decide (PyData.depthAll l + 1 ≤ 64)) = true
  rw [h1, h2]; rfl
theorem shaped_lst {l : List PyData} (h : ∀ d ∈ l, PyData.canLay0 d = true ∧ PyData.depth d = 0) : SeqAt.shaped (.list l) = true := by
  obtain ⟨h1, h2⟩ := flat_ok h
  show (PyData.canLayAll0 l && decide (PyData.depthAll l + 1 ≤ 64)) = true
  rw [h1, h2]; rfl
theorem nats_flat {l : List Nat} : ∀ d ∈ l.map (fun m : Nat => PyData.int (m : Int)), PyData.canLay0 d = true ∧ PyData.depth d = 0 := fun d hd => by
  obtain ⟨m, _, rfl⟩ := List.mem_map.mp hd
  exact ⟨rfl, rfl⟩
theorem bools_flat {l : List Bool} : ∀ d ∈ l.map PyData.bool, PyData.canLay0 d = true ∧ PyData.depth d = 0 := fun d hd => by
  obtain ⟨m, _, rfl⟩ := List.mem_map.mp hd
  exact ⟨rfl, rfl⟩
theorem eqv_nats : ∀ l l' : List Nat, PyData.eqvAll (l.map fun m : Nat => PyData.int (m : Int)) (l'.map fun m : Nat => PyData.int (m : Int)) = decide (l = l')
  | [], [] => rfl
  | [], _ :: _ => rfl
  | _ :: _, [] => rfl
  | a :: l, b :: l' => by
    show (((a : Int) == (b : Int)) && PyData.eqvAll (l.map fun m : Nat => PyData.int (m : Int)) (l'.map fun m : Nat => PyData.int (m : Int))) = _
    rw [eqv_nats l l', Bool.eq_iff_iff, Bool.and_eq_true, decide_eq_true_eq, decide_eq_true_eq, beq_iff_eq, List.cons.injEq]
    constructor
    · rintro ⟨h1, h2⟩; exact ⟨by omega, h2⟩
    · rintro ⟨h1, h2⟩; exact ⟨by omega, h2⟩
theorem eqv_bools : ∀ l l' : List Bool, PyData.eqvAll (l.map PyData.bool) (l'.map PyData.bool) = decide (l = l')
  | [], [] => rfl
  | [], _ :: _ => rfl
  | _ :: _, [] => rfl
  | a :: l, b :: l' => by
    show ((a == b) && PyData.eqvAll (l.map PyData.bool) (l'.map PyData.bool)) = _
    rw [eqv_bools l l', Bool.eq_iff_iff, Bool.and_eq_true, decide_eq_true_eq, decide_eq_true_eq, beq_iff_eq, List.cons.injEq]
/-! ### lots -/
def LF3 (z : Str) (t : Addr) (sv : V) : List (Str × V) := [(("word" : Str), .str z), (("makers" : Str), .ref t), (("_sums" : Str), sv)]
theorem lf_1 {z : Str} {t : Addr} {sv : V} : putF "_sums" sv (putF "makers" (.ref t) (putF "word" (.str z) [])) = LF3 z t sv := by
  have h1 : ¬ (("word" : Str) = "makers") := by decide +kernel
  have h2 : ¬ (("word" : Str) = "_sums") := by decide +kernel
  have h3 : ¬ (("makers" : Str) = "_sums") := by decide +kernel
  simp only [putF, if_neg h1, if_neg h2, if_neg h3, LF3]
theorem lf_2 {z : Str} {t t' : Addr} {sv sv' : V} : putF "makers" (.ref t') (putF "_sums" sv' (LF3 z t sv)) = LF3 z t' sv' := by
  have h1 : ¬ (("word" : Str) = "makers") := by decide +kernel
  have h2 : ¬ (("word" : Str) = "_sums") := by decide +kernel
  have h3 : ¬ (("makers" : Str) = "_sums") := by decide +kernel
  simp only [putF, if_neg h1, if_neg h2, if_neg h3, LF3, if_true]
theorem lf_word {z : Str} {t : Addr} {sv : V} : (LF3 z t sv).lookup ("word" : Str) = some (.str z) := rfl
theorem lf_makers {z : Str} {t : Addr} {sv : V} : (LF3 z t sv).lookup ("makers" : Str) = some (.ref t) := rfl
theorem lf_sums {z : Str} {t : Addr} {sv : V} : (LF3 z t sv).lookup ("_sums" : Str) = some sv := rfl
theorem lf_take {z : Str} {t : Addr} {sv : V} : (LF3 z t sv).lookup ("_take" : Str) = none := rfl
theorem lf_has {z : Str} {t : Addr} {sv : V} : (LF3 z t sv).lookup ("has" : Str) = none := rfl
theorem sfull_makers {la tk : Addr} {g far : Nat} : (SFull la tk g far).lookup ("makers" : Str) = some (.ref tk) := rfl
theorem sfull_least {la tk : Addr} {g far : Nat} : (SFull la tk g far).lookup ("_least" : Str) = some (.ref la) := rfl
theorem sfull_step {la tk : Addr} {g far : Nat} : (SFull la tk g far).lookup ("step" : Str) = some (nI g) := rfl
theorem sfull_far {la tk : Addr} {g far : Nat} : (SFull la tk g far).lookup ("far" : Str) = some (nI far) := rfl
theorem sfull_has {la tk : Addr} {g far : Nat} : (SFull la tk g far).lookup ("has" : Str) = none := rfl
/-- a lot: its word, its makers as told, the makers that are kept at t -/
inductive LotAt (CL CS : Addr) (H : Hp) (x : Addr) (z : Str) (M : List Nat) (t : Addr) (kept : List Nat) : Prop
  | plain (dx : Addr) (n : z ≠ "more") (ob : H x = some (.ins CL dx (LF3 z t .non))) (mk : H t = some (.tup [])) (k0 : kept = []) (m0 : M = [])
  | more (dx s la a : Addr) (L : Nat → Option Nat) (far : Nat) (n : z = "more") (ob : H x = some (.ins CL dx (LF3 z t (.ref s)))) (so : SumOb CS H s t M la a L kept far) (p : ∀ m ∈ M, 1 ≤ m ∧ m ≤ 1000000) (M0 : 0 < M.length)
theorem LotAt.same {CL CS : Addr} {H H' : Hp} {x : Addr} {z : Str} {M : List Nat} {t : Addr} {kept : List Nat} (h : LotAt CL CS H x z M t kept) (e : Same H H') : LotAt CL CS H' x z M t kept := by
  cases h with
  | plain dx n ob mk k0 m0 => exact .plain dx n (e _ _ ob) (e _ _ mk) k0 m0
  | more dx s la a L far n ob so p M0 => exact .more dx s la a L far n (e _ _ ob) (so.same e) p M0
theorem LotAt.fields {CL CS : Addr} {H : Hp} {x : Addr} {z : Str} {M : List Nat} {t : Addr} {kept : List Nat} (h : LotAt CL CS H x z M t kept) : ∃ dx sv, H x = some (.ins CL dx (LF3 z t sv)) ∧ H t = some (.tup (kept.map nI)) := by
  cases h with
  | plain dx n ob mk k0 m0 => exact ⟨dx, _, ob, by rw [k0]; exact mk⟩
  | more dx s la a L far n ob so p M0 => exact ⟨dx, _, ob, so.mkr⟩
/-- whether the lot holds a number -/
noncomputable def flagOf (z : Str) (M : List Nat) (n : Nat) : Bool := if z = "free" then true else if z = "more" then decide (1 ≤ n) && smB M (n - 1) else if z = "loan" then decide (n ≤ 1) else decide (n = 1)
theorem SumOb.has {CS : Addr} {H : Hp} {s tk : Addr} {M : List Nat} {la : Addr} {a : Nat} {L : Nat → Option Nat} {kept : List Nat} {far : Nat} (h : SumOb CS H s tk M la a L kept far) (n : Nat) : hasB a L n = smB M n := by
  rw [Bool.eq_iff_iff, h.ok.has, smB_iff, h.kp.same]
theorem SumOb.hasN {CS : Addr} {H : Hp} {s tk : Addr} {M : List Nat} {la : Addr} {a : Nat} {L : Nat → Option Nat} {kept : List Nat} {far : Nat} (h : SumOb CS H s tk M la a L kept far) (n : Nat) : hasZ a L ((n : Int) - 1) = (decide (1 ≤ n) && smB M (n - 1)) := by
  cases n with
  | zero =>
    show hasZ a L (-1) = false
    unfold hasZ
    cases L ((-1 : Int) % (a : Int)).toNat with
    | none => rfl
    | some v => exact decide_eq_false (by omega)
  | succ n =>
    rw [show ((n + 1 : Nat) : Int) - 1 = (n : Int) by omega, hasZ_nat, h.has]
    simp
/-- what the written part says of Lot -/
structure LotT (K : PySem.W.Frag) (mg : Str → Option Value) (CL aW fE : Addr) : Prop where
  cl : Cls K CL
  nW : NoAttr K CL "word"
  nM : NoAttr K CL "makers"
  nS : NoAttr K CL "_sums"
  mgL : mg "Lot" = some (.ref CL)
  mgW : mg "WORDS" = some (.ref aW)
  words : ∀ H : Hp, SqT K H aW [.str "once", .str "loan", .str "free", .str "more"]
  ha : PySem.W.findIn K (.ref CL) "__class__" = some (some (.builtin "object.__class__"))
  cg : PySem.W.specialIn K (.builtin "object.__class__") "__get__" = some (some (.builtin "getset_descriptor.__get__"))
  cTk : PySem.W.takesIn K (.builtin "object.__class__") = some true
  ow : OwnE K CL fE
def spTake (CL CS : Addr) : Sp := fun vs H Q _ => ∃ (x s dx dy t tk la : Addr) (z : Str) (g far : Nat), vs = [.ref x, .ref s] ∧ H x = some (.ins CL dx (LF3 z t .non)) ∧ H s = some (.ins CS dy (SFull la tk g far)) ∧ x ≠ s ∧
  ∀ H', (∀ b, b ≠ x → H' b = H b) → H' x = some (.ins CL dx (LF3 z tk (.ref s))) → Q .non H'
noncomputable def lotHasZ (z : Str) (M : List Nat) (n : Nat) : Bool := flagOf z M n
noncomputable def spLHas (CL CS : Addr) : Sp := fun vs H Q _ => ∃ (x : Addr) (n : Nat) (z : Str) (M : List Nat) (t : Addr) (kept : List Nat), vs = [.ref x, .int (n : Int)] ∧ LotAt CL CS H x z M t kept ∧ words.contains z = true ∧ Q (.bl (flagOf z M n)) H
section
variable {P : Program} {w : World} {K : PySem.W.Frag} {mg : Str → Option Value} {base : Heap} {CL CS aW fE : Addr}
theorem scTake : FnScope ["self", "sums"] ["self", "sums"] (defScope sTake) := ⟨rfl, rfl, rfl, by decide +kernel, rfl, by decide +kernel, by decide +kernel⟩
theorem ok_take {f : Addr} {fd : FuncData} (F : Fun K "_take" "Lot._take" sTake f fd) (L : LotT K mg CL aW fE) (S : SumT K CS) : FnOk P w K mg base CX0 1 f fd ["self", "sums"] (spTake CL CS) := by
  refine F.ok scTake (fun vs H Q E h => ?_) (fun cdv A outer s H vs Q E hr h => ?_)
  · obtain ⟨_, _, _, _, _, _, _, _, _, _, rfl, _⟩ := h
    rfl
  · obtain ⟨x, s, dx, dy, t, tk, la, z, g, far, rfl, hx, hs, xs, k⟩ := h
    refine ⟨_, pss_cons (ps_fld (pv 0) (pv 1) rfl) (pss_one (ps_fld (pv 0) (pe_fld (pv 1) rfl) rfl)), ?_⟩
    refine ⟨_, rfl, _, rfl, x, CL, dx, _, rfl, hx, L.cl, L.nS, (by show 3 < 1000; decide), ?_⟩
    refine ⟨_, rfl, s, CS, dy, _, _, rfl, (by rw [upd_ne xs.symm]; exact hs), S.cl, S.nM, sfull_makers, _, rfl, x, CL, dx, _, rfl, upd_same, L.cl, L.nM, (by have e : (putF "_sums" (.ref s) (LF3 z t .non)).length ≤ 4 := length_putF _ _ _; omega), ?_⟩
    rw [lf_2]
    exact k _ (fun b hb => by rw [upd_ne hb, upd_ne hb]) upd_same
theorem scLHas : FnScope ["self", "number"] ["self", "number"] (defScope sLHas) := ⟨rfl, rfl, rfl, by decide +kernel, rfl, by decide +kernel, by decide +kernel⟩
theorem ok_lhas {f fH : Addr} {fd fdH : FuncData} (F : Fun K "has" "Lot.has" sLHas f fd) (FH : Fun K "has" "Sums.has" sSHas fH fdH) (bH : Binds K fdH ["self", "number"] []) (mH : Meth K CS "has" fH) (T : TxB mg) (L : LotT K mg CL aW fE) (S : SumT K CS) : FnOk P w K mg base CX0 2 f fd ["self", "number"] (spLHas CL CS) := by
  have GH : FnOk P w K mg base CX0 1 fH fdH ["self", "number"] (spSHas CS) := ok_shas FH T S
  refine F.ok scLHas (fun vs H Q E h => ?_) (fun cdv A outer s H vs Q E hr h => ?_)
  · obtain ⟨_, _, _, _, _, _, rfl, _⟩ := h
    rfl
  · obtain ⟨x, n, z, M, t, kept, rfl, hl, hz, k⟩ := h
    refine ⟨_, pss_cons (ps_if (pt_cmpR op_eq (pe_fld (pv 0) rfl) pe_str (nomark _)) (pss_one (ps_ret pe_bl)) pss_nil)
      (pss_cons (ps_if (pt_cmpR op_eq (pe_fld (pv 0) rfl) pe_str (nomark _)) (pss_one (ps_ret (pe_meth (pe_fld (pv 0) rfl) S.cl mH GH hr bH .nil pass0 (pa_cons (pe_op op_sub (pv 1) pe_int) pa_nil)))) pss_nil)
      (pss_cons (ps_if (pt_cmpR op_eq (pe_fld (pv 0) rfl) pe_str (nomark _)) (pss_one (ps_ret (pe_cmpR op_le (pv 1) pe_int (nomark _)))) pss_nil)
      (pss_one (ps_ret (pe_cmpR op_eq (pv 1) pe_int (nomark _)))))), ?_⟩
    obtain ⟨dx, sv, ob, _⟩ := hl.fields
    unfold flagOf at k
    refine ⟨_, rfl, x, CL, dx, _, _, rfl, ob, L.cl, L.nW, lf_word, rfl, _, rfl, ?_⟩
    refine ite2 (fun c => ?_) (fun c => ?_)
    · have c2 : z = "free" := V.str.inj (of_decide_eq_true c)
      rw [if_pos c2] at k
      exact k
    · have c2 : z ≠ "free" := fun e => c (decide_eq_true (by rw [e]))
      rw [if_neg c2] at k
      refine ⟨_, rfl, x, CL, dx, _, _, rfl, ob, L.cl, L.nW, lf_word, rfl, _, rfl, ?_⟩
      refine ite2 (fun d => ?_) (fun d => ?_)
      · have d2 : z = "more" := V.str.inj (of_decide_eq_true d)
        rw [if_pos d2] at k
        cases hl with
        | plain dx n ob mk k0 m0 => exact absurd d2 n
        | more dx' s la a L' far n' ob' so p M0 =>
          obtain ⟨dy, hs⟩ := so.ob
          refine ⟨_, rfl, x, CL, dx', _, _, rfl, ob', L.cl, L.nS, lf_sums, s, dy, _, rfl, hs, sfull_has, _, rfl, _, _, rfl, rfl, s, la, a, L', (n : Int) - 1, rfl, ⟨⟨dy, _, hs, sfull_least⟩, so.ls⟩, so.ok.pos, ?_⟩
          rw [so.hasN]
          exact k
      · have d2 : z ≠ "more" := fun e => d (decide_eq_true (by rw [e]))
        rw [if_neg d2] at k
        refine ⟨_, rfl, x, CL, dx, _, _, rfl, ob, L.cl, L.nW, lf_word, rfl, _, rfl, ?_⟩
        refine ite2 (fun e => ?_) (fun e => ?_)
        · have e2 : z = "loan" := V.str.inj (of_decide_eq_true e)
          rw [if_pos e2] at k
          refine ⟨_, rfl, _, _, rfl, rfl, ?_⟩
          have q : decide ((n : Int) ≤ 1) = decide (n ≤ 1) := by rw [Bool.eq_iff_iff, decide_eq_true_eq, decide_eq_true_eq]; omega
          show Q (.bl (decide ((n : Int) ≤ 1))) H
          rw [q]
          exact k
        · have e2 : z ≠ "loan" := fun q => e (decide_eq_true (by rw [q]))
          rw [if_neg e2] at k
          refine ⟨_, rfl, rfl, ?_⟩
          have q : decide (V.int (n : Int) = V.int 1) = decide (n = 1) := by
            rw [Bool.eq_iff_iff]; rw [decide_eq_true_eq, decide_eq_true_eq]
            exact ⟨fun h => by have := V.int.inj h; omega, fun h => by rw [h]; rfl⟩
          show Q (.bl (decide (V.int (n : Int) = V.int 1))) H
          rw [q]
          exact k
end
end K02

set_option Elab.async false
set_option linter.all false
set_option maxRecDepth 100000
set_option maxHeartbeats 2000000
namespace K02
open PySem L2
theorem WdAt.ty {K : PySem.W.Frag} {H : Hp} {o : Option Str} {v : V} (h : WdAt K H o v) : ∃ tv, TyX K H v tv ∧ PySem.W.kitOne K tv (.type "str") = some o.isSome := by
  cases o with
  | some z =>
    have e : v = .str z := h
    subst e
    exact ⟨_, .base (.str z), kit_ty (r := true) (by decide +kernel)⟩
  | none => exact h
theorem inV_words (z : Str) : inV (.str z) [V.str "once", .str "loan", .str "free", .str "more"] = words.contains z := by
  have e : ∀ a : Str, eqV (.str a) (.str z) = (z == a) := fun a => by
    have : eqV (.str a) (.str z) = (a == z) := rfl
    rw [this, Bool.eq_iff_iff, beq_iff_eq, beq_iff_eq]
    exact ⟨fun h => h.symm, fun h => h.symm⟩
  show (eqV (.str "once") (.str z) || (eqV (.str "loan") (.str z) || (eqV (.str "free") (.str z) || (eqV (.str "more") (.str z) || false)))) = _
  rw [e, e, e, e]
  simp only [words, List.contains, List.elem]
  cases (z == ("once" : Str)) <;> cases (z == ("loan" : Str)) <;> cases (z == ("free" : Str)) <;> cases (z == ("more" : Str)) <;> rfl
theorem mk_nats {z : Str} {os : List (Option Int)} (h : mkOk z (some os) = true) : ∃ M : List Nat, os = M.map (fun m : Nat => some (m : Int)) ∧ (z ≠ "more" → M = []) ∧ (z = "more" → 0 < M.length ∧ M.length ≤ 4 ∧ ∀ m ∈ M, 1 ≤ m ∧ m ≤ 12) := by
  by_cases c : z = "more"
  · subst c
    rw [mkOk_more, Bool.and_eq_true, Bool.and_eq_true, decide_eq_true_eq, decide_eq_true_eq, List.all_eq_true] at h
    obtain ⟨⟨h1, h2⟩, h3⟩ := h
    have key : ∀ os : List (Option Int), (∀ o ∈ os, itOk o = true) → ∃ M : List Nat, os = M.map (fun m : Nat => some (m : Int)) ∧ ∀ m ∈ M, 1 ≤ m ∧ m ≤ 12 := by
      intro os
      induction os with
      | nil => intro _; exact ⟨[], rfl, fun m hm => by cases hm⟩
      | cons o os ih =>
        intro h
        obtain ⟨M, e, hM⟩ := ih fun o ho => h o (List.mem_cons_of_mem _ ho)
        have ho := h o List.mem_cons_self
        cases o with
        | none => cases ho
        | some i =>
          have ho' : (decide (1 ≤ i) && decide (i ≤ 12)) = true := ho
          rw [Bool.and_eq_true, decide_eq_true_eq, decide_eq_true_eq] at ho'
          refine ⟨i.toNat :: M, ?_, fun m hm => ?_⟩
          · rw [e, List.map_cons, Int.toNat_of_nonneg (by omega)]
          · obtain e | hm := List.mem_cons.mp hm
            · omega
            · exact hM m hm
    obtain ⟨M, e, hM⟩ := key os h3
    subst e
    rw [List.length_map] at h1 h2
    exact ⟨M, rfl, fun z => absurd rfl z, fun _ => ⟨h1, h2, hM⟩⟩
  · rw [mkOk_else c, decide_eq_true_eq] at h
    have : os = [] := List.eq_nil_of_length_eq_zero h
    exact ⟨[], this, fun _ => rfl, fun z => absurd z c⟩
theorem nats_at {K : PySem.W.Frag} {H : Hp} {M : List Nat} {v : V} (h : MkAt K H (some (M.map fun m : Nat => some (m : Int))) v) : ∃ a, v = .ref a ∧ SqT K H a (M.map nI) := by
  obtain ⟨a, ys, e, t, l, _, k⟩ := h
  refine ⟨a, e, ?_⟩
  rw [List.length_map] at l
  have : ys = M.map nI := by
    refine List.ext_getElem? fun i => ?_
    by_cases c : i < M.length
    · have h1 : (M.map fun m : Nat => some (m : Int))[i]? = some (some ((M[i] : Nat) : Int)) := by rw [List.getElem?_map, List.getElem?_eq_getElem c]; rfl
      have h2 : ys[i]? = some (ys[i]'(by omega)) := List.getElem?_eq_getElem (by omega)
      have := k i _ _ h1 h2
      rw [h2, show ys[i]'(by omega) = .int ((M[i] : Nat) : Int) from this, List.getElem?_map, List.getElem?_eq_getElem c]
      rfl
    · rw [List.getElem?_eq_none (by omega), List.getElem?_eq_none (by rw [List.length_map]; omega)]
  rw [← this]; exact t
theorem sqt_upd {K : PySem.W.Frag} {H : Hp} {t x : Addr} {xs : List V} {C dx : Addr} {fs : List (Str × V)} {o : HO} (h : SqT K H t xs) (hx : H x = some (.ins C dx fs)) : SqT K (upd H x o) t xs := by
  rcases h with h | h
  · refine .inl ?_
    rcases h with h | ⟨u, h⟩
    · refine .inl ?_
      rw [upd_ne (ne_of h hx (fun z => by cases z))]; exact h
    · refine .inr ⟨u, ?_⟩
      rw [upd_ne (ne_of h hx (fun z => by cases z))]; exact h
  · exact .inr h
def partO (part : Str) : HO := .xd [(("part" : Str), .str part)]
def spLInit (K : PySem.W.Frag) (CL CS CB : Addr) : Sp := fun vs H Q E => ∃ (x dx : Addr) (vw vm : V) (wd : Option Str) (mk : Option (List (Option Int))), vs = [.ref x, vw, vm] ∧ H x = some (.ins CL dx []) ∧ WdAt K H wd vw ∧ MkAt K H mk vm ∧
  (duePart wd mk = none → ∀ H' z M t kept, wd = some z → mk = some (M.map fun m : Nat => some (m : Int)) → (∀ b o, b ≠ x → H b = some o → H' b = some o) → LotAt CL CS H' x z M t kept → Q .non H') ∧
  (∀ part, duePart wd mk = some part → ∀ d H', Same H H' → H d = none → H' d = some (partO part) → E (.ref CB) (some d) H')
/-- what the written part says of the making of Sums -/
structure SumsF (K : PySem.W.Frag) (mg : Str → Option Value) (CS fS fH fW fR : Addr) (fdS fdH fdW fdR : FuncData) : Prop where
  M : Mk K CS fS
  m : mg "Sums" = some (.ref CS)
  F : Fun K "__init__" "Sums.__init__" sSInit fS fdS
  b : Binds K fdS ["self", "numbers"] []
  FH : Fun K "has" "Sums.has" sSHas fH fdH
  bH : Binds K fdH ["self", "number"] []
  mH : Meth K CS "has" fH
  FW : Fun K "_widen" "Sums._widen" sSWiden fW fdW
  bW : Binds K fdW ["self", "maker"] []
  mW : Meth K CS "_widen" fW
  FR : Fun K "_go_round" "Sums._go_round" sSRound fR fdR
  bR : Binds K fdR ["self", "start", "maker", "length"] []
  mR : Meth K CS "_go_round" fR
  S : SumT K CS
section
variable {P : Program} {w : World} {K : PySem.W.Frag} {mg : Str → Option Value} {base : Heap} {CL CS aW fE CB fB : Addr} {fdB : FuncData}
theorem scLI : FnScope ["self", "word", "makers"] ["self", "word", "makers"] (defScope sLInit) := ⟨rfl, rfl, rfl, by decide +kernel, rfl, by decide +kernel, by decide +kernel⟩
/-- what raises BadLot leaves -/
theorem bad_left {H : Hp} {a d CB : Addr} {part : Str} (ha : H a = none) (hd : H d = none) (hda : d ≠ a) : Same H (upd (del (upd (upd (upd H a (exo a CB none)) d (exd d [(("part" : Str), V.str part)])) a (exo a CB (some d))) a) d (partO part)) := fun b o e => by
  have h1 : b ≠ a := ne_of_none e ha
  have h2 : b ≠ d := ne_of_none e hd
  rw [upd_ne h2, del_ne h1, upd_ne h1, upd_ne h2, upd_ne h1]
  exact e
theorem ok_linit {f fM f2 f1 fT fS fH fW fR fL : Addr} {fd fdM fd2 fd1 fdT fdS fdH fdW fdR fdL : FuncData} (F : Fun K "__init__" "Lot.__init__" sLInit f fd) (T : TxB mg) (T2 : TxD mg) (TN : TxN mg) (L : LotT K mg CL aW fE)
    (NM : Fn K mg "_is_makers" sMk ["word", "thing"] fM fdM) (N2 : Fn K mg "is_integer_within" sWithin ["low", "high", "thing"] f2 fd2) (N1 : Fn K mg "is_integer" sInteger ["thing"] f1 fd1)
    (FT : Fun K "_take" "Lot._take" sTake fT fdT) (bT : Binds K fdT ["self", "sums"] []) (mT : Meth K CL "_take" fT) (SF : SumsF K mg CS fS fH fW fR fdS fdH fdW fdR) (NL : Fn K mg "_lesser" sLesser ["total", "other"] fL fdL)
    (B : BadT K mg CB fB fdB) : FnOk P w K mg base (L2.CX P w) 6 f fd ["self", "word", "makers"] (spLInit K CL CS CB) := by
  have GM : FnOk P w K mg base CX0 3 fM fdM ["word", "thing"] (spMk K) := ok_mk NM N2 N1 T T2 TN
  have GT : FnOk P w K mg base CX0 1 fT fdT ["self", "sums"] (spTake CL CS) := ok_take FT L SF.S
  have GS : FnOk P w K mg base CX0 4 fS fdS ["self", "numbers"] (spSInit K CS) := ok_sinit SF.F SF.FH SF.bH SF.mH SF.FW SF.bW SF.mW SF.FR SF.bR SF.mR NL T T2 SF.S
  refine F.okX scLI (fun vs H Q E h => ?_) (fun cdv A outer s H vs Q E hr h => ?_)
  · obtain ⟨x, dx, vw, vm, wd, mk, rfl, _⟩ := h
    rfl
  · obtain ⟨x, dx, vw, vm, wd, mk, rfl, hx, hw, hm, kq, ke⟩ := h
    have hu := hu_of hr
    have hr1 := hr.mono (show 1 ≤ 5 by decide)
    have hr2 := hr.mono (show 1 + 1 ≤ 5 by decide)
    have hr3 := hr.mono (show 3 ≤ 5 by decide)
    refine ⟨_, pss_cons (ps_if (PW.pt (pw_or (pt_not (pt_val (pe_callB call_isi (by rfl) T.isinstance (by decide +kernel) (pa_cons (pv 1) (pa_cons (pe_bltn (v := .ty "str") (by rfl) T2.str (by decide +kernel) rfl) pa_nil)))))
        (pw_or1 (pt_cmpR op_notIn_seq (pv 1) (pe_glob (v := .ref aW) (by rfl) L.mgW rfl) (by rfl))))) (pss_one (ps_raise rfl (takes_of rfl rfl rfl rfl) (pmk_oex B.err.ox B.i B.t (ok_bad B.F B.err.ox B.no) hr2 B.b .nil pass0 (by rfl) B.m (pa_cons pe_str pa_nil)))) pss_nil)
      (pss_cons (ps_if (pt_not (pt_val (pe_call GM hr3 (by rfl) NM.m NM.F.kp NM.b .nil pass0 (pa_cons (pv 1) (pa_cons (pv 2) pa_nil))))) (pss_one (ps_raise rfl (takes_of rfl rfl rfl rfl) (pmk_oex B.err.ox B.i B.t (ok_bad B.F B.err.ox B.no) hr2 B.b .nil pass0 (by rfl) B.m (pa_cons pe_str pa_nil)))) pss_nil)
      (pss_cons (ps_fld (pv 0) (pv 1) rfl)
      (pss_cons (ps_fld (pv 0) (pe_tup pa_nil) rfl)
      (pss_cons (ps_fld (pv 0) pe_non rfl)
      (pss_one (ps_if (pt_cmpR op_eq (pv 1) pe_str (nomark _)) (pss_one (ps_expr (pe_meth (pv 0) L.cl mT GT hr1 bT .nil pass0 (pa_cons (pe_make SF.M GS hr (by rfl) SF.m SF.b .nil pass0 (pa_cons (pv 2) pa_nil)) pa_nil)))) pss_nil)))))), ?_⟩
    have wordBad : ∀ {vs : St}, duePart wd mk = some "word" → ∀ a, H a = none → spBad K CB [.ref a, .str "word"] (upd H a (exo a CB none)) (fun v H2 => v = .non ∧ ∃ (d : Addr) (fs : List (Str × V)), H2 a = some (exo a CB (some d)) ∧ H2 d = some (exd d fs) ∧ H d = none ∧ E (.ref CB) (some d) (upd (del H2 a) d (.xd fs))) (fun _ _ _ => False) := by
      intro _ hdue a ha
      refine ⟨a, _, rfl, upd_same, fun d hd hda => ⟨rfl, d, _, upd_same, (by rw [upd_ne hda, upd_same]), ?_, ?_⟩⟩
      · rw [upd_ne hda] at hd; exact hd
      · rw [upd_ne hda] at hd
        exact ke "word" hdue d _ (bad_left ha hd hda) hd upd_same
    obtain ⟨tv, ty, kt⟩ := hw.ty
    refine ⟨_, rfl, _, _, _, _, _, rfl, .ty _, ty, kt, _, rfl, ?_⟩
    cases wd with
    | none =>
      refine ifT rfl ?_
      refine ifT rfl ?_
      exact ⟨(by show 1 ≤ 1000; decide), wordBad (vs := []) rfl⟩
    | some z =>
      refine ifF rfl ?_
      obtain rfl : vw = .str z := hw
      refine ⟨_, rfl, aW, _, rfl, .inr (L.words H), rfl, rfl, _, rfl, ?_⟩
      rw [inV_words]
      refine ite2 (fun c => ?_) (fun c => ?_)
      · have c2 : ¬ words.contains z = true := by simpa using c
        exact ⟨(by show 1 ≤ 1000; decide), wordBad (vs := []) (if_neg c2)⟩
      · have c2 : words.contains z = true := by simpa using c
        have edue : duePart (some z) mk = if mkOk z mk = true then none else some ("makers" : Str) := if_pos c2
        refine ⟨_, rfl, _, rfl, z, vm, mk, rfl, hm, fun H1 s1 => ?_⟩
        refine ⟨_, rfl, ?_⟩
        refine ite2 (fun d => ?_) (fun d => ?_)
        · have d2 : ¬ mkOk z mk = true := by simpa using d
          refine ⟨(by show 1 ≤ 1000; decide), fun a ha => ⟨a, _, rfl, upd_same, fun d hd hda => ⟨rfl, d, _, upd_same, (by rw [upd_ne hda, upd_same]), ?_, ?_⟩⟩⟩
          · rw [upd_ne hda] at hd; exact hd
          · rw [upd_ne hda] at hd
            exact ke "makers" (by rw [edue, if_neg d2]) d _ (same_trans s1 (bad_left ha hd hda)) (same_none s1 hd) upd_same
        · have d2 : mkOk z mk = true := by simpa using d
          rw [if_pos d2] at edue
          have kq' := kq edue
          clear kq ke wordBad
          cases mk with
          | none => cases d2
          | some os =>
          obtain ⟨M, rfl, m0, m1⟩ := mk_nats d2
          obtain ⟨am, rfl, htm⟩ := nats_at (hm.same s1)
          have hx1 := s1 _ _ hx
          refine ⟨_, rfl, _, rfl, x, CL, dx, _, rfl, hx1, L.cl, L.nW, (by show 0 < 1000; decide), ?_⟩
          refine ⟨(by show 0 ≤ sizeLine; decide), fun t ht => ?_⟩
          have xt : x ≠ t := ne_of_none upd_same ht
          have x2 : upd (upd H1 x (.ins CL dx (putF "word" (.str z) []))) t (.tup []) x = some (.ins CL dx (putF "word" (.str z) [])) := by rw [upd_ne xt, upd_same]
          have off2 : ∀ b o, b ≠ x → H b = some o → upd (upd H1 x (.ins CL dx (putF "word" (.str z) []))) t (.tup []) b = some o := fun b o hb e => by
            have e1 := s1 _ _ e
            have e2 : upd H1 x (.ins CL dx (putF "word" (.str z) [])) b = some o := by rw [upd_ne hb]; exact e1
            rw [upd_ne (ne_of_none e2 ht)]; exact e2
          have t2 : upd (upd H1 x (.ins CL dx (putF "word" (.str z) []))) t (.tup []) t = some (.tup []) := upd_same
          have m2 : SqT K (upd (upd H1 x (.ins CL dx (putF "word" (.str z) []))) t (.tup [])) am (M.map nI) := (sqt_upd htm hx1).ext fun b o e => by rw [upd_ne (ne_of_none e ht)]; exact e
          generalize upd (upd H1 x (.ins CL dx (putF "word" (.str z) []))) t (.tup []) = G2 at *
          refine ⟨_, rfl, x, CL, dx, _, rfl, x2, L.cl, L.nM, (by show 1 < 1000; decide), ?_⟩
          refine ⟨_, rfl, x, CL, dx, _, rfl, upd_same, L.cl, L.nS, (by have e : (putF "makers" (V.ref t) (putF "word" (V.str z) [])).length ≤ 2 := length_putF _ _ _; omega), ?_⟩
          rw [lf_1]
          have x3 : upd (upd G2 x (.ins CL dx (putF "makers" (.ref t) (putF "word" (.str z) [])))) x (.ins CL dx (LF3 z t .non)) x = some (.ins CL dx (LF3 z t .non)) := upd_same
          have off3 : ∀ b o, b ≠ x → G2 b = some o → upd (upd G2 x (.ins CL dx (putF "makers" (.ref t) (putF "word" (.str z) [])))) x (.ins CL dx (LF3 z t .non)) b = some o := fun b o hb e => by rw [upd_ne hb, upd_ne hb]; exact e
          have m3 : SqT K (upd (upd G2 x (.ins CL dx (putF "makers" (.ref t) (putF "word" (.str z) [])))) x (.ins CL dx (LF3 z t .non))) am (M.map nI) := sqt_upd (sqt_upd m2 x2) upd_same
          generalize upd (upd G2 x (.ins CL dx (putF "makers" (.ref t) (putF "word" (.str z) [])))) x (.ins CL dx (LF3 z t .non)) = G3 at *
          have t3 := off3 t _ xt.symm t2
          refine ⟨_, rfl, rfl, _, rfl, ?_⟩
          refine ite2 (fun e => ?_) (fun e => ?_)
          · have e2 : z = "more" := V.str.inj (of_decide_eq_true e)
            obtain ⟨n1, n4, hM⟩ := m1 e2
            refine ⟨_, rfl, x, dx, _, rfl, x3, lf_take, _, rfl, fun s ds ns nds nes => ?_⟩
            have xs : x ≠ s := ne_of_none x3 ns
            have xds : x ≠ ds := ne_of_none x3 nds
            have m4 : SqT K (upd (upd G3 ds (.own s)) s (.ins CS ds [])) am (M.map nI) := m3.ext fun b o e => by rw [upd_ne (ne_of_none e ns), upd_ne (ne_of_none e nds)]; exact e
            refine ⟨s, am, ds, M, rfl, upd_same, .inl m4, n1, by omega, fun m hm => ⟨(hM m hm).1, by have := (hM m hm).2; omega⟩, fun H5 tk la a L' kept far off5 so => ⟨rfl, ?_⟩⟩
            have x5 : H5 x = some (.ins CL dx (LF3 z t .non)) := off5 _ _ xs (by rw [upd_ne xs, upd_ne xds]; exact x3)
            obtain ⟨dy, hs⟩ := so.ob
            refine ⟨x, s, dx, dy, t, tk, la, z, gcdL kept, far, rfl, x5, hs, xs, fun H6 off6 x6 => ?_⟩
            have nla : la ≠ x := ne_of so.ls x5 (fun z => by cases z)
            have ntk : tk ≠ x := ne_of so.mkr x5 (fun z => by cases z)
            have so6 : SumOb CS H6 s tk M la a L' kept far := ⟨⟨dy, by rw [off6 s xs.symm]; exact hs⟩, by rw [off6 la nla]; exact so.ls, by rw [off6 tk ntk]; exact so.mkr, so.ok, so.kp, so.ab, so.fr, so.fe⟩
            refine kq' H6 z M tk kept rfl rfl (fun b o hb e => ?_) (.more dx s la a L' far e2 x6 so6 (fun m hm => ⟨(hM m hm).1, by have := (hM m hm).2; omega⟩) n1)
            have e3 := off3 b o hb (off2 b o hb e)
            rw [off6 b hb]
            exact off5 _ _ (ne_of_none e3 ns) (by rw [upd_ne (ne_of_none e3 ns), upd_ne (ne_of_none e3 nds)]; exact e3)
          · have e2 : z ≠ "more" := fun q => e (decide_eq_true (by rw [q]))
            exact kq' G3 z M t [] rfl rfl (fun b o hb e => off3 b o hb (off2 b o hb e)) (.plain dx e2 x3 t3 rfl (m0 e2))
end
end K02

set_option Elab.async false
set_option linter.all false
set_option maxRecDepth 100000
set_option maxHeartbeats 2000000
namespace K02
open PySem L2
abbrev sHolds : Stmt := top 20
/-! ### the greatest number that divides all; what is missing -/
theorem dvd_foldl {d : Nat} : ∀ {M : List Nat} {g : Nat}, d ∣ g → (∀ m ∈ M, d ∣ m) → d ∣ M.foldl Nat.gcd g
  | [], g, h, _ => h
  | x :: M, g, h, hm => dvd_foldl (M := M) (g := Nat.gcd g x) (Nat.dvd_gcd h (hm x List.mem_cons_self)) fun m hm' => hm m (List.mem_cons_of_mem _ hm')
theorem dvd_gcdL {d : Nat} {M : List Nat} (h : ∀ m ∈ M, d ∣ m) : d ∣ gcdL M := dvd_foldl (Nat.dvd_zero d) h
theorem Kept.gcd {kept M : List Nat} (h : Kept kept M) : gcdL kept = gcdL M :=
  Nat.dvd_antisymm (dvd_gcdL fun m hm => sm_dvd (fun x hx => gcdL_dvd hx) (h.all m hm)) (dvd_gcdL fun m hm => gcdL_dvd (h.sub m hm))
theorem filter_range {p : Nat → Bool} {k : Nat} : ∀ {n : Nat}, k ≤ n → (∀ i, k ≤ i → p i = false) → (List.range n).filter p = (List.range k).filter p
  | 0, h, _ => by rw [show k = 0 by omega]
  | n + 1, h, hp => by
    by_cases c : k = n + 1
    · rw [c]
    · rw [List.range_succ, List.filter_append, filter_range (n := n) (by omega) hp, List.filter_cons_of_neg (by rw [hp n (by omega)]; exact Bool.false_ne_true)]
      show _ ++ [] = _
      rw [List.append_nil]
theorem SumOb.far_le {CS : Addr} {H : Hp} {s tk : Addr} {M : List Nat} {la : Addr} {a : Nat} {L : Nat → Option Nat} {kept : List Nat} {far : Nat} (h : SumOb CS H s tk M la a L kept far) (p : ∀ m ∈ M, 1 ≤ m ∧ m ≤ 12) : far ≤ 132 := by
  obtain ⟨k, hk, e⟩ := h.fe
  have := h.ok.small (B := 12) (fun m hm => (p m (h.kp.sub m hm)).1) (fun m hm => (p m (h.kp.sub m hm)).2) hk e
  have ha := (p a (h.kp.sub a h.ok.mem)).2
  have h2 : (a - 1) * 12 ≤ 11 * 12 := Nat.mul_le_mul_right _ (by omega)
  omega
theorem SumOb.above {CS : Addr} {H : Hp} {s tk : Addr} {M : List Nat} {la : Addr} {a : Nat} {L : Nat → Option Nat} {kept : List Nat} {far : Nat} (h : SumOb CS H s tk M la a L kept far) {n : Nat} (hn : far ≤ n) (hd : gcdL M ∣ n) : smB M n = true := by
  rw [smB_iff, ← h.kp.same]
  exact h.ok.far h.fr hn (by rw [h.kp.gcd]; exact hd)
noncomputable def missed (M : List Nat) (k : Nat) : List Nat := ((List.range k).filter fun n => !smB M n).map (· + 1)
theorem missed_succ {M : List Nat} {k : Nat} : missed M (k + 1) = missed M k ++ if smB M k = true then [] else [k + 1] := by
  unfold missed
  rw [List.range_succ, List.filter_append, List.map_append]
  congr 1
  cases h : smB M k with
  | true => rw [List.filter_cons_of_neg (by rw [h]; simp)]; rfl
  | false => rw [List.filter_cons_of_pos (by rw [h]; rfl)]; rfl
theorem missed_len {M : List Nat} {k : Nat} : (missed M k).length ≤ k := by
  unfold missed
  rw [List.length_map]
  have := List.length_filter_le (fun n => !smB M n) (List.range k)
  rwa [List.length_range] at this
/-- classes as isinstance asks them of a lot, and of what is none -/
structure LotK (K : PySem.W.Frag) (CL : Addr) : Prop where
  me : PySem.W.kitOne K (.ref CL) (.ref CL) = some true
  st : PySem.W.kitOne K (.type "str") (.ref CL) = some false
  tu : PySem.W.kitOne K (.type "tuple") (.ref CL) = some false
  no : PySem.W.kitOne K (.type "NoneType") (.ref CL) = some false
def spLEq (K : PySem.W.Frag) (CL CS : Addr) : Sp := fun vs H Q _ => ∃ (x : Addr) (y : V) (z : Str) (M : List Nat) (t : Addr) (kept : List Nat), vs = [.ref x, y] ∧ LotAt CL CS H x z M t kept ∧
  ((∃ (x' : Addr) (z' : Str) (M' : List Nat) (t' : Addr) (kept' : List Nat), y = .ref x' ∧ LotAt CL CS H x' z' M' t' kept' ∧ Q (.bl (decide (z = z') && decide (kept = kept'))) H) ∨ (OddV K H y ∧ Q (.bl false) H))
noncomputable def spHolds (CL CS : Addr) : Sp := fun vs H Q _ => ∃ (x : Addr) (n : Nat) (z : Str) (M : List Nat) (t : Addr) (kept : List Nat), vs = [.ref x, .int (n : Int)] ∧ n ≤ 10000 ∧ LotAt CL CS H x z M t kept ∧ words.contains z = true ∧ Q (.bl (flagOf z M n)) H
section
variable {P : Program} {w : World} {K : PySem.W.Frag} {mg : Str → Option Value} {base : Heap} {CL CS aW fE : Addr}
theorem scLEq : FnScope ["self", "other"] ["self", "other"] (defScope sLEq) := ⟨rfl, rfl, rfl, by decide +kernel, rfl, by decide +kernel, by decide +kernel⟩
theorem ok_leq {f : Addr} {fd : FuncData} (F : Fun K "__eq__" "Lot.__eq__" sLEq f fd) (T : TxB mg) (L : LotT K mg CL aW fE) (LK : LotK K CL) : FnOk P w K mg base CX0 1 f fd ["self", "other"] (spLEq K CL CS) := by
  refine F.ok scLEq (fun vs H Q E h => ?_) (fun cdv A outer s H vs Q E hr h => ?_)
  · obtain ⟨_, _, _, _, _, _, rfl, _⟩ := h
    rfl
  · obtain ⟨x, y, z, M, t, kept, rfl, hl, h⟩ := h
    refine ⟨_, pss_one (ps_ret (pe_and (pe_callB call_isi (by rfl) T.isinstance (by decide +kernel) (pa_cons (pv 1) (pa_cons (pe_glob (v := .ref CL) (by rfl) L.mgL rfl) pa_nil)))
      (pe_and (pe_cmpR op_eq (pe_fld (pv 0) rfl) (pe_fld (pv 1) rfl) (nomark _)) (pe_one (pe_cmpR (op_eqD hr.units) (pe_fld (pv 0) rfl) (pe_fld (pv 1) rfl) (nomark _)))))), ?_⟩
    obtain ⟨dx, sv, ob, mk⟩ := hl.fields
    rcases h with ⟨x', z', M', t', kept', rfl, hl', k⟩ | ⟨ho, k⟩
    · obtain ⟨dx', sv', ob', mk'⟩ := hl'.fields
      refine ⟨_, rfl, _, _, _, _, _, rfl, .own _, .base (.ins ob' L.cl L.ha L.cg L.cTk L.ow.ob), LK.me, _, rfl, ?_⟩
      refine iteT ?_
      refine ⟨_, rfl, x, CL, dx, _, _, rfl, ob, L.cl, L.nW, lf_word, _, rfl, x', CL, dx', _, _, rfl, ob', L.cl, L.nW, lf_word, rfl, _, rfl, ?_⟩
      have e1 : decide (V.str z = V.str z') = decide (z = z') := by
        rw [Bool.eq_iff_iff]; rw [decide_eq_true_eq, decide_eq_true_eq]
        exact ⟨fun h => V.str.inj h, fun h => by rw [h]⟩
      rw [e1]
      refine ite2 (fun c => ?_) (fun c => ?_)
      · refine ⟨_, rfl, x, CL, dx, _, _, rfl, ob, L.cl, L.nM, lf_makers, _, rfl, x', CL, dx', _, _, rfl, ob', L.cl, L.nM, lf_makers, ?_⟩
        refine ⟨_, _, .tup (SqT.of mk) (dp_nats kept), .tup (SqT.of mk') (dp_nats kept'), shaped_tup nats_flat, shaped_tup nats_flat, ?_⟩
        rw [c, Bool.true_and, ← eqv_nats kept kept'] at k
        exact k
      · rw [Bool.eq_false_iff.mpr c, Bool.false_and] at k
        exact k
    · obtain ⟨tv, ty, kt⟩ : ∃ tv, TyX K H y tv ∧ PySem.W.kitOne K tv (.ref CL) = some false := by
        rcases ho with ⟨u, rfl⟩ | rfl | ⟨a, xs, rfl, ha⟩
        · exact ⟨_, .base (.str u), LK.st⟩
        · exact ⟨_, .base .non, LK.no⟩
        · exact ⟨_, sqt_ty ha, LK.tu⟩
      refine ⟨_, rfl, _, _, _, _, _, rfl, .own _, ty, kt, _, rfl, ?_⟩
      exact iteF k
theorem scHolds : FnScope ["lot", "number"] ["lot", "number"] (defScope sHolds) := ⟨rfl, rfl, rfl, by decide +kernel, rfl, by decide +kernel, by decide +kernel⟩
theorem ok_holds {f f2 f1 fLH fH : Addr} {fd fd2 fd1 fdLH fdH : FuncData} (F : Fn K mg "holds" sHolds ["lot", "number"] f fd) (N2 : Fn K mg "is_integer_within" sWithin ["low", "high", "thing"] f2 fd2) (N1 : Fn K mg "is_integer" sInteger ["thing"] f1 fd1)
    (FL : Fun K "has" "Lot.has" sLHas fLH fdLH) (bL : Binds K fdLH ["self", "number"] []) (mL : Meth K CL "has" fLH) (FH : Fun K "has" "Sums.has" sSHas fH fdH) (bH : Binds K fdH ["self", "number"] []) (mH : Meth K CS "has" fH)
    (T : TxB mg) (T2 : TxD mg) (TN : TxN mg) (L : LotT K mg CL aW fE) (S : SumT K CS) : FnOk P w K mg base CX0 3 f fd ["lot", "number"] (spHolds CL CS) := by
  have G2 : FnOk P w K mg base CX0 2 f2 fd2 ["low", "high", "thing"] (spWithin K) := ok_within N2 N1 T T2
  have GL : FnOk P w K mg base CX0 2 fLH fdLH ["self", "number"] (spLHas CL CS) := ok_lhas FL FH bH mH T L S
  obtain ⟨u, hu⟩ := TN.num
  refine F.F.ok scHolds (fun vs H Q E h => ?_) (fun cdv A outer s H vs Q E hr h => ?_)
  · obtain ⟨_, _, _, _, _, _, rfl, _⟩ := h
    rfl
  · obtain ⟨x, n, z, M, t, kept, rfl, hn, hl, hz, k⟩ := h
    refine ⟨_, pss_cons (ps_if (pt_not (pt_val (pe_call G2 hr (by rfl) N2.m N2.F.kp N2.b .nil pass0 (pa_cons pe_int (pa_cons (pe_glob (v := .int 10000) (by rfl) hu ⟨_, rfl⟩) (pa_cons (pv 1) pa_nil)))))) (pss_one ps_never) pss_nil)
      (pss_one (ps_ret (pe_meth (pv 0) L.cl mL GL hr bL .nil pass0 (pa_cons (pv 1) pa_nil)))), ?_⟩
    refine ⟨_, rfl, 0, 10000, .int (n : Int), some (n : Int), rfl, rfl, _, rfl, ?_⟩
    have e : inB 0 10000 (some (n : Int)) = true := by
      show (decide ((0 : Int) ≤ n) && decide ((n : Int) ≤ 10000)) = true
      rw [decide_eq_true (by omega), decide_eq_true (by omega)]; rfl
    rw [e]
    refine ifF rfl ?_
    obtain ⟨dx, sv, ob, mk⟩ := hl.fields
    exact ⟨_, rfl, x, dx, _, rfl, ob, lf_has, _, rfl, x, n, z, M, t, kept, rfl, hl, hz, k⟩
end
end K02

set_option Elab.async false
set_option linter.all false
set_option maxRecDepth 100000
set_option maxHeartbeats 2000000
namespace K02
open PySem L2
abbrev sIs : Stmt := top 28
abbrev sDeep : Stmt := top 29
abbrev sFlag : Stmt := top 30
def fl : V → Bool
  | .non => true
  | .bl _ => true
  | .int _ => true
  | .str _ => true
  | _ => false
/-- two things that are the same through and through -/
def TrQ (H : Hp) : Nat → V → V → Prop
  | 0, _, _ => False
  | n + 1, u, v => (fl v = true ∧ u = v) ∨ ∃ (a' a : Addr) (xs' xs : List V), u = .ref a' ∧ v = .ref a ∧ ((H a' = some (.lst xs') ∧ H a = some (.lst xs)) ∨ (H a' = some (.tup xs') ∧ H a = some (.tup xs))) ∧ xs'.length = xs.length ∧ xs.length ≤ 1000 ∧
      ∀ (i : Nat) (x' x : V), xs'[i]? = some x' → xs[i]? = some x → TrQ H n x' x
theorem TrQ.same {H H' : Hp} (s : Same H H') : ∀ {n : Nat} {u v : V}, TrQ H n u v → TrQ H' n u v
  | 0, _, _, h => h
  | n + 1, u, v, h => by
    rcases h with h | ⟨a', a, xs', xs, rfl, rfl, h, h1, h2, h3⟩
    · exact .inl h
    · refine .inr ⟨a', a, xs', xs, rfl, rfl, ?_, h1, h2, fun i x' x e e' => (h3 i x' x e e').same s⟩
      rcases h with ⟨p, q⟩ | ⟨p, q⟩
      · exact .inl ⟨s _ _ p, s _ _ q⟩
      · exact .inr ⟨s _ _ p, s _ _ q⟩
theorem TrQ.up {H : Hp} : ∀ {n : Nat} {u v : V}, TrQ H n u v → TrQ H (n + 1) u v
  | 0, _, _, h => h.elim
  | n + 1, u, v, h => by
    rcases h with h | ⟨a', a, xs', xs, rfl, rfl, h, h1, h2, h3⟩
    · exact .inl h
    · exact .inr ⟨a', a, xs', xs, rfl, rfl, h, h1, h2, fun i x' x e e' => (h3 i x' x e e').up⟩
theorem TrQ.le {H : Hp} {n m : Nat} {u v : V} (h : TrQ H n u v) (l : n ≤ m) : TrQ H m u v := by
  induction l with
  | refl => exact h
  | step _ ih => exact ih.up
theorem trq_pair {H : Hp} {n : Nat} {a a' : Addr} {x y x' y' : V} (h' : H a' = some (.tup [x', y'])) (h : H a = some (.tup [x, y])) (hx : TrQ H n x' x) (hy : TrQ H n y' y) : TrQ H (n + 1) (.ref a') (.ref a) := by
  refine .inr ⟨a', a, _, _, rfl, rfl, .inr ⟨h', h⟩, rfl, (by show 2 ≤ 1000; decide), fun i u v e e' => ?_⟩
  match i, e, e' with
  | 0, e, e' => cases e; cases e'; exact hx
  | 1, e, e' => cases e; cases e'; exact hy
def spQ (K : PySem.W.Frag) (n : Nat) : Sp := fun vs H Q _ => ∃ u v : V, vs = [u, v] ∧ TrQ H n u v ∧ ∀ H', Same H H' → Q (.bl true) H'
theorem fl_ty {v : V} (h : fl v = true) : ∃ t : String, (∀ K H, TyX K H v (.type t)) ∧ kitB t "tuple" = some false ∧ kitB t "list" = some false ∧ kitB t "dict" = some false ∧ ∃ b, kitB t "bool" = some b := by
  cases v with
  | non => exact ⟨"NoneType", fun _ _ => .base .non, by decide +kernel, by decide +kernel, by decide +kernel, false, by decide +kernel⟩
  | bl b => exact ⟨"bool", fun _ _ => .base (.bl b), by decide +kernel, by decide +kernel, by decide +kernel, true, by decide +kernel⟩
  | int i => exact ⟨"int", fun _ _ => .base (.int i), by decide +kernel, by decide +kernel, by decide +kernel, false, by decide +kernel⟩
  | str x => exact ⟨"str", fun _ _ => .base (.str x), by decide +kernel, by decide +kernel, by decide +kernel, false, by decide +kernel⟩
  | byt b => cases h
  | flt b => cases h
  | ref a => cases h
  | ty n => cases h
theorem fl_scal {v : V} (h : fl v = true) : scal v v = true := by
  cases v <;> first | rfl | cases h
theorem seq_isF {K : PySem.W.Frag} {t : String} (h1 : kitB t "tuple" = some false) (h2 : kitB t "list" = some false) : PySem.W.kitAny K (.type t) [.type "tuple", .type "list"] = some false :=
  kitAny_cons (kit_ty h1) (fun _ => kitAny_cons (kit_ty h2) (fun _ => kitAny_nil) (fun z => nomatch z)) (fun z => nomatch z)
theorem seq_isT {K : PySem.W.Frag} {t : String} {a b : Bool} (h1 : kitB t "tuple" = some a) (h2 : kitB t "list" = some b) (e : (a || b) = true) : PySem.W.kitAny K (.type t) [.type "tuple", .type "list"] = some true :=
  kitAny_cons (kit_ty h1) (fun ha => kitAny_cons (kit_ty h2) (fun hb => by rw [ha, hb] at e; cases e) (fun _ => rfl)) (fun _ => rfl)
theorem rix_of {K : PySem.W.Frag} {H : Hp} {a : Addr} {xs : List V} {i : Nat} {v : V} {Q : VK} (h : H a = some (.lst xs) ∨ H a = some (.tup xs)) (hi : xs[i]? = some v) (q : Q v H) : rIx K (.ref a) (.int (0 + (i : Int))) H Q := by
  have e : atI xs (0 + (i : Int)) = some v := by rw [Int.zero_add]; exact atI_nat hi
  rcases h with h | h
  · exact .inl ⟨a, xs, _, v, rfl, rfl, SqL.of h, e, q⟩
  · exact .inr (.inl ⟨a, xs, _, v, rfl, rfl, SqT.of h, e, q⟩)
theorem valV_one {z : Str} {v : V} : valV [((Sum.inr z : Key), v)] (Sum.inr z) = some v := by
  simp [valV]
section
variable {P : Program} {w : World} {K : PySem.W.Frag} {mg : Str → Option Value} {base : Heap}
theorem scI : FnScope ["_law_told", "_law_due", "_law_k", "_law_key"] ["_law_told", "_law_due"] (defScope sIs) := ⟨rfl, rfl, rfl, by decide +kernel, rfl, by decide +kernel, by decide +kernel⟩
theorem ok_is {f : Addr} {fd : FuncData} (F : Fn K mg "_law_is" sIs ["_law_told", "_law_due"] f fd) (T : TxB mg) (T2 : TxD mg) : ∀ n : Nat, FnOk P w K mg base CX0 (n + 1) f fd ["_law_told", "_law_due"] (spQ K n)
  | 0 => by
    refine F.F.ok scI (fun vs H Q E h => ?_) (fun cdv A outer s H vs Q E hr h => ?_)
    · obtain ⟨u, v, _, h, _⟩ := h
      exact h.elim
    · obtain ⟨u, v, _, h, _⟩ := h
      exact h.elim
  | n + 1 => by
    have G : FnOk P w K mg base CX0 (n + 1) f fd ["_law_told", "_law_due"] (spQ K n) := ok_is F T T2 n
    refine F.F.ok scI (fun vs H Q E h => ?_) (fun cdv A outer s H vs Q E hr h => ?_)
    · obtain ⟨u, v, rfl, _⟩ := h
      rfl
    · obtain ⟨u, v, rfl, hv, k⟩ := h
      have hu := hu_of hr
      have nd := scI.nd
      refine ⟨_, pss_cons (ps_if (pt_val (pe_callB call_isiT (by rfl) T.isinstance (by decide +kernel) (pa_cons (pv 1) (pa_cons (pe_tup (pa_cons (pe_bltn (v := .ty "tuple") (by rfl) T2.tuple (by decide +kernel) rfl) (pa_cons (pe_bltn (v := .ty "list") (by rfl) T2.list (by decide +kernel) rfl) pa_nil))) pa_nil))))
          (pss_cons (ps_if (PW.pt (pw_or (pt_cmpR op_ne (pe_callB call_isi (by rfl) T.isinstance (by decide +kernel) (pa_cons (pv 0) (pa_cons (pe_bltn (v := .ty "tuple") (by rfl) T2.tuple (by decide +kernel) rfl) pa_nil))) (pe_callB call_isi (by rfl) T.isinstance (by decide +kernel) (pa_cons (pv 1) (pa_cons (pe_bltn (v := .ty "tuple") (by rfl) T2.tuple (by decide +kernel) rfl) pa_nil))) (nomark _))
              (pw_or1 (pt_cmpR op_ne (pe_callB call_isi (by rfl) T.isinstance (by decide +kernel) (pa_cons (pv 0) (pa_cons (pe_bltn (v := .ty "list") (by rfl) T2.list (by decide +kernel) rfl) pa_nil))) (pe_callB call_isi (by rfl) T.isinstance (by decide +kernel) (pa_cons (pv 1) (pa_cons (pe_bltn (v := .ty "list") (by rfl) T2.list (by decide +kernel) rfl) pa_nil))) (nomark _)))))
            (pss_one (ps_ret pe_bl)) pss_nil)
          (pss_one (ps_ret (pe_and (pe_cmpR op_eq (pe_callB call_len (by rfl) T.len PySem.boot_len (pa_cons (pv 0) pa_nil)) (pe_callB call_len (by rfl) T.len PySem.boot_len (pa_cons (pv 1) pa_nil)) (nomark _))
            (pe_one (pe_callB (cr_all rfl) (by rfl) T.all (by decide +kernel) (pa_cons (pe_lc (own := [("_law_k", 2)]) (g := gName 2) (tt := tYes) rfl nd (pi_range1 (by rfl) T.range (pa_cons (pe_callB call_len (by rfl) T.len PySem.boot_len (pa_cons (pv 1) pa_nil)) pa_nil))
              (blkOk_by (N := ["_law_told", "_law_due", "_law_k", "_law_key"]) (sc := defScope sIs) (by decide +kernel)) (fun _ _ _ _ _ => pg_name (i := 2) nd rfl (Or.inl rfl)) (fun _ _ _ _ _ => pts_nil)
              (fun _ _ _ _ _ => pe_call G hr (by rfl) F.m F.F.kp F.b .nil pass0 (pa_cons (pe_ix (ix_seq : IxR _ (rIx K)) (pv 0) (pv 2) (fun _ _ => rfl)) (pa_cons (pe_ix (ix_seq : IxR _ (rIx K)) (pv 1) (pv 2) (fun _ _ => rfl)) pa_nil)))) pa_nil)))))))
          pss_nil)
        (pss_cons (ps_if (pt_val (pe_callB call_isi (by rfl) T.isinstance (by decide +kernel) (pa_cons (pv 1) (pa_cons (pe_bltn (v := .ty "dict") (by rfl) T2.dict (by decide +kernel) rfl) pa_nil))))
          (pss_one (ps_ret (pe_and (pe_callB call_isi (by rfl) T.isinstance (by decide +kernel) (pa_cons (pv 0) (pa_cons (pe_bltn (v := .ty "dict") (by rfl) T2.dict (by decide +kernel) rfl) pa_nil)))
            (pe_and (pe_cmpR (op_eqV hr.units) (pv 0) (pv 1) (nomark _))
            (pe_one (pe_callB (cr_all rfl) (by rfl) T.all (by decide +kernel) (pa_cons (pe_lock (pe_lc (own := [("_law_key", 3)]) (g := gName 3) (tt := tYes) rfl nd (pi_keys (pv 1))
              (blkOk_by (N := ["_law_told", "_law_due", "_law_k", "_law_key"]) (sc := defScope sIs) (by decide +kernel)) (fun _ _ _ _ _ => pg_name (i := 3) nd rfl (Or.inl rfl)) (fun _ _ _ _ _ => pts_nil)
              (fun _ _ _ _ _ => pe_call G hr (by rfl) F.m F.F.kp F.b .nil pass0 (pa_cons (pe_dget hu (pv 0) (pv 3) (fun _ _ => rfl)) (pa_cons (pe_dget hu (pv 1) (pv 3) (fun _ _ => rfl)) pa_nil))))) pa_nil)))))))
          pss_nil)
        (pss_one (ps_ret (pe_and (pe_cmpR op_eq (pe_callB call_isi (by rfl) T.isinstance (by decide +kernel) (pa_cons (pv 0) (pa_cons (pe_bltn (v := .ty "bool") (by rfl) T2.bool (by decide +kernel) rfl) pa_nil))) (pe_callB call_isi (by rfl) T.isinstance (by decide +kernel) (pa_cons (pv 1) (pa_cons (pe_bltn (v := .ty "bool") (by rfl) T2.bool (by decide +kernel) rfl) pa_nil))) (nomark _))
          (pe_one (pe_cmpR op_eq (pv 0) (pv 1) (nomark _))))))), ?_⟩
      have sm : ∀ {H' : Hp} {p : Addr} {o : HO}, H' p = none → Same H H' → Same H (upd H' p o) := fun hp s b u e => by rw [upd_ne (ne_of_none (s b u e) hp)]; exact s b u e
      have s0 : Same H H := fun _ _ e => e
      rcases hv with ⟨hv, rfl⟩ | ⟨a', a, xs', xs, rfl, rfl, hq, hll, hl, hx⟩
      · -- flat
        obtain ⟨t, ty, k1, k2, k3, kb, k4⟩ := fl_ty hv
        refine ⟨_, rfl, (by show 2 ≤ sizeLine; decide), fun tp htp => ?_⟩
        refine ⟨_, _, _, _, _, _, rfl, upd_same, .cons (.ty _) (.cons (.ty _) .nil), ty _ _, seq_isF k1 k2, _, rfl, ?_⟩
        refine iteF ?_
        refine ⟨_, rfl, _, _, _, _, _, rfl, .ty _, ty _ _, kit_ty k3, _, rfl, ?_⟩
        refine iteF ?_
        refine ⟨_, rfl, _, _, _, _, _, rfl, .ty _, ty _ _, kit_ty k4, _, rfl, _, _, _, _, _, rfl, .ty _, ty _ _, kit_ty k4, rfl, _, rfl, ?_⟩
        refine ite2 (fun _ => ?_) (fun h => absurd (decide_eq_true rfl) h)
        refine ⟨_, rfl, _, rfl, fl_scal hv, ?_⟩
        rw [decide_eq_true (rfl : u = u)]
        exact k _ (sm htp s0)
      · -- a list, a tuple
        obtain ⟨t, c1, c2, ty, ty', k1, k2, e⟩ : ∃ (t : String) (c1 c2 : Bool), (∀ H', Same H H' → TyX K H' (.ref a) (.type t)) ∧ (∀ H', Same H H' → TyX K H' (.ref a') (.type t)) ∧ kitB t "tuple" = some c1 ∧ kitB t "list" = some c2 ∧ (c1 || c2) = true := by
          rcases hq with hq | hq
          · exact ⟨"list", false, true, fun H' s => .base (.lst (s a _ hq.2)), fun H' s => .base (.lst (s a' _ hq.1)), by decide +kernel, by decide +kernel, rfl⟩
          · exact ⟨"tuple", true, false, fun H' s => .base (.tup (s a _ hq.2)), fun H' s => .base (.tup (s a' _ hq.1)), by decide +kernel, by decide +kernel, rfl⟩
        have hq' : ∀ H', Same H H' → (H' a = some (.lst xs) ∨ H' a = some (.tup xs)) := fun H' s => by
          rcases hq with hq | hq
          · exact .inl (s a _ hq.2)
          · exact .inr (s a _ hq.2)
        have hq2 : ∀ H', Same H H' → (H' a' = some (.lst xs') ∨ H' a' = some (.tup xs')) := fun H' s => by
          rcases hq with hq | hq
          · exact .inl (s a' _ hq.1)
          · exact .inr (s a' _ hq.1)
        have hlen' : ∀ H', Same H H' → LenV K (.ref a') H' xs.length := fun H' s => by
          rcases hq2 H' s with h | h
          · exact .inl ⟨xs', SqL.of h, hll.symm⟩
          · exact .inr ⟨xs', SqT.of h, hll.symm⟩
        have hlen : ∀ H', Same H H' → LenV K (.ref a) H' xs.length := fun H' s => by
          rcases hq' H' s with h | h
          · exact .inl ⟨xs, SqL.of h, rfl⟩
          · exact .inr ⟨xs, SqT.of h, rfl⟩
        refine ⟨_, rfl, (by show 2 ≤ sizeLine; decide), fun tp htp => ?_⟩
        have s1 : Same H (upd H tp (.tup [.ty "tuple", .ty "list"])) := sm htp s0
        refine ⟨_, _, _, _, _, _, rfl, upd_same, .cons (.ty _) (.cons (.ty _) .nil), ty _ s1, seq_isT k1 k2 e, _, rfl, ?_⟩
        refine iteT ?_
        refine ⟨_, rfl, _, _, _, _, _, rfl, .ty _, ty' _ s1, kit_ty k1, _, rfl, _, _, _, _, _, rfl, .ty _, ty _ s1, kit_ty k1, rfl, _, rfl, ?_⟩
        refine ite2 (fun h => absurd h (by simp)) (fun _ => ?_)
        refine ⟨_, rfl, _, _, _, _, _, rfl, .ty _, ty' _ s1, kit_ty k2, _, rfl, _, _, _, _, _, rfl, .ty _, ty _ s1, kit_ty k2, rfl, _, rfl, ?_⟩
        refine ite2 (fun h => absurd h (by simp)) (fun _ => ?_)
        refine ⟨_, rfl, _, _, rfl, hlen' _ s1, _, rfl, _, _, rfl, hlen _ s1, rfl, _, rfl, ?_⟩
        refine ite2 (fun _ => ?_) (fun h => absurd (decide_eq_true rfl) h)
        have hz : xs.length ≤ 1000 := hl
        refine ⟨_, rfl, _, _, rfl, hlen _ s1, _, rfl, by omega, by omega, fun D hD => ?_⟩
        refine lc_range (lo := 0) (n := (xs.length : Int).toNat) (fun i H' => Same H H' ∧ H' D = some (.lst (List.replicate i (V.bl true)))) ⟨sm hD s1, upd_same⟩ ?_ ?_
        · rintro i H' hi ⟨h1, h2⟩
          have hi' : i < xs.length := by omega
          have hxi : xs[i]? = some xs[i] := List.getElem?_eq_getElem hi'
          have hyi : xs'[i]? = some (xs'[i]'(by omega)) := List.getElem?_eq_getElem (by omega)
          refine ⟨rfl, ?_⟩
          refine yes_kept ?_
          refine ⟨_, rfl, _, rfl, rix_of (hq2 _ h1) hyi ⟨_, rfl, _, rfl, rix_of (hq' _ h1) hxi ⟨xs'[i]'(by omega), xs[i], rfl, (hx i _ _ hyi hxi).same h1, fun H2 s2 => ?_⟩⟩⟩
          refine ⟨_, s2 D _ h2, ?_, fun b o eb => ?_, ?_⟩
          · rw [List.length_replicate]; exact small1000 (by omega)
          · have nb : b ≠ D := ne_of_none (s1 b o eb) hD
            rw [upd_ne nb]; exact s2 b o (h1 b o eb)
          · rw [upd_same, List.replicate_succ']
        · rintro H' ⟨h1, h2⟩
          refine ⟨D, List.replicate (xs.length : Int).toNat true, rfl, ?_, ?_⟩
          · rw [List.map_replicate]; exact SqL.of h2
          · rw [show (List.replicate (xs.length : Int).toNat true).all id = true by rw [List.all_eq_true]; intro x hx; exact (List.mem_replicate.mp hx).2]
            exact k H' h1
end
/-- a nest: its outermost object is new -/
def spDeep : Sp := fun vs H Q _ => ∃ k : Int, vs = [.int k] ∧ ∀ (a : Addr) (x : V) (H' : Hp), Same H H' → H a = none → (k = 0 → H' a = some (.lst [x])) → (k ≠ 0 → H' a = some (.tup [x])) → Q (.ref a) H'
def spFlag : Sp := fun vs H Q _ => ∃ b : Bool, vs = [.bl b, .bl b] ∧ Q (.bl true) H
section
variable {P : Program} {w : World} {K : PySem.W.Frag} {mg : Str → Option Value} {base : Heap}
theorem scDp : FnScope ["_law_kind", "_law_found", "_law_turn"] ["_law_kind"] (defScope sDeep) := ⟨rfl, rfl, rfl, by decide +kernel, rfl, by decide +kernel, by decide +kernel⟩
theorem ok_deep {f : Addr} {fd : FuncData} (F : Fn K mg "_law_deep" sDeep ["_law_kind"] f fd) (T : TxB mg) : FnOk P w K mg base CX0 1 f fd ["_law_kind"] spDeep := by
  refine F.F.ok scDp (fun vs H Q E h => ?_) (fun cdv A outer s H vs Q E hr h => ?_)
  · obtain ⟨k, rfl, _⟩ := h
    rfl
  · obtain ⟨k, rfl, kq⟩ := h
    have nd := scDp.nd
    refine ⟨_, pss_cons (ps_set (i := 1) nd rfl (Or.inl rfl) pe_non)
      (pss_cons (ps_for PassesOwn.never rfl (pi_range1 (by rfl) T.range (pa_cons pe_int pa_nil)) (pg_name (i := 2) nd rfl (Or.inl rfl))
        (pss_one (ps_set (i := 1) nd rfl (Or.inl rfl) (pe_ifExp (pt_cmpR op_eq (pv 0) pe_int (nomark _)) (pe_lst (pa_cons (pv 1) pa_nil)) (pe_tup (pa_cons (pv 1) pa_nil))))))
      (pss_one (ps_ret (pv 1)))), ?_⟩
    refine ⟨36, rfl, by decide, by decide, for_range (lo := 0) (n := 36) (fun i σ H' => ∃ (v : V) (t : Option V), σ = [some (.int k), some v, t] ∧ Same H H' ∧ (0 < i → ∃ a x, v = .ref a ∧ H a = none ∧ (k = 0 → H' a = some (.lst [x])) ∧ (k ≠ 0 → H' a = some (.tup [x])))) ⟨.non, none, rfl, fun _ _ e => e, fun z => by omega⟩ ?_ ?_⟩
    · rintro i σ H' hi ⟨v, t, rfl, h1, _⟩
      refine ⟨_, rfl, rfl, _, rfl, ?_⟩
      refine ite2 (fun c => ?_) (fun c => ?_)
      · have k0 : k = 0 := V.int.inj (of_decide_eq_true c)
        refine ⟨_, rfl, (by show 1 ≤ sizeLine; decide), fun p hp => ?_⟩
        exact ⟨_, _, rfl, same_new h1 hp, fun _ => ⟨p, v, rfl, same_none h1 hp, fun _ => upd_same, fun z => absurd k0 z⟩⟩
      · have k0 : k ≠ 0 := fun z => c (decide_eq_true (by rw [z]))
        refine ⟨_, rfl, (by show 1 ≤ sizeLine; decide), fun p hp => ?_⟩
        exact ⟨_, _, rfl, same_new h1 hp, fun _ => ⟨p, v, rfl, same_none h1 hp, fun z => absurd z k0, fun _ => upd_same⟩⟩
    · rintro σ H' ⟨v, t, rfl, h1, h2⟩
      obtain ⟨a, x, rfl, h3, h4, h5⟩ := h2 (by decide)
      exact ⟨_, rfl, kq a x H' h1 h3 h4 h5⟩
theorem scFlag : FnScope ["_law_told", "_law_due"] ["_law_told", "_law_due"] (defScope sFlag) := ⟨rfl, rfl, rfl, by decide +kernel, rfl, by decide +kernel, by decide +kernel⟩
theorem ok_flag {f : Addr} {fd : FuncData} (F : Fn K mg "_law_flag" sFlag ["_law_told", "_law_due"] f fd) (T : TxB mg) (T2 : TxD mg) : FnOk P w K mg base CX0 1 f fd ["_law_told", "_law_due"] spFlag := by
  refine F.F.ok scFlag (fun vs H Q E h => ?_) (fun cdv A outer s H vs Q E hr h => ?_)
  · obtain ⟨b, rfl, _⟩ := h
    rfl
  · obtain ⟨b, rfl, kq⟩ := h
    refine ⟨_, pss_one (ps_ret (pe_and (pe_callB call_isi (by rfl) T.isinstance (by decide +kernel) (pa_cons (pv 0) (pa_cons (pe_bltn (v := .ty "bool") (by rfl) T2.bool (by decide +kernel) rfl) pa_nil))) (pe_one (pe_cmpR op_eq (pv 0) (pv 1) (nomark _))))), ?_⟩
    refine ⟨_, rfl, _, _, _, _, _, rfl, .ty _, .base (.bl b), kit_ty (r := true) (by decide +kernel), _, rfl, ?_⟩
    refine iteT ?_
    refine ⟨_, rfl, _, rfl, rfl, ?_⟩
    rw [decide_eq_true (rfl : V.bl b = V.bl b)]
    exact kq
end
end K02

set_option Elab.async false
set_option linter.all false
set_option maxRecDepth 100000
set_option maxHeartbeats 2000000
namespace K02
open PySem L2
abbrev sSums : Stmt := top 31
abbrev sTold : Stmt := top 32
abbrev sLeast : Stmt := top 33
/-- the law's flags of the first numbers -/
noncomputable def smL (M : List Nat) (k : Nat) : List Bool := (List.range k).map (smB M)
noncomputable def flL (z : Str) (M : List Nat) (k : Nat) : List Bool := (List.range k).map (flagOf z M)
theorem smL_get {M : List Nat} {k i : Nat} (h : i < k) : (smL M k)[i]? = some (smB M i) := by
  unfold smL
  rw [List.getElem?_map, List.getElem?_range h]; rfl
theorem smL_succ {M : List Nat} {k : Nat} : smL M (k + 1) = smL M k ++ [smB M k] := by
  unfold smL
  rw [List.range_succ, List.map_append]; rfl
theorem smL_len {M : List Nat} {k : Nat} : (smL M k).length = k := by unfold smL; rw [List.length_map, List.length_range]
theorem flL_succ {z : Str} {M : List Nat} {k : Nat} : flL z M (k + 1) = flL z M k ++ [flagOf z M k] := by
  unfold flL
  rw [List.range_succ, List.map_append]; rfl
theorem flL_len {z : Str} {M : List Nat} {k : Nat} : (flL z M k).length = k := by unfold flL; rw [List.length_map, List.length_range]
theorem flL_get {z : Str} {M : List Nat} {k i : Nat} (h : i < k) : (flL z M k)[i]? = some (flagOf z M i) := by
  unfold flL
  rw [List.getElem?_map, List.getElem?_range h]; rfl
theorem smB_zero {M : List Nat} : smB M 0 = true := smB_iff.mpr .zero
theorem smB_any {M : List Nat} (hp : ∀ m ∈ M, 0 < m) {n : Nat} (h0 : 0 < n) : (M.map fun m => decide (m ≤ n) && smB M (n - m)).any id = smB M n := by
  rw [Bool.eq_iff_iff, smB_iff, sm_iff hp h0, List.any_map, List.any_eq_true]
  constructor
  · rintro ⟨m, hm, e⟩
    have e' : (decide (m ≤ n) && smB M (n - m)) = true := e
    rw [Bool.and_eq_true, decide_eq_true_eq, smB_iff] at e'
    exact ⟨m, hm, e'⟩
  · rintro ⟨m, hm, l, e⟩
    refine ⟨m, hm, ?_⟩
    show (decide (m ≤ n) && smB M (n - m)) = true
    rw [Bool.and_eq_true, decide_eq_true_eq, smB_iff]
    exact ⟨l, e⟩
theorem more_free : ¬ ("more" : Str) = "free" := by decide +kernel
theorem flL_more {M : List Nat} {k : Nat} : flL "more" M (k + 1) = false :: smL M k := by
  refine List.ext_getElem? fun i => ?_
  cases i with
  | zero => rw [flL_get (by omega)]; simp [flagOf, more_free]
  | succ i =>
    rw [List.getElem?_cons_succ]
    by_cases h : i < k
    · rw [flL_get (by omega), smL_get h]
      simp [flagOf, more_free]
    · rw [List.getElem?_eq_none (by rw [flL_len]; omega), List.getElem?_eq_none (by rw [smL_len]; omega)]
/-- a spec of the law: the tuple of its word, its makers and None -/
def SpecAt (K : PySem.W.Frag) (H : Hp) (v : V) (z : Str) (M : List Nat) : Prop := ∃ a m, v = .ref a ∧ H a = some (.tup [.str z, .ref m, .non]) ∧ H m = some (.tup (M.map nI))
theorem SpecAt.same {K : PySem.W.Frag} {H H' : Hp} {v : V} {z : Str} {M : List Nat} (h : SpecAt K H v z M) (s : Same H H') : SpecAt K H' v z M := by
  obtain ⟨a, m, e, h1, h2⟩ := h
  exact ⟨a, m, e, s _ _ h1, s _ _ h2⟩
/-- what a spec holds: a word of the four; makers just for "more" -/
structure SpecOk (z : Str) (M : List Nat) : Prop where
  wd : z = "once" ∨ z = "loan" ∨ z = "free" ∨ z = "more"
  no : z ≠ "more" → M = []
  len : z = "more" → 0 < M.length
  l4 : M.length ≤ 500
  p : ∀ m ∈ M, 1 ≤ m ∧ m ≤ 1000
theorem SpecOk.words {z : Str} {M : List Nat} (h : SpecOk z M) : words.contains z = true := by
  rcases h.wd with rfl | rfl | rfl | rfl <;> decide +kernel
noncomputable def spSums (K : PySem.W.Frag) : Sp := fun vs H Q _ => ∃ (t : Addr) (M : List Nat) (most : Nat), vs = [.ref t, .int (most : Int)] ∧ SqT K H t (M.map nI) ∧ most ≤ 1500 ∧ M.length ≤ 500 ∧ (∀ m ∈ M, 1 ≤ m) ∧
  ∀ p H', Same H H' → H p = none → H' p = some (.lst ((smL M (most + 1)).map V.bl)) → Q (.ref p) H'
noncomputable def spTold (K : PySem.W.Frag) : Sp := fun vs H Q _ => ∃ (v : V) (z : Str) (M : List Nat) (most : Nat), vs = [v, .int (most : Int)] ∧ SpecAt K H v z M ∧ SpecOk z M ∧ 1 ≤ most ∧ most ≤ 1500 ∧
  ∀ p H', Same H H' → H p = none → H' p = some (.lst ((flL z M (most + 1)).map V.bl)) → Q (.ref p) H'
noncomputable def spLeast (K : PySem.W.Frag) : Sp := fun vs H Q _ => ∃ (a : Addr) (fs : List Bool) (M : List Nat) (N : Nat), vs = [.ref a] ∧ H a = some (.lst (fs.map V.bl)) ∧ fs.length = N + 1 ∧ N ≤ 1000 ∧ (∀ m ∈ M, 0 < m) ∧ (∀ i, 1 ≤ i → i ≤ N → fs[i]? = some (smB M i)) ∧
  ∀ found sums p H', Gens M found sums N → Same H H' → H p = none → H' p = some (.tup (found.map nI)) → Q (.ref p) H'
section
variable {P : Program} {w : World} {K : PySem.W.Frag} {mg : Str → Option Value} {base : Heap}
theorem scSums : FnScope ["_law_makers", "_law_most", "_law_found", "_law_number", "_law_maker"] ["_law_makers", "_law_most"] (defScope sSums) := ⟨rfl, rfl, rfl, by decide +kernel, rfl, by decide +kernel, by decide +kernel⟩
theorem ok_sums {f : Addr} {fd : FuncData} (F : Fn K mg "_law_sums" sSums ["_law_makers", "_law_most"] f fd) (T : TxB mg) (T2 : TxD mg) : FnOk P w K mg base CX0 1 f fd ["_law_makers", "_law_most"] (spSums K) := by
  refine F.F.ok scSums (fun vs H Q E h => ?_) (fun cdv A outer s H vs Q E hr h => ?_)
  · obtain ⟨_, _, _, rfl, _⟩ := h
    rfl
  · obtain ⟨t, M, most, rfl, ht, hm, hM, hp, k⟩ := h
    have nd := scSums.nd
    have hu := hu_of hr
    refine ⟨_, pss_cons (ps_set (i := 2) nd rfl (Or.inr rfl) (pe_lst (pa_cons pe_bl pa_nil)))
      (pss_cons (ps_for PassesOwn.never rfl (pi_range2 (by rfl) T.range (pa_cons pe_int (pa_cons (pe_op op_add (pv 1) pe_int) pa_nil))) (pg_name (i := 3) nd rfl (Or.inr rfl))
        (pss_one (ps_expr (pe_bm PySem.F.plainAttrs_list PySem.F.slot_list_append PySem.F.type_list_append mt_append (pv 2) (pa_cons (pe_callB (cr_any rfl) (by rfl) T2.any (by decide +kernel) (pa_cons
          (pe_lc (own := [("_law_maker", 4)]) (g := gName 4) (tt := tYes) rfl nd (pi_tup (pv 0))
            (blkOk_by (N := ["_law_makers", "_law_most", "_law_found", "_law_number", "_law_maker"]) (sc := defScope sSums) (by decide +kernel)) (fun _ _ _ _ _ => pg_name (i := 4) nd rfl (Or.inl rfl)) (fun _ _ _ _ _ => pts_nil)
            (fun _ _ _ _ _ => pe_and (pe_cmpR op_le (pv 4) (pv 3) (nomark _)) (pe_one (pe_ix (ix_list : IxR _ (rIxL K)) (pv 2) (pe_op op_sub (pv 3) (pv 4)) (fun _ _ => rfl))))) pa_nil)) pa_nil)))))
      (pss_one (ps_ret (pv 2)))), ?_⟩
    refine ⟨(by show 1 ≤ sizeLine; decide), fun fl hfl => ?_⟩
    refine ⟨_, rfl, _, _, rfl, rfl, ?_⟩
    refine ⟨1, (most : Int) + 1, rfl, ⟨by omega, by omega, by omega, by omega⟩, for_range (lo := 1) (n := ((most : Int) + 1 - 1).toNat) (fun i σ H' => ∃ t3 : Option V, σ = [some (.ref t), some (.int (most : Int)), some (.ref fl), t3, none] ∧ Same H H' ∧ H' fl = some (.lst ((smL M (i + 1)).map V.bl))) ⟨none, rfl, same_new (same_refl H) hfl, ?_⟩ ?_ ?_⟩
    · rw [upd_same]
      show _ = some (HO.lst [.bl (smB M 0)])
      rw [smB_zero]
    · rintro i σ H' hi ⟨t3, rfl, h1, h2⟩
      refine ⟨_, rfl, .inl ⟨rfl, _, SqL.of h2⟩, ?_⟩
      refine ⟨_, rfl, t, rfl, ⟨_, sqt_same ht h1⟩, fun D hD => ?_⟩
      have flD : fl ≠ D := ne_of_none h2 hD
      refine lc_tup (K := K) (a := t) (xs := M.map nI) (fun j H2 => Same H' H2 ∧ H2 D = some (.lst (((M.map fun m => decide (m ≤ i + 1) && smB M (i + 1 - m)).take j).map V.bl))) ⟨same_new (same_refl H') hD, upd_same⟩ (fun j H2 _ p => sqt_same (sqt_same ht h1) p.1) ?_ ?_
      · rintro j v H2 hv ⟨h3, h4⟩
        obtain ⟨m, hm', rfl⟩ : ∃ m, M[j]? = some m ∧ v = nI m := by
          rw [List.getElem?_map] at hv
          cases e : M[j]? with
          | none => rw [e] at hv; cases hv
          | some m => rw [e] at hv; exact ⟨m, rfl, (Option.some.inj hv).symm⟩
        have hmM := List.mem_of_getElem? hm'
        have h1m := hp m hmM
        have hj : j < M.length := (List.getElem?_eq_some_iff.mp hm').1
        have put : ∀ b : Bool, b = (decide (m ≤ i + 1) && smB M (i + 1 - m)) → ∃ acc, H2 D = some (.lst acc) ∧ acc.length < sizeLine ∧ Same H' (upd H2 D (.lst (acc ++ [V.bl b]))) ∧ upd H2 D (.lst (acc ++ [V.bl b])) D = some (.lst (((M.map fun m => decide (m ≤ i + 1) && smB M (i + 1 - m)).take (j + 1)).map V.bl)) := fun b e => by
          refine ⟨_, h4, (by rw [List.length_map, List.length_take, List.length_map]; exact room2 (by omega)), fun c u e => by rw [upd_ne (ne_of_none e hD)]; exact h3 c u e, ?_⟩
          rw [upd_same, List.take_add_one, List.getElem?_map, hm', e, List.map_append]; rfl
        refine ⟨rfl, ?_⟩
        refine yes_kept ?_
        refine ⟨_, rfl, _, rfl, _, _, rfl, rfl, _, rfl, ?_⟩
        refine ite2 (fun c => ?_) (fun c => ?_)
        · have c2 : m ≤ i + 1 := by have := of_decide_eq_true c; omega
          have hat : atI ((smL M (i + 1)).map V.bl) ((i + 1 - m : Nat) : Int) = some (.bl (smB M (i + 1 - m))) := atI_nat (by rw [List.getElem?_map, smL_get (by omega)]; rfl)
          refine ⟨_, rfl, _, rfl, _, rfl, _, _, rfl, rfl, fl, _, ((i + 1 - m : Nat) : Int), _, rfl, ?_, SqL.of (h3 _ _ h2), hat, ?_⟩
          · show V.int ((1 + (i : Int)) - (m : Int)) = _
            rw [show (1 + (i : Int)) - (m : Int) = ((i + 1 - m : Nat) : Int) by omega]
          · exact put _ (by rw [decide_eq_true c2, Bool.true_and])
        · have c2 : ¬ m ≤ i + 1 := fun z => c (decide_eq_true (by omega))
          exact put false (by rw [decide_eq_false c2, Bool.false_and])
      · rintro H2 ⟨h3, h4⟩
        rw [List.length_map, List.take_of_length_le (by rw [List.length_map]; exact Nat.le_refl _)] at h4
        refine ⟨D, (M.map fun m => decide (m ≤ i + 1) && smB M (i + 1 - m)), rfl, SqL.of h4, ?_⟩
        rw [smB_any (fun m hm => hp m hm) (by omega)]
        refine ⟨fl, _, _, rfl, rfl, h3 _ _ h2, (by rw [List.length_map, smL_len]; exact Nat.lt_of_le_of_lt (m := 2000) (by omega) (by decide)), ?_⟩
        refine ⟨_, rfl, fun b u e => ?_, ?_⟩
        · rw [upd_ne (ne_of_none e hfl)]; exact h3 _ _ (h1 _ _ e)
        · rw [upd_same, smL_succ (k := i + 1), List.map_append]; rfl
    · rintro σ H' ⟨t3, rfl, h1, h2⟩
      rw [show ((most : Int) + 1 - 1).toNat = most by omega] at h2
      exact ⟨_, rfl, k fl H' h1 hfl h2⟩
end
end K02

set_option Elab.async false
set_option linter.all false
set_option maxRecDepth 100000
set_option maxHeartbeats 2000000
namespace K02
open PySem L2
theorem free_once : ¬ ("free" : Str) = "once" := by decide +kernel
theorem loan_once : ¬ ("loan" : Str) = "once" := by decide +kernel
theorem once_free : ¬ ("once" : Str) = "free" := by decide +kernel
theorem once_more : ¬ ("once" : Str) = "more" := by decide +kernel
theorem once_loan : ¬ ("once" : Str) = "loan" := by decide +kernel
theorem loan_free : ¬ ("loan" : Str) = "free" := by decide +kernel
theorem loan_more : ¬ ("loan" : Str) = "more" := by decide +kernel
theorem free_more : ¬ ("free" : Str) = "more" := by decide +kernel
theorem once_raw : ¬ ("once" : Str) = "raw" := by decide +kernel
theorem loan_raw : ¬ ("loan" : Str) = "raw" := by decide +kernel
theorem free_raw : ¬ ("free" : Str) = "raw" := by decide +kernel
theorem more_raw : ¬ ("more" : Str) = "raw" := by decide +kernel
theorem flag_zero {z : Str} {M : List Nat} (h : SpecOk z M) (n : z ≠ "more") : (!decide (V.str z = V.str "once")) = flagOf z M 0 := by
  rcases h.wd with rfl | rfl | rfl | rfl
  · simp [flagOf, once_free, once_more, once_loan]
  · simp [flagOf, loan_once, loan_free, loan_more]
  · simp [flagOf, free_once]
  · exact absurd rfl n
theorem flag_one {z : Str} {M : List Nat} (h : SpecOk z M) (n : z ≠ "more") : flagOf z M 1 = true := by
  rcases h.wd with rfl | rfl | rfl | rfl
  · simp [flagOf, once_free, once_more, once_loan]
  · simp [flagOf, loan_once, loan_free, loan_more]
  · simp [flagOf, free_once]
  · exact absurd rfl n
theorem flag_two {z : Str} {M : List Nat} (h : SpecOk z M) (n : z ≠ "more") {i : Nat} (h2 : 2 ≤ i) : decide (V.str z = V.str "free") = flagOf z M i := by
  rcases h.wd with rfl | rfl | rfl | rfl
  · have : ¬ i = 1 := by omega
    simp [flagOf, once_free, once_more, once_loan, this]
  · have : ¬ i ≤ 1 := by omega
    simp [flagOf, loan_once, loan_free, loan_more, this]
  · simp [flagOf, free_once]
  · exact absurd rfl n
section
variable {P : Program} {w : World} {K : PySem.W.Frag} {mg : Str → Option Value} {base : Heap}
theorem scTold : FnScope ["_law_spec", "_law_most", "_law_word", "_law_first", "_law_second", "_law_rows", "_law_number"] ["_law_spec", "_law_most"] (defScope sTold) := ⟨rfl, rfl, rfl, by decide +kernel, rfl, by decide +kernel, by decide +kernel⟩
theorem ok_toldN {f fS : Addr} {fd fdS : FuncData} (F : Fn K mg "_law_told_numbers" sTold ["_law_spec", "_law_most"] f fd) (NS : Fn K mg "_law_sums" sSums ["_law_makers", "_law_most"] fS fdS) (T : TxB mg) (T2 : TxD mg) : FnOk P w K mg base CX0 2 f fd ["_law_spec", "_law_most"] (spTold K) := by
  have GS : FnOk P w K mg base CX0 1 fS fdS ["_law_makers", "_law_most"] (spSums K) := ok_sums NS T T2
  refine F.F.ok scTold (fun vs H Q E h => ?_) (fun cdv A outer s H vs Q E hr h => ?_)
  · obtain ⟨_, _, _, _, rfl, _⟩ := h
    rfl
  · obtain ⟨v, z, M, most, rfl, hs, hz, m1, m2, k⟩ := h
    have nd := scTold.nd
    have hu := hu_of hr
    obtain ⟨a, m, rfl, ha, hm⟩ := hs
    refine ⟨_, pss_cons (ps_asg (pv 0) (pg_tup rfl (pgs_cons (pg_name (i := 2) nd rfl (Or.inr rfl)) (pgs_cons (pg_name (i := 3) nd rfl (Or.inl rfl)) (pgs_cons (pg_name (i := 4) nd rfl (Or.inl rfl)) pgs_nil)))))
      (pss_cons (ps_if (pt_cmpR op_eq (pv 2) pe_str (nomark _)) pss_never pss_nil)
      (pss_cons (ps_if (pt_cmpR op_eq (pv 2) pe_str (nomark _)) (pss_one (ps_ret (pe_op op_cat (pe_lst (pa_cons pe_bl pa_nil)) (pe_call GS hr (by rfl) NS.m NS.F.kp NS.b .nil pass0 (pa_cons (pv 3) (pa_cons (pe_op op_sub (pv 1) pe_int) pa_nil)))))) pss_nil)
      (pss_one (ps_ret (pe_lc (own := [("_law_number", 6)]) (g := gName 6) (tt := tYes) rfl nd (pi_range1 (by rfl) T.range (pa_cons (pe_op op_add (pv 1) pe_int) pa_nil))
            (blkOk_by (N := ["_law_spec", "_law_most", "_law_word", "_law_first", "_law_second", "_law_rows", "_law_number"]) (sc := defScope sTold) (by decide +kernel)) (fun _ _ _ _ _ => pg_name (i := 6) nd rfl (Or.inl rfl)) (fun _ _ _ _ _ => pts_nil)
            (fun _ _ _ _ _ => pe_ifExp (pt_cmpR op_eq (pv 6) pe_int (nomark _)) (pe_cmpR op_ne (pv 2) pe_str (nomark _)) (pe_or (pe_cmpR op_eq (pv 6) pe_int (nomark _)) (pe_one (pe_cmpR op_eq (pv 2) pe_str (nomark _)))))))))), ?_⟩
    refine ⟨_, rfl, a, _, rfl, SqT.of ha, rfl, _, _, rfl, _, _, rfl, _, _, rfl, rfl, ?_⟩
    refine ⟨_, rfl, rfl, _, rfl, ?_⟩
    have nraw : decide (V.str z = V.str "raw") = false := decide_eq_false fun e => by
      have e2 := V.str.inj e
      rcases hz.wd with rfl | rfl | rfl | rfl
      · exact once_raw e2
      · exact loan_raw e2
      · exact free_raw e2
      · exact more_raw e2
    refine ifF nraw ?_
    refine ⟨_, rfl, rfl, _, rfl, ?_⟩
    refine ite2 (fun c => ?_) (fun c => ?_)
    · have c2 : z = "more" := V.str.inj (of_decide_eq_true c)
      subst c2
      obtain ⟨mm, rfl⟩ : ∃ mm, most = mm + 1 := ⟨most - 1, by omega⟩
      refine ⟨(by show 1 ≤ sizeLine; decide), fun l0 hl0 => ?_⟩
      have s1 := same_new (o := .lst [.bl false]) (same_refl H) hl0
      have f1 : upd H l0 (.lst [.bl false]) l0 = some (.lst [.bl false]) := upd_same
      generalize upd H l0 (.lst [.bl false]) = G1 at *
      refine ⟨_, rfl, _, rfl, _, _, rfl, rfl, m, M, mm, ?_, SqT.of (s1 _ _ hm), by omega, by have := hz.l4; omega, fun m hm => (hz.p m hm).1, fun p H' s2 np hp => ?_⟩
      · show [V.ref m, V.int (((mm + 1 : Nat) : Int) - 1)] = _
        rw [show ((mm + 1 : Nat) : Int) - 1 = (mm : Int) by omega]
      · refine ⟨l0, p, _, _, rfl, rfl, s2 _ _ f1, hp, (by rw [List.length_map, smL_len]; exact Nat.le_of_lt (Nat.lt_of_le_of_lt (m := 2000) (by show 1 + _ ≤ _; omega) (by decide))), fun q hq => ?_⟩
        have s12 := same_trans s1 s2
        refine k q _ (same_new s12 hq) (same_none s12 hq) ?_
        rw [upd_same, flL_more]
        rfl
    · have c2 : z ≠ "more" := fun e => c (decide_eq_true (by rw [e]))
      refine ⟨_, rfl, _, _, rfl, rfl, (most : Int) + 1, rfl, by omega, by omega, fun D hD => ?_⟩
      refine lc_range (lo := 0) (n := ((most : Int) + 1).toNat) (fun i H' => Same H H' ∧ H' D = some (.lst ((flL z M i).map V.bl))) ⟨same_new (same_refl H) hD, upd_same⟩ ?_ ?_
      · rintro i H' hi ⟨h1, h2⟩
        refine ⟨rfl, ?_⟩
        refine yes_kept ?_
        have put : ∀ b : Bool, b = flagOf z M i → ∃ acc, H' D = some (.lst acc) ∧ acc.length < sizeLine ∧ Same H (upd H' D (.lst (acc ++ [V.bl b]))) ∧ upd H' D (.lst (acc ++ [V.bl b])) D = some (.lst ((flL z M (i + 1)).map V.bl)) := fun b e => by
          refine ⟨_, h2, (by rw [List.length_map, flL_len]; exact Nat.lt_of_le_of_lt (m := 2000) (by omega) (by decide)), fun c u e => by rw [upd_ne (ne_of_none e hD)]; exact h1 c u e, ?_⟩
          rw [upd_same, flL_succ, e, List.map_append]; rfl
        refine ⟨_, rfl, rfl, _, rfl, ?_⟩
        refine ite2 (fun d => ?_) (fun d => ?_)
        · have d2 : i = 0 := by
            have := V.int.inj (of_decide_eq_true d)
            omega
          subst d2
          exact ⟨_, rfl, rfl, put _ (flag_zero hz c2)⟩
        · have d2 : i ≠ 0 := fun e => d (decide_eq_true (by rw [e]; rfl))
          refine ⟨_, rfl, rfl, _, rfl, ?_⟩
          refine ite2 (fun e => ?_) (fun e => ?_)
          · have e2 : i = 1 := by
              have := V.int.inj (of_decide_eq_true e)
              omega
            subst e2
            exact put true (flag_one hz c2).symm
          · have e2 : i ≠ 1 := fun q => e (decide_eq_true (by rw [q]; rfl))
            exact ⟨_, rfl, rfl, put _ (flag_two hz c2 (by omega))⟩
      · rintro H' ⟨h1, h2⟩
        rw [show ((most : Int) + 1).toNat = most + 1 by omega] at h2
        exact k D H' h1 hD h2
theorem scLeast : FnScope ["_law_flags", "_law_found", "_law_sums_here", "_law_number", "_law_told", "_law_maker"] ["_law_flags"] (defScope sLeast) := ⟨rfl, rfl, rfl, by decide +kernel, rfl, by decide +kernel, by decide +kernel⟩
end
end K02

set_option Elab.async false
set_option linter.all false
set_option maxRecDepth 100000
set_option maxHeartbeats 2000000
namespace K02
open PySem L2
section
variable {P : Program} {w : World} {K : PySem.W.Frag} {mg : Str → Option Value} {base : Heap}
theorem gens_told_smB {M found : List Nat} {sums : List Bool} {n : Nat} (h : Gens M found sums n) (hp : ∀ m ∈ M, 0 < m) : (if smB M (n + 1) && !toldB found sums (n + 1) then true else toldB found sums (n + 1)) = smB M (n + 1) := by
  cases e : smB M (n + 1) with
  | true =>
    cases q : toldB found sums (n + 1) <;> rfl
  | false =>
    cases q : toldB found sums (n + 1) with
    | false => rfl
    | true =>
      have := ((h.told hp).mp q).1
      rw [← smB_iff, e] at this
      cases this
theorem ok_least {f : Addr} {fd : FuncData} (F : Fn K mg "_law_least_makers" sLeast ["_law_flags"] f fd) (T : TxB mg) (T2 : TxD mg) : FnOk P w K mg base CX0 1 f fd ["_law_flags"] (spLeast K) := by
  refine F.F.ok scLeast (fun vs H Q E h => ?_) (fun cdv A outer s H vs Q E hr h => ?_)
  · obtain ⟨_, _, _, _, rfl, _⟩ := h
    rfl
  · obtain ⟨a, fs, M, N, rfl, ha, hl, hN, hp, hfs, k⟩ := h
    have nd := scLeast.nd
    have hu := hu_of hr
    refine ⟨_, pss_cons (ps_set (i := 1) nd rfl (Or.inl rfl) (pe_lst pa_nil))
      (pss_cons (ps_set (i := 2) nd rfl (Or.inr rfl) (pe_lst (pa_cons pe_bl pa_nil)))
      (pss_cons (ps_for PassesOwn.never rfl (pi_range2 (by rfl) T.range (pa_cons pe_int (pa_cons (pe_callB call_len (by rfl) T.len PySem.boot_len (pa_cons (pv 0) pa_nil)) pa_nil))) (pg_name (i := 3) nd rfl (Or.inr rfl))
        (pss_cons (ps_set (i := 4) nd rfl (Or.inl rfl) (pe_callB (cr_any rfl) (by rfl) T2.any (by decide +kernel) (pa_cons
          (pe_lc (own := [("_law_maker", 5)]) (g := gName 5) (tt := tYes) rfl nd (pi_list (pv 1))
            (blkOk_by (N := ["_law_flags", "_law_found", "_law_sums_here", "_law_number", "_law_told", "_law_maker"]) (sc := defScope sLeast) (by decide +kernel)) (fun _ _ _ _ _ => pg_name (i := 5) nd rfl (Or.inl rfl)) (fun _ _ _ _ _ => pts_nil)
            (fun _ _ _ _ _ => pe_and (pe_cmpR op_le (pv 5) (pv 3) (nomark _)) (pe_one (pe_ix (ix_list : IxR _ (rIxL K)) (pv 2) (pe_op op_sub (pv 3) (pv 5)) (fun _ _ => rfl))))) pa_nil)))
        (Evl.pss_cut (ps_if (PW.pt (pw_and (pt_val (pe_ix ix_list (pv 0) (pv 3) (fun _ _ => rfl))) (pw_and1 (pt_not (pt_val (pv 4))))))
          (pss_cons (ps_expr (pe_bm PySem.F.plainAttrs_list PySem.F.slot_list_append PySem.F.type_list_append mt_append (pv 1) (pa_cons (pv 3) pa_nil)))
          (pss_one (ps_set (i := 4) nd rfl (Or.inl rfl) pe_bl))) pss_nil)
        (pss_one (ps_expr (pe_bm PySem.F.plainAttrs_list PySem.F.slot_list_append PySem.F.type_list_append mt_append (pv 2) (pa_cons (pv 4) pa_nil)))))))
      (pss_one (ps_ret (pe_callTy call_tuple_of (by rfl) T2.tuple (by decide +kernel) (pa_cons (pv 1) pa_nil)))))), ?_⟩
    refine ⟨(by show 0 ≤ sizeLine; decide), fun fa hfa => ?_⟩
    have s1 := same_new (o := .lst []) (same_refl H) hfa
    have f1 : upd H fa (.lst []) fa = some (.lst []) := upd_same
    generalize upd H fa (.lst []) = G1 at *
    refine ⟨(by show 1 ≤ sizeLine; decide), fun sa hsa => ?_⟩
    have s2 := same_new (o := .lst [.bl true]) s1 hsa
    have fasa : fa ≠ sa := ne_of_none f1 hsa
    have nsa : H sa = none := same_none s1 hsa
    have f2 : upd G1 sa (.lst [.bl true]) fa = some (.lst []) := by rw [upd_ne fasa]; exact f1
    have g2 : upd G1 sa (.lst [.bl true]) sa = some (.lst [.bl true]) := upd_same
    generalize upd G1 sa (.lst [.bl true]) = G2 at *
    refine ⟨_, rfl, _, _, rfl, .inl ⟨_, SqL.of (s2 _ _ ha), rfl⟩, 1, ((fs.map V.bl).length : Int), rfl, ?_⟩
    rw [List.length_map, hl]
    refine ⟨⟨by omega, by omega, by omega, by omega⟩, for_range (lo := 1) (n := (((N + 1 : Nat) : Int) - 1).toNat) (fun i σ H' => ∃ (found : List Nat) (sums : List Bool) (t3 t4 : Option V), σ = [some (.ref a), some (.ref fa), some (.ref sa), t3, t4, none] ∧ Gens M found sums i ∧ found.length ≤ i ∧ Same H H' ∧ H' fa = some (.lst (found.map nI)) ∧ H' sa = some (.lst (sums.map V.bl))) ⟨[], [true], none, none, rfl, gens_zero, Nat.le_refl _, s2, f2, g2⟩ ?_ ?_⟩
    · rintro i σ H' hi ⟨found, sums, t3, t4, rfl, hg, hle, h1, h2, h3⟩
      refine ⟨_, rfl, fa, rfl, ⟨_, SqL.of h2⟩, fun D hD => ?_⟩
      refine lc_list (K := K) (a := fa) (xs := found.map nI) (fun j H2 => Same H' H2 ∧ H2 D = some (.lst (((found.map fun m => decide (m ≤ i + 1) && sums.getD (i + 1 - m) false).take j).map V.bl))) ⟨same_new (same_refl H') hD, upd_same⟩ (fun j H2 _ p => SqL.of (p.1 _ _ h2)) ?_ ?_
      · rintro j v H2 hv ⟨h4, h5⟩
        obtain ⟨m, hm', rfl⟩ : ∃ m, found[j]? = some m ∧ v = nI m := by
          rw [List.getElem?_map] at hv
          cases e : found[j]? with
          | none => rw [e] at hv; cases hv
          | some m => rw [e] at hv; exact ⟨m, rfl, (Option.some.inj hv).symm⟩
        have hmM := (hg.mem m).mp (List.mem_of_getElem? hm')
        have h1m := hmM.1.1
        have hj : j < found.length := (List.getElem?_eq_some_iff.mp hm').1
        refine ⟨rfl, ?_⟩
        refine yes_kept ?_
        refine ⟨_, rfl, _, rfl, _, _, rfl, rfl, _, rfl, ?_⟩
        have c2 : m ≤ i + 1 := by omega
        have c3 : decide ((m : Int) ≤ 1 + (i : Int)) = true := decide_eq_true (by omega)
        refine ifT c3 ?_
        have lt : i + 1 - m < sums.length := by rw [hg.len]; omega
        have hat : atI (sums.map V.bl) ((i + 1 - m : Nat) : Int) = some (.bl (sums.getD (i + 1 - m) false)) := atI_nat (by rw [List.getElem?_map, List.getElem?_eq_getElem lt, List.getD_eq_getElem?_getD, List.getElem?_eq_getElem lt]; rfl)
        refine ⟨_, rfl, _, rfl, _, rfl, _, _, rfl, rfl, sa, _, ((i + 1 - m : Nat) : Int), _, rfl, ?_, SqL.of (h4 _ _ h3), hat, ?_⟩
        · show V.int ((1 + (i : Int)) - (m : Int)) = _
          rw [show (1 + (i : Int)) - (m : Int) = ((i + 1 - m : Nat) : Int) by omega]
        · refine ⟨_, h5, (by rw [List.length_map, List.length_take, List.length_map]; exact Nat.lt_of_le_of_lt (m := 2000) (by omega) (by decide)), fun c u e => by rw [upd_ne (ne_of_none e hD)]; exact h4 c u e, ?_⟩
          rw [upd_same, List.take_add_one, List.getElem?_map, hm', List.map_append]
          show _ = some (HO.lst (_ ++ [V.bl (decide (m ≤ i + 1) && sums.getD (i + 1 - m) false)]))
          rw [decide_eq_true c2, Bool.true_and]
      · rintro H2 ⟨h4, h5⟩
        rw [List.length_map, List.take_of_length_le (by rw [List.length_map]; exact Nat.le_refl _)] at h5
        refine ⟨D, (found.map fun m => decide (m ≤ i + 1) && sums.getD (i + 1 - m) false), rfl, SqL.of h5, ?_⟩
        have et : ((found.map fun m => decide (m ≤ i + 1) && sums.getD (i + 1 - m) false).any id) = toldB found sums (i + 1) := by
          rw [List.any_map]; rfl
        rw [et]
        have hsame := same_trans h1 h4
        have h2' := h4 _ _ h2
        have h3' := h4 _ _ h3
        have fl : fs[i + 1]? = some (smB M (i + 1)) := hfs (i + 1) (by omega) (by omega)
        have hat : atI (fs.map V.bl) (1 + (i : Int)) = some (.bl (smB M (i + 1))) := by
          rw [show 1 + (i : Int) = ((i + 1 : Nat) : Int) by omega]
          exact atI_nat (by rw [List.getElem?_map, fl]; rfl)
        have nx := hg.next hp
        have q := gens_told_smB hg hp
        refine ⟨fun σ' H3 => ∃ found', σ' = [some (.ref a), some (.ref fa), some (.ref sa), some (.int (1 + (i : Int))), some (.bl (smB M (i + 1))), none] ∧ Gens M found' (sums ++ [smB M (i + 1)]) (i + 1) ∧ found'.length ≤ i + 1 ∧ Same H H3 ∧ H3 fa = some (.lst (found'.map nI)) ∧ H3 sa = some (.lst (sums.map V.bl)), ?_, ?_⟩
        · refine ⟨_, rfl, _, rfl, a, _, _, _, rfl, rfl, SqL.of (hsame _ _ ha), hat, _, rfl, ?_⟩
          cases c1 : smB M (i + 1) with
          | true =>
            refine ifT rfl ?_
            cases c2 : toldB found sums (i + 1) with
            | true =>
              rw [c1, c2] at nx
              refine ⟨_, rfl, _, rfl, ?_⟩
              refine ifF rfl ?_
              exact ⟨found, rfl, nx, by omega, hsame, h2', h3'⟩
            | false =>
              rw [c1, c2] at nx
              refine ⟨_, rfl, _, rfl, ?_⟩
              refine ifT rfl ?_
              refine ⟨_, rfl, .inl ⟨rfl, _, SqL.of h2'⟩, _, rfl, fa, _, _, rfl, rfl, h2', (by rw [List.length_map]; exact Nat.lt_of_le_of_lt (m := 2000) (by omega) (by decide)), ?_⟩
              refine ⟨found ++ [i + 1], rfl, nx, ?_, fun b u e => ?_, ?_, ?_⟩
              · rw [List.length_append]; show found.length + 1 ≤ _; omega
              · rw [upd_ne (ne_of_none e hfa)]; exact hsame b u e
              · rw [upd_same, List.map_append]
                have e : V.int (1 + (i : Int)) = nI (i + 1) := by
                  unfold nI
                  rw [show ((i + 1 : Nat) : Int) = 1 + (i : Int) by omega]
                rw [e]
                rfl
              · rw [upd_ne fasa.symm]; exact h3'
          | false =>
            have c2 : toldB found sums (i + 1) = false := by
              rw [c1] at q
              simpa using q
            rw [c1, c2] at nx
            refine ifF rfl ?_
            exact ⟨found, by rw [c2]; rfl, nx, by omega, hsame, h2', h3'⟩
        · rintro _ H3 ⟨found', rfl, hg', hle', h6, h7, h8⟩
          refine ⟨_, rfl, .inl ⟨rfl, _, SqL.of h8⟩, _, rfl, sa, _, _, rfl, rfl, h8, (by rw [List.length_map, hg.len]; exact Nat.lt_of_le_of_lt (m := 2000) (by omega) (by decide)), ?_⟩
          refine ⟨found', sums ++ [smB M (i + 1)], _, _, rfl, hg', hle', fun b u e => ?_, ?_, ?_⟩
          · rw [upd_ne (ne_of_none e nsa)]; exact h6 b u e
          · rw [upd_ne fasa]; exact h7
          · rw [upd_same, List.map_append]; rfl
    · rintro σ H' ⟨found, sums, t3, t4, rfl, hg, hle, h1, h2, h3⟩
      rw [show (((N + 1 : Nat) : Int) - 1).toNat = N by omega] at hg
      refine ⟨_, rfl, fa, _, rfl, .inl ⟨SqL.of h2, fun l hl => ?_⟩⟩
      exact k found sums l _ hg (same_new h1 hl) (same_none h1 hl) upd_same
end
end K02

set_option Elab.async false
set_option linter.all false
namespace K02
/-! ### what two have in common: mathematics alone -/
/-- a shorter sum of the same class -/
theorem small_sum {k : List Nat} {a B : Nat} (ha : 0 < a) (hp : ∀ m ∈ k, 0 < m) (hB : ∀ m ∈ k, m ≤ B) : ∀ n, Sm k n → ∃ v, v ≤ (a - 1) * B ∧ Sm k v ∧ v % a = n % a := by
  intro n
  induction n using Nat.strongRecOn with | _ n ih =>
    intro hn
    by_cases c : n ≤ (a - 1) * B
    · exact ⟨n, c, hn, rfl⟩
    obtain ⟨xs, hx, hs⟩ := hn.list
    have long : a ≤ xs.length := by
      refine Nat.le_of_not_lt fun l => c ?_
      have := sum_le (B := B) fun x hx' => hB x (hx x hx')
      rw [← hs]
      exact Nat.le_trans this (Nat.mul_le_mul_right _ (by omega))
    obtain ⟨i, j, hij, hj, q⟩ := pigeon a (fun i => (xs.take i).sum % a) fun i _ => Nat.mod_lt _ ha
    have q' : (xs.take i).sum % a = (xs.take j).sum % a := q
    have s1 : xs.sum = (xs.take j).sum + (xs.drop j).sum := by
      have := congrArg List.sum (List.take_append_drop j xs).symm
      rwa [List.sum_append] at this
    have s2 : (xs.take j).sum = (xs.take i).sum + ((xs.take j).drop i).sum := by
      have e : xs.take i = (xs.take j).take i := by rw [List.take_take, Nat.min_eq_left (by omega)]
      have := congrArg List.sum (List.take_append_drop i (xs.take j)).symm
      rw [List.sum_append, ← e] at this
      exact this
    have pos : 0 < ((xs.take j).drop i).sum := by
      refine sum_pos (fun x hx' => hp x (hx x (List.mem_of_mem_take (List.mem_of_mem_drop hx')))) ?_
      rw [List.length_drop, List.length_take]; omega
    have less : Sm k ((xs.take i).sum + (xs.drop j).sum) := by
      have := Sm.of_list (M := k) (xs := xs.take i ++ xs.drop j) fun x hx' => by
        rcases List.mem_append.mp hx' with h | h
        · exact hx x (List.mem_of_mem_take h)
        · exact hx x (List.mem_of_mem_drop h)
      rwa [List.sum_append] at this
    obtain ⟨v, v1, v2, v3⟩ := ih _ (by omega) less
    refine ⟨v, v1, v2, ?_⟩
    rw [v3, ← hs, s1, Nat.add_mod, q', ← Nat.add_mod]
/-- makers in their least form, with bounds: of themselves, of their step, of the least sums -/
structure Lv (B G F : Nat) (k : List Nat) : Prop where
  p : ∀ m ∈ k, 1 ≤ m ∧ m ≤ B
  ne : 0 < k.length
  kp : Kept k k
  gd : gcdL k ≤ G
  fb : ∀ a ∈ k, ∀ n, Sm k n → ∃ v, v ≤ F ∧ Sm k v ∧ v % a = n % a
theorem Lv.mono {B G F B' G' F' : Nat} {k : List Nat} (h : Lv B G F k) (b : B ≤ B') (g : G ≤ G') (f : F ≤ F') : Lv B' G' F' k :=
  ⟨fun m hm => ⟨(h.p m hm).1, Nat.le_trans (h.p m hm).2 b⟩, h.ne, h.kp, Nat.le_trans h.gd g, fun a ha n hn => by
    obtain ⟨v, v1, v2⟩ := h.fb a ha n hn
    exact ⟨v, Nat.le_trans v1 f, v2⟩⟩
theorem Kept.self {k M : List Nat} (h : Kept k M) : Kept k k := ⟨h.asc, fun x hx => hx, fun x hx => .one hx, h.new⟩
theorem Lv.pos {B G F : Nat} {k : List Nat} (h : Lv B G F k) : ∀ m ∈ k, 0 < m := fun m hm => (h.p m hm).1
theorem Kept.ne {k M : List Nat} (h : Kept k M) (hM : 0 < M.length) (hp : ∀ m ∈ M, 0 < m) : 0 < k.length := by
  obtain ⟨m, hm⟩ := List.exists_mem_of_length_pos hM
  have s := h.all m hm
  have m0 := hp m hm
  cases k with
  | nil =>
    cases s with
    | zero => omega
    | add _ h => cases h
  | cons a l => exact Nat.zero_lt_succ _
/-- sums of numbers up to a bound -/
theorem lv_sums {k M : List Nat} {B : Nat} (h : Kept k M) (hM : 0 < M.length) (hp : ∀ m ∈ M, 1 ≤ m ∧ m ≤ B) {G : Nat} (g : gcdL M ≤ G) : Lv B G ((B - 1) * B) k := by
  have p : ∀ m ∈ k, 1 ≤ m ∧ m ≤ B := fun m hm => hp m (h.sub m hm)
  refine ⟨p, h.ne hM fun m hm => (hp m hm).1, h.self, by rw [h.gcd]; exact g, fun a ha n hn => ?_⟩
  obtain ⟨v, v1, v2⟩ := small_sum (a := a) (B := B) (p a ha).1 (fun m hm => (p m hm).1) (fun m hm => (p m hm).2) n hn
  exact ⟨v, Nat.le_trans v1 (Nat.mul_le_mul_right _ (by have := (p a ha).2; omega)), v2⟩
theorem gcdL_le {M : List Nat} (hM : 0 < M.length) {B : Nat} (hp : ∀ m ∈ M, 1 ≤ m ∧ m ≤ B) : gcdL M ≤ B := by
  obtain ⟨m, hm⟩ := List.exists_mem_of_length_pos hM
  exact Nat.le_trans (Nat.le_of_dvd (hp m hm).1 (gcdL_dvd hm)) (hp m hm).2
theorem gcdL_pos {M : List Nat} (hM : 0 < M.length) (hp : ∀ m ∈ M, 0 < m) : 0 < gcdL M := by
  obtain ⟨m, hm⟩ := List.exists_mem_of_length_pos hM
  exact Nat.pos_of_dvd_of_pos (gcdL_dvd hm) (hp m hm)
theorem gcdL_app {k1 k2 : List Nat} {G : Nat} (h1 : 0 < k1.length) (h2 : 0 < k2.length) (p1 : ∀ m ∈ k1, 0 < m) (p2 : ∀ m ∈ k2, 0 < m) (g : gcdL k1 ≤ G ∨ gcdL k2 ≤ G) : gcdL (k1 ++ k2) ≤ G := by
  rcases g with g | g
  · exact Nat.le_trans (Nat.le_of_dvd (gcdL_pos h1 p1) (dvd_gcdL fun m hm => gcdL_dvd (List.mem_append_left _ hm))) g
  · exact Nat.le_trans (Nat.le_of_dvd (gcdL_pos h2 p2) (dvd_gcdL fun m hm => gcdL_dvd (List.mem_append_right _ hm))) g
/-- the numbers that the program hands to the sums: multiples of the step -/
noncomputable def shL (k1 k2 : List Nat) (st n : Nat) : List Nat := ((List.range n).map fun i => st + i * st).filter fun m => smB k1 m && smB k2 m
theorem mem_sh {k1 k2 : List Nat} {st n m : Nat} : m ∈ shL k1 k2 st n ↔ (∃ i, i < n ∧ m = st + i * st) ∧ Sm k1 m ∧ Sm k2 m := by
  unfold shL
  rw [List.mem_filter, Bool.and_eq_true, smB_iff, smB_iff, List.mem_map]
  exact ⟨fun ⟨⟨i, hi, e⟩, h⟩ => ⟨⟨i, List.mem_range.mp hi, e.symm⟩, h⟩, fun ⟨⟨i, hi, e⟩, h⟩ => ⟨⟨i, List.mem_range.mpr hi, e.symm⟩, h⟩⟩
theorem sh_succ {k1 k2 : List Nat} {st n : Nat} : shL k1 k2 st (n + 1) = shL k1 k2 st n ++ if (smB k1 (st + n * st) && smB k2 (st + n * st)) = true then [st + n * st] else [] := by
  unfold shL
  rw [List.range_succ, List.map_append, List.filter_append]
  congr 1
  cases h : (smB k1 (st + n * st) && smB k2 (st + n * st)) with
  | true => rw [show List.map (fun i => st + i * st) [n] = [st + n * st] from rfl, List.filter_cons_of_pos (p := fun m => smB k1 m && smB k2 m) h]; rfl
  | false => rw [show List.map (fun i => st + i * st) [n] = [st + n * st] from rfl, List.filter_cons_of_neg (p := fun m => smB k1 m && smB k2 m) (by rw [h]; exact Bool.false_ne_true)]; rfl
theorem sh_len {k1 k2 : List Nat} {st n : Nat} : (shL k1 k2 st n).length ≤ n := by
  unfold shL
  have := List.length_filter_le (fun m => smB k1 m && smB k2 m) ((List.range n).map fun i => st + i * st)
  rwa [List.length_map, List.length_range] at this
/-- from far on a list has all that its step divides -/
def FarAt (k : List Nat) (far : Nat) : Prop := ∀ n, far ≤ n → gcdL k ∣ n → Sm k n
theorem FarAt.mono {k : List Nat} {far far' : Nat} (h : FarAt k far) (l : far ≤ far') : FarAt k far' := fun n hn hd => h n (Nat.le_trans l hn) hd
structure ShOk (k1 k2 : List Nat) (st far n : Nat) : Prop where
  f1 : FarAt k1 far
  f2 : FarAt k2 far
  st_ : st = Nat.lcm (gcdL k1) (gcdL k2)
  s0 : 0 < st
  hn : ∀ i, i < n ↔ st + i * st ≤ 2 * far + st
section
variable {k1 k2 : List Nat} {st far n : Nat}
theorem ShOk.dvd (h : ShOk k1 k2 st far n) {m : Nat} (a : Sm k1 m) (b : Sm k2 m) : st ∣ m := by
  rw [h.st_]
  exact Nat.lcm_dvd (sm_dvd (fun x hx => gcdL_dvd hx) a) (sm_dvd (fun x hx => gcdL_dvd hx) b)
theorem ShOk.above (h : ShOk k1 k2 st far n) {m : Nat} (hm : far ≤ m) (d : st ∣ m) : Sm k1 m ∧ Sm k2 m := by
  rw [h.st_] at d
  exact ⟨h.f1 m hm (Nat.dvd_trans (Nat.dvd_lcm_left _ _) d), h.f2 m hm (Nat.dvd_trans (Nat.dvd_lcm_right _ _) d)⟩
/-- a shared number just above far -/
theorem ShOk.first (h : ShOk k1 k2 st far n) : ∃ m, far < m ∧ m ≤ far + st ∧ st ∣ m ∧ m ∈ shL k1 k2 st n := by
  have s0 := h.s0
  have e := Nat.div_add_mod far st
  have l := Nat.mod_lt far s0
  have d : st ∣ st + (far / st) * st := ⟨1 + far / st, by rw [Nat.mul_add, Nat.mul_one, Nat.mul_comm st (far / st)]⟩
  have c : st * (far / st) = (far / st) * st := Nat.mul_comm _ _
  refine ⟨st + (far / st) * st, by omega, by omega, d, mem_sh.mpr ⟨⟨far / st, (h.hn _).mpr (by omega), rfl⟩, h.above (by omega) d⟩⟩
theorem ShOk.mem (h : ShOk k1 k2 st far n) {m : Nat} (m0 : 0 < m) (l : m ≤ 2 * far + st) (a : Sm k1 m) (b : Sm k2 m) : m ∈ shL k1 k2 st n := by
  obtain ⟨q, e⟩ := h.dvd a b
  cases q with
  | zero => omega
  | succ q =>
    have e2 : m = st + q * st := by rw [e, Nat.mul_succ, Nat.mul_comm, Nat.add_comm]
    exact mem_sh.mpr ⟨⟨q, (h.hn q).mpr (by omega), e2⟩, a, b⟩
theorem ShOk.iff (h : ShOk k1 k2 st far n) : ∀ m, Sm (shL k1 k2 st n) m ↔ Sm k1 m ∧ Sm k2 m := by
  intro m
  refine ⟨fun s => ⟨s.trans fun x hx => (mem_sh.mp hx).2.1, s.trans fun x hx => (mem_sh.mp hx).2.2⟩, ?_⟩
  induction m using Nat.strongRecOn with | _ m ih =>
    intro ⟨a, b⟩
    rcases Nat.eq_zero_or_pos m with z | z
    · rw [z]; exact .zero
    by_cases l : m ≤ 2 * far + st
    · exact .one (h.mem z l a b)
    · obtain ⟨x, x1, x2, x3, x4⟩ := h.first
      have d : st ∣ m - x := Nat.dvd_sub (h.dvd a b) x3
      have := Sm.add (ih (m - x) (by omega) (h.above (by omega) d)) x4
      rwa [Nat.sub_add_cancel (by omega)] at this
theorem ShOk.lv (h : ShOk k1 k2 st far n) {k : List Nat} (kp : Kept k (shL k1 k2 st n)) {B : Nat} (hB : 2 * far + st ≤ B) : Lv B st (far + B) k := by
  have s0 := h.s0
  obtain ⟨x, x1, x2, x3, x4⟩ := h.first
  have pm : ∀ m ∈ shL k1 k2 st n, 1 ≤ m ∧ m ≤ B := fun m hm => by
    obtain ⟨⟨i, hi, e⟩, _⟩ := mem_sh.mp hm
    have := (h.hn i).mp hi
    omega
  have p : ∀ m ∈ k, 1 ≤ m ∧ m ≤ B := fun m hm => pm m (kp.sub m hm)
  refine ⟨p, kp.ne (List.length_pos_of_mem x4) fun m hm => (pm m hm).1, kp.self, ?_, fun a ha m => ?_⟩
  · have all : ∀ m, Sm k1 m ∧ Sm k2 m → gcdL k ∣ m := fun m hm => sm_dvd (fun y hy => gcdL_dvd hy) ((kp.same m).mpr ((h.iff m).mpr hm))
    have d1 := all x (h.above (by omega) x3)
    have d2 := all (x + st) (h.above (by omega) (Nat.dvd_add x3 (Nat.dvd_refl _)))
    exact Nat.le_of_dvd s0 ((Nat.dvd_add_right d1).mp d2)
  · have ab := (h.iff a).mp (.one (kp.sub a ha))
    have pa := p a ha
    induction m using Nat.strongRecOn with | _ m ih =>
      intro hm
      by_cases l : m ≤ far + B
      · exact ⟨m, l, hm, rfl⟩
      · have mm := (h.iff m).mp ((kp.same m).mp hm)
        have d : st ∣ m - a := Nat.dvd_sub (h.dvd mm.1 mm.2) (h.dvd ab.1 ab.2)
        obtain ⟨v, v1, v2, v3⟩ := ih (m - a) (by omega) ((kp.same _).mpr ((h.iff _).mpr (h.above (by omega) d)))
        refine ⟨v, v1, v2, ?_⟩
        rw [v3]
        have := Nat.add_mod_right (m - a) a
        rwa [Nat.sub_add_cancel (by omega), eq_comm] at this
end
end K02

set_option Elab.async false
set_option linter.all false
set_option maxRecDepth 100000
set_option maxHeartbeats 2000000
namespace K02
open PySem L2
/-! ### what a lot is worth: its word, its makers in their least form -/
structure LvOk (B G F : Nat) (z : Str) (k : List Nat) : Prop where
  wd : z = "once" ∨ z = "loan" ∨ z = "free" ∨ z = "more"
  no : z ≠ "more" → k = []
  mo : z = "more" → Lv B G F k
theorem LvOk.mono {B G F B' G' F' : Nat} {z : Str} {k : List Nat} (h : LvOk B G F z k) (b : B ≤ B') (g : G ≤ G') (f : F ≤ F') : LvOk B' G' F' z k := ⟨h.wd, h.no, fun e => (h.mo e).mono b g f⟩
theorem LvOk.words {B G F : Nat} {z : Str} {k : List Nat} (h : LvOk B G F z k) : words.contains z = true := by
  rcases h.wd with rfl | rfl | rfl | rfl <;> decide +kernel
theorem fl_once {k : List Nat} {n : Nat} : flagOf "once" k n = decide (n = 1) := by simp [flagOf, once_free, once_more, once_loan]
theorem fl_loan {k : List Nat} {n : Nat} : flagOf "loan" k n = decide (n ≤ 1) := by simp [flagOf, loan_free, loan_more]
theorem fl_free {k : List Nat} {n : Nat} : flagOf "free" k n = true := by simp [flagOf]
theorem fl_more0 {k : List Nat} : flagOf "more" k 0 = false := by simp [flagOf, more_free]
theorem fl_more {k : List Nat} {n : Nat} : flagOf "more" k (n + 1) = smB k n := by simp [flagOf, more_free]
theorem fl_ne {z : Str} {k k' : List Nat} {n : Nat} (h : z ≠ "more") : flagOf z k n = flagOf z k' n := by unfold flagOf; rw [if_neg h, if_neg h]
theorem fl_congr {z : Str} {k M : List Nat} (h : z = "more" → ∀ n, Sm k n ↔ Sm M n) (n : Nat) : flagOf z k n = flagOf z M n := by
  by_cases c : z = "more"
  · subst c
    cases n with
    | zero => rw [fl_more0, fl_more0]
    | succ n => rw [fl_more, fl_more, Bool.eq_iff_iff, smB_iff, smB_iff]; exact h rfl n
  · exact fl_ne c
section
variable {B G F B1 G1 F1 B2 G2 F2 B3 G3 F3 : Nat} {z z1 z2 z3 : Str} {k k1 k2 k3 : List Nat}
theorem fl_one (h : LvOk B G F z k) : flagOf z k 1 = true := by
  rcases h.wd with rfl | rfl | rfl | rfl
  · rw [fl_once]; rfl
  · rw [fl_loan]; rfl
  · exact fl_free
  · rw [fl_more]; exact smB_iff.mpr .zero
theorem more_member (h : LvOk B G F "more" k) : ∃ m, 1 ≤ m ∧ m ≤ B ∧ m ∈ k ∧ flagOf "more" k (m + 1) = true := by
  obtain ⟨m, hm⟩ := List.exists_mem_of_length_pos (h.mo rfl).ne
  exact ⟨m, ((h.mo rfl).p m hm).1, ((h.mo rfl).p m hm).2, hm, by rw [fl_more]; exact smB_iff.mpr (.one hm)⟩
theorem low_two {m : Nat} (h : 1 ≤ m) : flagOf "once" k (m + 1) = false ∧ flagOf "loan" k (m + 1) = false := by
  rw [fl_once, fl_loan]
  exact ⟨decide_eq_false (by omega), decide_eq_false (by omega)⟩
/-- what holds 0, what holds more than 1 -/
theorem has0 (h : LvOk B G F z k) (e : flagOf z k 0 = true) : z = "loan" ∨ z = "free" := by
  rcases h.wd with rfl | rfl | rfl | rfl
  · rw [fl_once] at e; cases e
  · exact .inl rfl
  · exact .inr rfl
  · rw [fl_more0] at e; cases e
theorem has2 (h : LvOk B G F z k) {m : Nat} (m1 : 1 ≤ m) (e : flagOf z k (m + 1) = true) : z = "free" ∨ z = "more" := by
  rcases h.wd with rfl | rfl | rfl | rfl
  · rw [(low_two m1).1] at e; cases e
  · rw [(low_two m1).2] at e; cases e
  · exact .inl rfl
  · exact .inr rfl
def Inn (z : Str) (k : List Nat) (z' : Str) (k' : List Nat) : Prop := ∀ n, flagOf z k n = true → flagOf z' k' n = true
theorem LvOk.uniq (h1 : LvOk B1 G1 F1 z1 k1) (h2 : LvOk B2 G2 F2 z2 k2) (a : Inn z1 k1 z2 k2) (b : Inn z2 k2 z1 k1) : z1 = z2 ∧ k1 = k2 := by
  have key : ∀ {B1 G1 F1 B2 G2 F2 : Nat} {z1 z2 : Str} {k1 k2 : List Nat}, LvOk B1 G1 F1 z1 k1 → LvOk B2 G2 F2 z2 k2 → Inn z1 k1 z2 k2 → Inn z2 k2 z1 k1 → (z1 = "loan" ∨ z1 = "free" → z2 = "loan" ∨ z2 = "free") ∧ (z1 = "free" ∨ z1 = "more" → z2 = "free" ∨ z2 = "more") := by
    intro B1 G1 F1 B2 G2 F2 z1 z2 k1 k2 h1 h2 a b
    refine ⟨fun c => has0 h2 (a 0 ?_), fun c => ?_⟩
    · rcases c with rfl | rfl
      · rw [fl_loan]; rfl
      · exact fl_free
    · rcases c with rfl | rfl
      · exact has2 h2 (Nat.le_refl 1) (a 2 fl_free)
      · obtain ⟨m, m1, _, _, m3⟩ := more_member h1
        exact has2 h2 m1 (a _ m3)
  obtain ⟨q1, q2⟩ := key h1 h2 a b
  obtain ⟨q3, q4⟩ := key h2 h1 b a
  have ez : z1 = z2 := by
    rcases h1.wd with rfl | rfl | rfl | rfl <;> rcases h2.wd with rfl | rfl | rfl | rfl <;> first
      | rfl
      | (have := q1 (.inl rfl); revert this; decide +kernel)
      | (have := q1 (.inr rfl); revert this; decide +kernel)
      | (have := q2 (.inl rfl); revert this; decide +kernel)
      | (have := q2 (.inr rfl); revert this; decide +kernel)
      | (have := q3 (.inl rfl); revert this; decide +kernel)
      | (have := q3 (.inr rfl); revert this; decide +kernel)
      | (have := q4 (.inl rfl); revert this; decide +kernel)
      | (have := q4 (.inr rfl); revert this; decide +kernel)
  refine ⟨ez, ?_⟩
  subst ez
  by_cases c : z1 = "more"
  · subst c
    have l1 := h1.mo rfl
    have l2 := h2.mo rfl
    have same : ∀ n, Sm k1 n ↔ Sm k2 n := fun n => by
      rw [← smB_iff, ← smB_iff, ← fl_more, ← fl_more]
      exact ⟨a _, b _⟩
    exact asc_eq l1.kp.asc l2.kp.asc fun x => by
      rw [l1.kp.gen l1.pos, l2.kp.gen l2.pos]
      exact ⟨IsGen.congr l1.pos l2.pos same x, IsGen.congr l2.pos l1.pos (fun n => (same n).symm) x⟩
  · rw [h1.no c, h2.no c]
/-- the word of what lies around two -/
def arW (z1 z2 : Str) : Str := if z1 = "once" then z2 else if z2 = "once" then z1 else if z1 = "more" ∧ z2 = "more" then "more" else if z1 = "loan" ∧ z2 = "loan" then "loan" else "free"
theorem arW_cases (z1 z2 : Str) : (z1 = "once" ∧ arW z1 z2 = z2) ∨ (z2 = "once" ∧ arW z1 z2 = z1) ∨ (z1 = "more" ∧ z2 = "more" ∧ arW z1 z2 = "more") ∨ (z1 = "loan" ∧ z2 = "loan" ∧ arW z1 z2 = "loan") ∨
    (z1 ≠ "once" ∧ z2 ≠ "once" ∧ ¬ (z1 = "more" ∧ z2 = "more") ∧ ¬ (z1 = "loan" ∧ z2 = "loan") ∧ arW z1 z2 = "free") := by
  unfold arW
  by_cases a : z1 = "once"
  · rw [if_pos a]; exact .inl ⟨a, rfl⟩
  rw [if_neg a]
  by_cases b : z2 = "once"
  · rw [if_pos b]; exact .inr (.inl ⟨b, rfl⟩)
  rw [if_neg b]
  by_cases c : z1 = "more" ∧ z2 = "more"
  · rw [if_pos c]; exact .inr (.inr (.inl ⟨c.1, c.2, rfl⟩))
  rw [if_neg c]
  by_cases d : z1 = "loan" ∧ z2 = "loan"
  · rw [if_pos d]; exact .inr (.inr (.inr (.inl ⟨d.1, d.2, rfl⟩)))
  rw [if_neg d]
  exact .inr (.inr (.inr (.inr ⟨a, b, c, d, rfl⟩)))
/-- what lies around two -/
structure Ar (z1 : Str) (k1 : List Nat) (z2 : Str) (k2 : List Nat) (z : Str) (k : List Nat) : Prop where
  w : z = arW z1 z2
  s : z = "more" → ∀ n, Sm k n ↔ Sm (k1 ++ k2) n
theorem sm_swap {n : Nat} : Sm (k1 ++ k2) n ↔ Sm (k2 ++ k1) n :=
  ⟨fun h => h.mono fun m hm => List.mem_append.mpr (List.mem_append.mp hm).symm, fun h => h.mono fun m hm => List.mem_append.mpr (List.mem_append.mp hm).symm⟩
theorem arW_symm : arW z1 z2 = arW z2 z1 := by
  unfold arW
  by_cases a : z1 = "once"
  · by_cases b : z2 = "once"
    · rw [a, b]
    · rw [if_pos a, if_neg b, if_pos a]
  · by_cases b : z2 = "once"
    · rw [if_neg a, if_pos b, if_pos b]
    · rw [if_neg a, if_neg b, if_neg b, if_neg a]
      simp only [And.comm]
theorem Ar.symm (h : Ar z1 k1 z2 k2 z k) : Ar z2 k2 z1 k1 z k := ⟨h.w.trans arW_symm, fun e n => (h.s e n).trans sm_swap⟩
/-- the same numbers as one of them, the other holding just 1 -/
theorem Ar.as (h : Ar z1 k1 z2 k2 z k) (h1 : LvOk B1 G1 F1 z1 k1) (c : z1 = "once") (n : Nat) : flagOf z k n = flagOf z2 k2 n := by
  have e : z = z2 := by rw [h.w]; unfold arW; rw [if_pos c]
  subst e
  have k0 : k1 = [] := h1.no fun q => once_more (c.symm.trans q)
  exact fl_congr (fun e n => by rw [h.s e n, k0, List.nil_append]) n
theorem Ar.left (h : Ar z1 k1 z2 k2 z k) (h1 : LvOk B1 G1 F1 z1 k1) (h2 : LvOk B2 G2 F2 z2 k2) (hv : LvOk B G F z k) : Inn z1 k1 z k := by
  intro n hn
  rcases arW_cases z1 z2 with ⟨a, _⟩ | ⟨a, _⟩ | ⟨a, b, e⟩ | ⟨a, b, e⟩ | ⟨_, _, _, _, e⟩
  · subst a
    rw [fl_once, decide_eq_true_eq] at hn
    rw [hn]; exact fl_one hv
  · rw [h.symm.as h2 a]; exact hn
  · subst a b
    rw [← h.w] at e
    subst e
    cases n with
    | zero => rw [fl_more0] at hn; cases hn
    | succ n =>
      rw [fl_more, smB_iff] at hn
      rw [fl_more, smB_iff, h.s rfl]
      exact hn.mono fun m hm => List.mem_append_left _ hm
  · subst a
    rw [← h.w] at e
    subst e
    rw [fl_ne loan_more]; exact hn
  · rw [← h.w] at e
    subst e
    exact fl_free
theorem Ar.right (h : Ar z1 k1 z2 k2 z k) (h1 : LvOk B1 G1 F1 z1 k1) (h2 : LvOk B2 G2 F2 z2 k2) (hv : LvOk B G F z k) : Inn z2 k2 z k := h.symm.left h2 h1 hv
theorem Ar.least (h : Ar z1 k1 z2 k2 z k) (h1 : LvOk B1 G1 F1 z1 k1) (h2 : LvOk B2 G2 F2 z2 k2) (h3 : LvOk B3 G3 F3 z3 k3) (a3 : Inn z1 k1 z3 k3) (b3 : Inn z2 k2 z3 k3) : Inn z k z3 k3 := by
  intro n hn
  rcases arW_cases z1 z2 with ⟨a, _⟩ | ⟨a, _⟩ | ⟨a, b, e⟩ | ⟨a, b, e⟩ | ⟨a, b, c, d, e⟩
  · rw [h.as h1 a] at hn; exact b3 n hn
  · rw [h.symm.as h2 a] at hn; exact a3 n hn
  · subst a b
    rw [← h.w] at e
    subst e
    cases n with
    | zero => rw [fl_more0] at hn; cases hn
    | succ n =>
      rw [fl_more, smB_iff, h.s rfl] at hn
      obtain ⟨m, m1, _, _, m3⟩ := more_member h1
      rcases has2 h3 m1 (a3 _ m3) with rfl | rfl
      · exact fl_free
      · rw [fl_more, smB_iff]
        refine hn.trans fun x hx => ?_
        rw [← smB_iff, ← fl_more]
        obtain hx | hx := List.mem_append.mp hx
        · exact a3 _ (by rw [fl_more, smB_iff]; exact .one hx)
        · exact b3 _ (by rw [fl_more, smB_iff]; exact .one hx)
  · subst a
    rw [← h.w] at e
    subst e
    rw [fl_ne (k' := k1) loan_more] at hn
    exact a3 n hn
  · have z0 : flagOf z3 k3 0 = true := by
      rcases h1.wd with rfl | rfl | rfl | rfl
      · exact absurd rfl a
      · exact a3 0 (by rw [fl_loan]; rfl)
      · exact a3 0 fl_free
      · rcases h2.wd with rfl | rfl | rfl | rfl
        · exact absurd rfl b
        · exact b3 0 (by rw [fl_loan]; rfl)
        · exact b3 0 fl_free
        · exact absurd ⟨rfl, rfl⟩ c
    have z2' : z3 = "free" ∨ z3 = "more" := by
      rcases h1.wd with rfl | rfl | rfl | rfl
      · exact absurd rfl a
      · rcases h2.wd with rfl | rfl | rfl | rfl
        · exact absurd rfl b
        · exact absurd ⟨rfl, rfl⟩ d
        · exact has2 h3 (Nat.le_refl 1) (b3 2 fl_free)
        · obtain ⟨m, m1, _, _, m3⟩ := more_member h2
          exact has2 h3 m1 (b3 _ m3)
      · exact has2 h3 (Nat.le_refl 1) (a3 2 fl_free)
      · obtain ⟨m, m1, _, _, m3⟩ := more_member h1
        exact has2 h3 m1 (a3 _ m3)
    rcases has0 h3 z0 with q | q
    · subst q
      rcases z2' with q | q
      · exact absurd q loan_free
      · exact absurd q loan_more
    · subst q; exact fl_free
theorem Ar.eq_iff (h : Ar z1 k1 z2 k2 z k) (h1 : LvOk B1 G1 F1 z1 k1) (h2 : LvOk B2 G2 F2 z2 k2) (hv : LvOk B G F z k) : (z = z2 ∧ k = k2) ↔ Inn z1 k1 z2 k2 := by
  refine ⟨fun ⟨e1, e2⟩ => ?_, fun i => hv.uniq h2 (h.least h1 h2 h2 i fun n hn => hn) (h.right h1 h2 hv)⟩
  have := h.left h1 h2 hv
  rwa [e1, e2] at this
/-- what two have in common -/
def Cm (z1 : Str) (k1 : List Nat) (z2 : Str) (k2 : List Nat) (z : Str) (k : List Nat) : Prop := ∀ n, flagOf z k n = (flagOf z1 k1 n && flagOf z2 k2 n)
theorem Cm.symm (h : Cm z1 k1 z2 k2 z k) : Cm z2 k2 z1 k1 z k := fun n => by rw [h n, Bool.and_comm]
theorem Cm.left (h : Cm z1 k1 z2 k2 z k) : Inn z k z1 k1 := fun n hn => by
  rw [h n, Bool.and_eq_true] at hn
  exact hn.1
theorem Cm.right (h : Cm z1 k1 z2 k2 z k) : Inn z k z2 k2 := h.symm.left
theorem Cm.most (h : Cm z1 k1 z2 k2 z k) (a : Inn z3 k3 z1 k1) (b : Inn z3 k3 z2 k2) : Inn z3 k3 z k := fun n hn => by
  rw [h n, Bool.and_eq_true]
  exact ⟨a n hn, b n hn⟩
theorem Inn.trans (a : Inn z1 k1 z2 k2) (b : Inn z2 k2 z3 k3) : Inn z1 k1 z3 k3 := fun n hn => b n (a n hn)
/-- what holds up to four hundred holds of all -/
theorem inn_near (h1 : LvOk B1 G1 F1 z1 k1) (h2 : LvOk B2 G2 F2 z2 k2) (hB : B1 ≤ 399) (a : ∀ n, n ≤ 400 → flagOf z1 k1 n = true → flagOf z2 k2 n = true) : Inn z1 k1 z2 k2 := by
  intro n hn
  rcases h1.wd with rfl | rfl | rfl | rfl
  · rw [fl_once, decide_eq_true_eq] at hn
    rw [hn]; exact fl_one h2
  · rw [fl_loan, decide_eq_true_eq] at hn
    exact a n (by omega) (by rw [fl_loan]; exact decide_eq_true hn)
  · rcases has0 h2 (a 0 (by omega) fl_free) with q | q
    · subst q
      rcases has2 h2 (Nat.le_refl 1) (a 2 (by omega) fl_free) with q | q
      · exact absurd q loan_free
      · exact absurd q loan_more
    · subst q; exact fl_free
  · obtain ⟨m, m1, m2, _, m3⟩ := more_member h1
    rcases has2 h2 m1 (a _ (by omega) m3) with rfl | rfl
    · exact fl_free
    · cases n with
      | zero => rw [fl_more0] at hn; cases hn
      | succ n =>
        rw [fl_more, smB_iff] at hn
        rw [fl_more, smB_iff]
        refine hn.trans fun x hx => ?_
        rw [← smB_iff, ← fl_more]
        have := ((h1.mo rfl).p x hx).2
        exact a _ (by omega) (by rw [fl_more, smB_iff]; exact .one hx)
end
end K02

set_option Elab.async false
set_option linter.all false
set_option maxRecDepth 100000
set_option maxHeartbeats 2000000
namespace L2
open PySem PySem.Spec PyProof.Rows
section
variable {X : Cx}
/-- math.lcm -/
def rLcm : List V → Hp → VK → Prop := fun vs H Q => ∃ a b : Int, vs = [.int a, .int b] ∧ a.natAbs < 2 ^ 64 ∧ b.natAbs < 2 ^ 64 ∧ Q (.int ((Nat.lcm a.natAbs b.natAbs : Nat) : Int)) H
theorem cr_lcm : CallR X (.builtin "math.lcm") rLcm := by
  rintro pins s σ H vs us Q I r ⟨a, b, rfl, ha, hb, q⟩
  (obtain ⟨t, u, rfl⟩ := Vals.int2 r)
  exact PySem.W.mc_lcm ha hb fun _ => ⟨.int _, H, I.tok _, ⟨_, rfl⟩, q⟩
/-- a range with a step, as a value -/
def rgO (p : Addr) (i j c : Int) : HO := .ext fun h => ∃ t u v, h.get? p = some { cls := .type "range", data := .fields #[.int i t, .int j u, .int c v] }
def rRange3 : List V → Hp → VK → Prop := fun vs H Q => ∃ i j c : Int, vs = [.int i, .int j, .int c] ∧ c ≠ 0 ∧ c.natAbs < 1073741824 ∧ ∀ p, H p = none → Q (.ref p) (upd H p (rgO p i j c))
theorem cr_range3 : CallR X (.type "range") rRange3 := by
  rintro pins s σ H vs us Q I r ⟨i, j, c, rfl, c0, c1, q⟩
  cases r with
  | cons r rr =>
    cases rr with
    | cons r' rr =>
      cases rr with
      | cons r'' rr =>
        cases rr
        obtain ⟨t, rfl⟩ := r
        obtain ⟨t', rfl⟩ := r'
        obtain ⟨t'', rfl⟩ := r''
        refine call_range_3 c0 ⟨.ref s.heap.objs.size, upd H s.heap.objs.size (rgO s.heap.objs.size i j c), I.laid (t' := s.toks) (fun b o e => Heap.get?_push_of_some _ e) (Nat.le_refl _) ?_, rfl, q _ (I.hok.fresh (Nat.le_refl _))⟩ (.inl (PyProof.noPylong_small c1))
        exact ⟨⟨t, t', t'', Heap.get?_push_size _ rfl⟩, ⟨_, Heap.get?_push_size _ rfl⟩, fun h1 h2 ⟨t, u, v, e⟩ k => ⟨t, u, v, k _ e⟩⟩
/-- what walks over such a range that a name holds -/
def iRgV (tl : TE) : TI := fun σ H R => tl σ H fun x H1 => ∃ (a : Addr) (i j c : Int) (n : Nat), x = .ref a ∧ H1 a = some (rgO a i j c) ∧ RgC i j c n ∧ R (Itc i c n) H1
theorem pi_rgV {tg l : Expr} {tl : TE} (hl : PE X l tl) : PI X tg l (iRgV tl) := by
  refine (⟨fun pins s σ H R I h => ?_⟩)
  refine (thn (hl.run pins s σ H _ I h) fun v s1 ⟨x, H1, I1, r1, q1⟩ => ?_)
  obtain ⟨a, i, j, c, n, e, ha, ⟨c0, c1, c2, c3⟩, q⟩ := q1
  subst e
  cases r1
  obtain ⟨⟨t, u, w, here⟩, _, _⟩ := I1.hok a _ ha
  refine wpAny_pyIter_range (s := s1) (r := a) (a := i) (b := j) (c := c) (t := t) (u := u) (v := w) here c2 ?_
  refine pi_one (tk := s1.toks) I1 _ (turn_rangeC _ i c n) ?_ q
  have e1 : i + ((0 : Nat) : Int) * c = i := by simp
  have e2 : (n : Int) - ((0 : Nat) : Int) = Builtin.Range.rangeSize i j c := by rw [c3]; simp
  show IsRangeIter _ _ (i + ((0 : Nat) : Int) * c) ((n : Int) - ((0 : Nat) : Int)) c
  rw [e1, e2]
  exact (Heap.get?_push_size _ rfl)
/-- how many numbers: st, 2 st, .. up to 2 far + st -/
theorem rgC_mult {st far : Nat} (h0 : 0 < st) (h1 : st < 1000000000) (h2 : far < 1000000000) : RgC (st : Int) (2 * (far : Int) + (st : Int) + 1) (st : Int) (2 * far / st + 1) := by
  have size : Builtin.Range.rangeSize (st : Int) (2 * (far : Int) + (st : Int) + 1) (st : Int) = ((2 * far / st + 1 : Nat) : Int) := by
    (unfold Builtin.Range.rangeSize)
    rw [if_pos (show (st : Int) > 0 by omega), if_pos (by omega), show 2 * (far : Int) + (st : Int) + 1 - (st : Int) - 1 = ((2 * far : Nat) : Int) by omega, ← Int.natCast_ediv]
    rfl
  have le : 2 * far / st ≤ 2 * far := Nat.div_le_self _ _
  refine ⟨by omega, by rw [Int.natAbs_natCast]; omega, ?_, size⟩
  unfold Builtin.Range.small
  rw [size]
  simp only [Builtin.Range.rangeFitsLong, Bool.and_eq_true, Bool.or_eq_true, decide_eq_true_eq, beq_iff_eq]
  rw [if_pos (show (st : Int) > 0 by omega)]
  (simp only [Bool.and_eq_true, decide_eq_true_eq])
  generalize 2 * far / st = q at *
  refine ⟨⟨⟨⟨by omega, by omega⟩, ⟨by omega, by omega⟩⟩, by omega, by omega⟩, .inr ⟨by omega, by omega⟩⟩
end
end L2

set_option Elab.async false
set_option linter.all false
set_option maxRecDepth 100000
set_option maxHeartbeats 4100000
namespace K02
open PySem L2
abbrev sShared : Stmt := top 11
abbrev sMore : Stmt := top 19
abbrev sWithinL : Stmt := top 21
abbrev sCommon : Stmt := top 22
abbrev sAround : Stmt := top 23
/-- what is known of a Sums object whose makers are in their least form -/
structure SmB (CS : Addr) (H : Hp) (s tk la a : Addr) (L : Nat → Option Nat) (k : List Nat) (far B G F : Nat) : Prop where
  so : SumOb CS H s tk k la a L k far
  lv : Lv B G F k
  f : far ≤ F
theorem far_bound {CS : Addr} {H : Hp} {s tk la a : Addr} {L : Nat → Option Nat} {M k : List Nat} {far B G F : Nat} (so : SumOb CS H s tk M la a L k far) (lv : Lv B G F k) : far ≤ F := by
  obtain ⟨j, hj, e⟩ := so.fe
  obtain ⟨e1, e2⟩ := so.ok.sound j hj far e
  obtain ⟨v, v1, v2, v3⟩ := lv.fb a so.ok.mem far e2
  obtain ⟨u, u1, u2⟩ := hasB_iff.mp (so.ok.full v v2)
  rw [v3, e1, e] at u1
  cases u1
  omega
theorem SumOb.low {CS : Addr} {H : Hp} {s tk la a : Addr} {L : Nat → Option Nat} {M k : List Nat} {far : Nat} (so : SumOb CS H s tk M la a L k far) : SumOb CS H s tk k la a L k far := ⟨so.ob, so.ls, so.mkr, so.ok, so.kp.self, so.ab, so.fr, so.fe⟩
theorem SumOb.farAt {CS : Addr} {H : Hp} {s tk la a : Addr} {L : Nat → Option Nat} {M k : List Nat} {far : Nat} (so : SumOb CS H s tk M la a L k far) : FarAt k far := fun n hn hd => so.ok.far so.fr hn hd
/-- the numbers told to a call of Sums -/
noncomputable def spShared (K : PySem.W.Frag) (CS : Addr) : Sp := fun vs H Q _ => ∃ (x y : Addr) (tx ty lx ly ax ay : Addr) (Lx Ly : Nat → Option Nat) (k1 k2 : List Nat) (f1 f2 : Nat), vs = [.ref x, .ref y] ∧ SumOb CS H x tx k1 lx ax Lx k1 f1 ∧ SumOb CS H y ty k2 ly ay Ly k2 f2 ∧
  0 < gcdL k1 ∧ gcdL k1 ≤ 100000 ∧ 0 < gcdL k2 ∧ gcdL k2 ≤ 100000 ∧ f1 ≤ 200000 ∧ f2 ≤ 200000 ∧ Nat.lcm (gcdL k1) (gcdL k2) ≤ 100000 ∧
  ∀ s tk la a L k far H' n, Same H H' → H s = none → ShOk k1 k2 (Nat.lcm (gcdL k1) (gcdL k2)) (max f1 f2) n → SumOb CS H' s tk (shL k1 k2 (Nat.lcm (gcdL k1) (gcdL k2)) n) la a L k far → Q (.ref s) H'
section
variable {P : Program} {w : World} {K : PySem.W.Frag} {mg : Str → Option Value} {base : Heap} {CL CS aW fE CB fI fS fSH fSW fSR : Addr} {fdI fdS fdSH fdSW fdSR : FuncData}
theorem scShared : FnScope ["sums", "others", "step", "far", "bounded", "number"] ["sums", "others"] (defScope sShared) := ⟨rfl, rfl, rfl, by decide +kernel, rfl, by decide +kernel, by decide +kernel⟩
theorem ok_shared {f : Addr} {fd : FuncData} (F : Fn K mg "shared_sums" sShared ["sums", "others"] f fd) (SF : SumsF K mg CS fS fSH fSW fSR fdS fdSH fdSW fdSR) (GS : FnOk P w K mg base CX0 4 fS fdS ["self", "numbers"] (spSInit K CS))
    (T : TxB mg) (T2 : TxD mg) (mL : mg "lcm" = some (.builtin "math.lcm")) : FnOk P w K mg base CX0 6 f fd ["sums", "others"] (spShared K CS) := by
  have GH : FnOk P w K mg base CX0 1 fSH fdSH ["self", "number"] (spSHas CS) := ok_shas SF.FH T SF.S
  have S := SF.S
  refine F.F.ok scShared (fun vs H Q E h => ?_) (fun cdv A outer s H vs Q E hr h => ?_)
  · obtain ⟨_, _, _, _, _, _, _, _, _, _, _, _, _, _, rfl, _⟩ := h
    rfl
  · obtain ⟨x, y, tx, ty, lx, ly, ax, ay, Lx, Ly, k1, k2, f1, f2, rfl, hx, hy, g1, g1', g2, g2', f1', f2', hl, k⟩ := h
    have nd := scShared.nd
    have hr1 := hr.mono (show 1 ≤ 5 by decide)
    obtain ⟨dx, ox⟩ := hx.ob
    obtain ⟨dy, oy⟩ := hy.ob
    refine ⟨_, pss_cons (ps_set (i := 2) nd rfl (Or.inl rfl) (pe_callBfun cr_lcm (by rfl) mL (pa_cons (pe_fld (pv 0) rfl) (pa_cons (pe_fld (pv 1) rfl) pa_nil))))
      (pss_cons (ps_set (i := 3) nd rfl (Or.inl rfl) (pe_callB (call_max2 rfl) (by rfl) T2.max (by decide +kernel) (pa_cons (pe_fld (pv 0) rfl) (pa_cons (pe_fld (pv 1) rfl) pa_nil))))
      (pss_cons (ps_set (i := 4) nd rfl (Or.inl rfl) (pe_callTy cr_range3 (by rfl) T.range (by decide +kernel) (pa_cons (pv 2) (pa_cons (pe_op op_add (pe_op op_add (pe_op op_mul pe_int (pv 3)) (pv 2)) pe_int) (pa_cons (pv 2) pa_nil)))))
      (pss_one (ps_ret (pe_make SF.M GS hr (by rfl) SF.m SF.b .nil pass0 (pa_cons (pe_lc (own := [("number", 5)]) (g := gName 5) (tt := _) rfl nd (pi_rgV (pv 4))
        (blkOk_by (N := ["sums", "others", "step", "far", "bounded", "number"]) (sc := defScope sShared) (by decide +kernel)) (fun _ _ _ _ _ => pg_name (i := 5) nd rfl (Or.inl rfl))
        (fun _ _ _ _ _ => pts_one (PW.pt (pw_and (pt_val (pe_meth (pv 0) S.cl SF.mH GH hr1 SF.bH .nil pass0 (pa_cons (pv 5) pa_nil))) (pw_and1 (pt_val (pe_meth (pv 1) S.cl SF.mH GH hr1 SF.bH .nil pass0 (pa_cons (pv 5) pa_nil)))))))
        (fun _ _ _ _ _ => pv 5)) pa_nil)))))), ?_⟩
    generalize hst : Nat.lcm (gcdL k1) (gcdL k2) = st at *
    have s0 : 0 < st := by rw [← hst]; exact Nat.lcm_pos g1 g2
    refine ⟨_, rfl, x, CS, dx, _, _, rfl, ox, S.cl, S.nS, sfull_step, _, rfl, y, CS, dy, _, _, rfl, oy, S.cl, S.nS, sfull_step, _, _, rfl, by rw [Int.natAbs_natCast]; omega, by rw [Int.natAbs_natCast]; omega, ?_⟩
    rw [Int.natAbs_natCast, Int.natAbs_natCast, hst]
    refine ⟨_, rfl, x, CS, dx, _, _, rfl, ox, S.cl, S.nF, sfull_far, _, rfl, y, CS, dy, _, _, rfl, oy, S.cl, S.nF, sfull_far, _, _, rfl, ?_⟩
    have emax : (if (f2 : Int) > (f1 : Int) then (f2 : Int) else (f1 : Int)) = ((max f1 f2 : Nat) : Int) := by split <;> omega
    rw [emax]
    have hf1 : f1 ≤ max f1 f2 := Nat.le_max_left _ _
    have hf2 : f2 ≤ max f1 f2 := Nat.le_max_right _ _
    have hfar : max f1 f2 ≤ 200000 := Nat.max_le.mpr ⟨f1', f2'⟩
    generalize max f1 f2 = far at *
    have sh : ShOk k1 k2 st far (2 * far / st + 1) := by
      refine ⟨hx.farAt.mono hf1, hy.farAt.mono hf2, hst.symm, s0, fun i => ?_⟩
      have e1 := Nat.div_add_mod (2 * far) st
      have l1 := Nat.mod_lt (2 * far) s0
      generalize 2 * far / st = q at *
      constructor
      · intro h
        have : i * st ≤ q * st := Nat.mul_le_mul_right _ (by omega)
        rw [Nat.mul_comm q] at this
        omega
      · intro h
        refine Nat.lt_of_not_le fun c => ?_
        have : (q + 1) * st ≤ i * st := Nat.mul_le_mul_right _ c
        rw [Nat.succ_mul, Nat.mul_comm q] at this
        omega
    have rg := rgC_mult (st := st) (far := far) s0 (by omega) (by omega)
    have nle : 2 * far / st + 1 ≤ 400001 := by
      have := Nat.div_le_self (2 * far) st
      omega
    generalize 2 * far / st + 1 = n at *
    refine ⟨_, rfl, _, rfl, _, _, rfl, rfl, .inl ⟨by omega, by omega⟩, _, rfl, _, _, rfl, rfl, _, _, rfl, rfl, _, rfl, _, _, _, rfl, by omega, by rw [Int.natAbs_natCast]; omega, fun p hp => ?_⟩
    have s1 := same_new (o := rgO p (st : Int) (2 * (far : Int) + (st : Int) + 1) (st : Int)) (same_refl H) hp
    have rp : upd H p (rgO p (st : Int) (2 * (far : Int) + (st : Int) + 1) (st : Int)) p = some (rgO p (st : Int) (2 * (far : Int) + (st : Int) + 1) (st : Int)) := upd_same
    generalize upd H p (rgO p (st : Int) (2 * (far : Int) + (st : Int) + 1) (st : Int)) = G1 at *
    refine ⟨_, rfl, p, _, _, _, n, rfl, rp, rg, fun D hD => ?_⟩
    refine lc_it walk_rangeC (fun i H' => Same G1 H' ∧ H' D = some (.lst ((shL k1 k2 st i).map nI))) ⟨same_new (same_refl G1) hD, upd_same⟩ (fun _ _ _ _ => trivial) ?_ ?_
    · rintro i _ H' _ hi ⟨h1, h2⟩ ⟨rfl, rfl⟩
      have s2 := same_trans s1 h1
      refine ⟨rfl, ?_⟩
      have em : (st : Int) + ((i : Nat) : Int) * (st : Int) = ((st + i * st : Nat) : Int) := by rw [Int.natCast_add, Int.natCast_mul]
      refine ⟨_, rfl, x, dx, _, rfl, s2 _ _ ox, sfull_has, _, rfl, x, lx, ax, Lx, ((st + i * st : Nat) : Int), (by show [_, V.int ((st : Int) + ((i : Nat) : Int) * (st : Int))] = _; rw [em]), ⟨⟨dx, _, s2 _ _ ox, sfull_least⟩, s2 _ _ hx.ls⟩, hx.ok.pos, _, rfl, ?_⟩
      rw [hasZ_nat, hx.has]
      have ll := sh_len (k1 := k1) (k2 := k2) (st := st) (n := i)
      have succ := sh_succ (k1 := k1) (k2 := k2) (st := st) (n := i)
      cases c1 : smB k1 (st + i * st) with
      | false =>
        refine ifF rfl ?_
        refine ifF rfl ?_
        refine ⟨h1, ?_⟩
        rw [succ, c1, Bool.false_and, if_neg Bool.false_ne_true, List.append_nil]
        exact h2
      | true =>
        refine ifT rfl ?_
        refine ⟨_, rfl, y, dy, _, rfl, s2 _ _ oy, sfull_has, _, rfl, y, ly, ay, Ly, ((st + i * st : Nat) : Int), (by show [_, V.int ((st : Int) + ((i : Nat) : Int) * (st : Int))] = _; rw [em]), ⟨⟨dy, _, s2 _ _ oy, sfull_least⟩, s2 _ _ hy.ls⟩, hy.ok.pos, _, rfl, ?_⟩
        rw [hasZ_nat, hy.has]
        cases c2 : smB k2 (st + i * st) with
        | false =>
          refine ifF rfl ?_
          refine ⟨h1, ?_⟩
          rw [succ, c1, c2, Bool.and_false, if_neg Bool.false_ne_true, List.append_nil]
          exact h2
        | true =>
          refine ifT rfl ?_
          refine ⟨_, rfl, _, h2, (by rw [List.length_map]; exact room2 (by omega)), fun b o e => by rw [upd_ne (ne_of_none e hD)]; exact h1 b o e, ?_⟩
          rw [upd_same, succ, c1, c2, Bool.and_self, if_pos rfl, List.map_append]
          show some (HO.lst (_ ++ [V.int ((st : Int) + ((i : Nat) : Int) * (st : Int))])) = _
          rw [em]
          rfl
    · rintro H' ⟨h1, h2⟩ x' dx' nx' ndx' nex'
      have s2 := same_trans s1 h1
      obtain ⟨m0, m1, m2, m3, m4⟩ := sh.first
      have s3 : Same H' (upd (upd H' dx' (.own x')) x' (.ins CS dx' [])) := fun b o e => by rw [upd_ne (ne_of_none e nx'), upd_ne (ne_of_none e ndx')]; exact e
      have ll := sh_len (k1 := k1) (k2 := k2) (st := st) (n := n)
      refine ⟨x', D, dx', shL k1 k2 st n, rfl, upd_same, .inr (SqL.of (s3 _ _ h2)), List.length_pos_of_mem m4, by omega, fun m hm => ?_, fun H5 tk la a L' kept far' off so => ⟨rfl, ?_⟩⟩
      · obtain ⟨⟨i, hi, e⟩, _⟩ := mem_sh.mp hm
        have := (sh.hn i).mp hi
        omega
      · exact k x' tk la a L' kept far' H5 n (fun b o e => off b o (ne_of_none (s2 _ _ e) nx') (s3 _ _ (s2 _ _ e))) (same_none s2 nx') sh so
end
end K02

set_option Elab.async false
set_option linter.all false
set_option maxRecDepth 100000
set_option maxHeartbeats 4100000
namespace K02
open PySem L2
/-- a drawn spec: at most four makers, up to twelve -/
structure DrOk (z : Str) (M : List Nat) : Prop where
  ok : SpecOk z M
  m4 : M.length ≤ 4
  m12 : ∀ m ∈ M, m ≤ 12
/-- what the written part says of the making of a Lot -/
structure LotF (K : PySem.W.Frag) (mg : Str → Option Value) (CL fL : Addr) (fdL : FuncData) : Prop where
  M : Mk K CL fL
  b : Binds K fdL ["self", "word", "makers"] []
theorem spec_mk {K : PySem.W.Frag} {H : Hp} {t : Addr} {z : Str} {M : List Nat} (hz : DrOk z M) (ht : SqT K H t (M.map nI)) : MkAt K H (some (M.map fun m : Nat => some (m : Int))) (.ref t) ∧ duePart (some z) (some (M.map fun m : Nat => some (m : Int))) = none := by
  refine ⟨⟨t, _, rfl, ht, by rw [List.length_map, List.length_map], by rw [List.length_map]; have := hz.m4; omega, fun i o y h1 h2 => ?_⟩, ?_⟩
  · rw [List.getElem?_map] at h1 h2
    cases e : M[i]? with
    | none => rw [e] at h1; cases h1
    | some m => rw [e] at h1 h2; cases h1; cases h2; exact rfl
  · have hw := hz.ok.words
    have ok : mkOk z (some (M.map fun m : Nat => some (m : Int))) = true := by
      by_cases c : z = "more"
      · subst c
        rw [mkOk_more, List.length_map, decide_eq_true (show 1 ≤ M.length from hz.ok.len rfl), decide_eq_true hz.m4, Bool.and_self, Bool.true_and, List.all_eq_true]
        intro o ho
        obtain ⟨m, hm, rfl⟩ := List.mem_map.mp ho
        show (decide (1 ≤ (m : Int)) && decide ((m : Int) ≤ 12)) = true
        have := hz.m12 m hm
        have := (hz.ok.p m hm).1
        rw [decide_eq_true (by omega), decide_eq_true (by omega)]; rfl
      · rw [mkOk_else c, hz.ok.no c]; rfl
    have : duePart (some z) (some (M.map fun m : Nat => some (m : Int))) = if mkOk z (some (M.map fun m : Nat => some (m : Int))) = true then none else some ("makers" : Str) := if_pos hw
    rw [this, if_pos ok]
theorem map_some_inj {M M' : List Nat} (h : M.map (fun m : Nat => some (m : Int)) = M'.map (fun m : Nat => some (m : Int))) : M = M' := by
  have := congrArg (List.map fun o : Option Int => (o.getD 0).toNat) h
  rw [List.map_map, List.map_map] at this
  have e : ((fun o : Option Int => (o.getD 0).toNat) ∘ fun m : Nat => some (m : Int)) = id := by funext m; rfl
  rwa [e, List.map_id, List.map_id] at this
theorem one_ok : DrOk "more" [1] := ⟨⟨.inr (.inr (.inr rfl)), fun h => absurd rfl h, fun _ => by decide, by decide, fun m hm => by rw [List.mem_singleton] at hm; subst hm; decide⟩, by decide, fun m hm => by rw [List.mem_singleton] at hm; subst hm; decide⟩
theorem once_ok : DrOk "once" [] := ⟨⟨.inl rfl, fun _ => rfl, fun e => absurd e once_more, by decide, fun m hm => by cases hm⟩, by decide, fun m hm => by cases hm⟩
theorem free_ok : DrOk "free" [] := ⟨⟨.inr (.inr (.inl rfl)), fun _ => rfl, fun e => absurd e free_more, by decide, fun m hm => by cases hm⟩, by decide, fun m hm => by cases hm⟩
def spTake2 (CL CS : Addr) : Sp := fun vs H Q _ => ∃ (x s dx dy t tk la : Addr) (z : Str) (sv : V) (g far : Nat), vs = [.ref x, .ref s] ∧ H x = some (.ins CL dx (LF3 z t sv)) ∧ H s = some (.ins CS dy (SFull la tk g far)) ∧ x ≠ s ∧
  ∀ H', (∀ b, b ≠ x → H' b = H b) → H' x = some (.ins CL dx (LF3 z tk (.ref s))) → Q .non H'
def spMore (CL CS : Addr) : Sp := fun vs H Q _ => ∃ (s tk la a : Addr) (M : List Nat) (L : Nat → Option Nat) (kept : List Nat) (far : Nat), vs = [.ref s] ∧ SumOb CS H s tk M la a L kept far ∧ 0 < M.length ∧ (∀ m ∈ M, 1 ≤ m ∧ m ≤ 1000000) ∧
  ∀ x H', Same H H' → H x = none → LotAt CL CS H' x "more" M tk kept → Q (.ref x) H'
/-- a lot by its worth, with bounds -/
def LvAt (CL CS : Addr) (H : Hp) (x : Addr) (z : Str) (k : List Nat) (B G F : Nat) : Prop := (∃ t, LotAt CL CS H x z k t k) ∧ LvOk B G F z k
theorem LvAt.same {CL CS : Addr} {H H' : Hp} {x : Addr} {z : Str} {k : List Nat} {B G F : Nat} (h : LvAt CL CS H x z k B G F) (e : Same H H') : LvAt CL CS H' x z k B G F := by
  obtain ⟨⟨t, a⟩, b⟩ := h
  exact ⟨⟨t, a.same e⟩, b⟩
theorem LvAt.mono {CL CS : Addr} {H : Hp} {x : Addr} {z : Str} {k : List Nat} {B G F B' G' F' : Nat} (h : LvAt CL CS H x z k B G F) (b : B ≤ B') (g : G ≤ G') (f : F ≤ F') : LvAt CL CS H x z k B' G' F' := ⟨h.1, h.2.mono b g f⟩
theorem LotAt.low {CL CS : Addr} {H : Hp} {x t : Addr} {z : Str} {M k : List Nat} (h : LotAt CL CS H x z M t k) : LotAt CL CS H x z k t k := by
  cases h with
  | plain dx n ob mk k0 m0 => exact .plain dx n ob mk k0 k0
  | more dx s la a L far n ob so p M0 => exact .more dx s la a L far n ob so.low (fun m hm => p m (so.kp.sub m hm)) (so.kp.ne M0 fun m hm => (p m hm).1)
theorem LotAt.kept {CL CS : Addr} {H : Hp} {x t : Addr} {z : Str} {M k : List Nat} (h : LotAt CL CS H x z M t k) : (z = "more" → Kept k M) ∧ (z ≠ "more" → k = []) := by
  cases h with
  | plain dx n ob mk k0 m0 => exact ⟨fun e => absurd e n, fun _ => k0⟩
  | more dx s la a L far n ob so p M0 => exact ⟨fun _ => so.kp, fun e => absurd n e⟩
/-- a drawn lot -/
theorem LotAt.drawn {CL CS : Addr} {H : Hp} {x t : Addr} {z : Str} {M k : List Nat} (h : LotAt CL CS H x z M t k) (hz : DrOk z M) : LvAt CL CS H x z k 12 12 132 := by
  refine ⟨⟨t, h.low⟩, hz.ok.wd, h.kept.2, fun e => ?_⟩
  exact lv_sums (h.kept.1 e) (hz.ok.len e) (fun m hm => ⟨(hz.ok.p m hm).1, hz.m12 m hm⟩) (gcdL_le (hz.ok.len e) fun m hm => ⟨(hz.ok.p m hm).1, hz.m12 m hm⟩)
theorem LvAt.more {CL CS : Addr} {H : Hp} {x : Addr} {k : List Nat} {B G F : Nat} (h : LvAt CL CS H x "more" k B G F) : ∃ dx s t la a L far, H x = some (.ins CL dx (LF3 "more" t (.ref s))) ∧ SumOb CS H s t k la a L k far ∧ far ≤ F := by
  obtain ⟨⟨t, h⟩, b⟩ := h
  cases h with
  | plain dx n ob mk k0 m0 => exact absurd rfl n
  | more dx s la a L far n ob so p M0 => exact ⟨dx, s, t, la, a, L, far, ob, so, far_bound so (b.mo rfl)⟩
/-- bounds of what two have in common -/
structure CmB (B1 G1 F1 B2 G2 F2 B G F : Nat) : Prop where
  b1 : B1 ≤ B
  b2 : B2 ≤ B
  g1 : G1 ≤ G
  g2 : G2 ≤ G
  f1 : F1 ≤ F
  f2 : F2 ≤ F
  u1 : F1 ≤ 200000
  u2 : F2 ≤ 200000
  ug : G ≤ 100000
  l : ∀ a b, 0 < a → a ≤ G1 → 0 < b → b ≤ G2 → Nat.lcm a b ≤ G
  bb : 2 * max F1 F2 + G ≤ B
  ff : max F1 F2 + B ≤ F
def spCm (CL CS : Addr) : Sp := fun vs H Q _ => ∃ (x y : Addr) (z1 z2 : Str) (k1 k2 : List Nat) (B1 G1 F1 B2 G2 F2 B G F : Nat), vs = [.ref x, .ref y] ∧ LvAt CL CS H x z1 k1 B1 G1 F1 ∧ LvAt CL CS H y z2 k2 B2 G2 F2 ∧ CmB B1 G1 F1 B2 G2 F2 B G F ∧
  ∀ r z k H', Same H H' → LvAt CL CS H' r z k B G F → Cm z1 k1 z2 k2 z k → Q (.ref r) H'
/-- bounds of what lies around two -/
structure ArB (B1 G1 F1 B2 G2 F2 B G F : Nat) : Prop where
  b1 : B1 ≤ B
  b2 : B2 ≤ B
  g1 : G1 ≤ G
  g2 : G2 ≤ G
  f1 : F1 ≤ F
  f2 : F2 ≤ F
  u : B ≤ 100000
  ff : (B - 1) * B ≤ F
def spAr (CL CS : Addr) : Sp := fun vs H Q _ => ∃ (x y : Addr) (z1 z2 : Str) (k1 k2 : List Nat) (B1 G1 F1 B2 G2 F2 B G F : Nat), vs = [.ref x, .ref y] ∧ LvAt CL CS H x z1 k1 B1 G1 F1 ∧ LvAt CL CS H y z2 k2 B2 G2 F2 ∧ ArB B1 G1 F1 B2 G2 F2 B G F ∧
  ∀ r z k H', Same H H' → LvAt CL CS H' r z k B G F → Ar z1 k1 z2 k2 z k → Q (.ref r) H'
noncomputable def innB (z1 : Str) (k1 : List Nat) (z2 : Str) (k2 : List Nat) : Bool := @decide (Inn z1 k1 z2 k2) (Classical.propDecidable _)
theorem innB_iff {z1 z2 : Str} {k1 k2 : List Nat} : innB z1 k1 z2 k2 = true ↔ Inn z1 k1 z2 k2 := @decide_eq_true_iff _ (Classical.propDecidable _)
noncomputable def spWt (K : PySem.W.Frag) (CL CS : Addr) : Sp := fun vs H Q _ => ∃ (x : Addr) (y : V) (z1 : Str) (k1 : List Nat) (B1 G1 F1 : Nat), vs = [.ref x, y] ∧ LvAt CL CS H x z1 k1 B1 G1 F1 ∧
  ((∃ (y' : Addr) (z2 : Str) (k2 : List Nat) (B2 G2 F2 : Nat), y = .ref y' ∧ LvAt CL CS H y' z2 k2 B2 G2 F2 ∧ B1 ≤ 100000 ∧ B2 ≤ 100000 ∧ ∀ H', Same H H' → Q (.bl (innB z1 k1 z2 k2)) H') ∨
   ((∃ tv, TyX K H y tv ∧ PySem.W.kitOne K tv (.ref CL) = some false) ∧ ∀ H', Same H H' → Q (.bl false) H'))
/-- the own == of lots, asked of two -/
theorem eq_ask {K : PySem.W.Frag} {CL CS : Addr} {H : Hp} {x y : Addr} {z1 z2 : Str} {k1 k2 : List Nat} {B1 G1 F1 B2 G2 F2 : Nat} {Q : VK} (h1 : LvAt CL CS H x z1 k1 B1 G1 F1) (h2 : LvAt CL CS H y z2 k2 B2 G2 F2) (q : Q (.bl (decide (z1 = z2) && decide (k1 = k2))) H) : rEqO CL (spLEq K CL CS) (.ref x) (.ref y) H Q := by
  obtain ⟨⟨t1, a1⟩, _⟩ := h1
  obtain ⟨⟨t2, a2⟩, _⟩ := h2
  obtain ⟨dx, sx, ox, _⟩ := a1.fields
  obtain ⟨dy, sy, oy, _⟩ := a2.fields
  exact ⟨x, y, dx, dy, _, _, rfl, rfl, ox, oy, x, .ref y, z1, k1, t1, k1, rfl, a1, .inl ⟨y, z2, k2, t2, k2, rfl, a2, _, rfl, q⟩⟩
theorem ne_ask {K : PySem.W.Frag} {CL CS : Addr} {H : Hp} {x y : Addr} {z1 z2 : Str} {k1 k2 : List Nat} {B1 G1 F1 B2 G2 F2 : Nat} {Q : VK} (h1 : LvAt CL CS H x z1 k1 B1 G1 F1) (h2 : LvAt CL CS H y z2 k2 B2 G2 F2) (q : Q (.bl (!(decide (z1 = z2) && decide (k1 = k2)))) H) : rNeO CL (spLEq K CL CS) (.ref x) (.ref y) H Q := by
  obtain ⟨⟨t1, a1⟩, _⟩ := h1
  obtain ⟨⟨t2, a2⟩, _⟩ := h2
  obtain ⟨dx, sx, ox, _⟩ := a1.fields
  obtain ⟨dy, sy, oy, _⟩ := a2.fields
  exact ⟨x, y, dx, dy, _, _, rfl, rfl, ox, oy, x, .ref y, z1, k1, t1, k1, rfl, a1, .inl ⟨y, z2, k2, t2, k2, rfl, a2, _, rfl, q⟩⟩
section
variable {P : Program} {w : World} {K : PySem.W.Frag} {mg : Str → Option Value} {base : Heap} {CL CS aW fE CB fI fS fSH fSW fSR : Addr} {fdI fdS fdSH fdSW fdSR : FuncData}
theorem ok_take2 {f : Addr} {fd : FuncData} (F : Fun K "_take" "Lot._take" sTake f fd) (L : LotT K mg CL aW fE) (S : SumT K CS) : FnOk P w K mg base CX0 1 f fd ["self", "sums"] (spTake2 CL CS) := by
  refine F.ok scTake (fun vs H Q E h => ?_) (fun cdv A outer s H vs Q E hr h => ?_)
  · obtain ⟨_, _, _, _, _, _, _, _, _, _, _, rfl, _⟩ := h
    rfl
  · obtain ⟨x, s, dx, dy, t, tk, la, z, sv, g, far, rfl, hx, hs, xs, k⟩ := h
    refine ⟨_, pss_cons (ps_fld (pv 0) (pv 1) rfl) (pss_one (ps_fld (pv 0) (pe_fld (pv 1) rfl) rfl)), ?_⟩
    refine ⟨_, rfl, _, rfl, x, CL, dx, _, rfl, hx, L.cl, L.nS, (by show 3 < 1000; decide), ?_⟩
    refine ⟨_, rfl, s, CS, dy, _, _, rfl, (by rw [upd_ne xs.symm]; exact hs), S.cl, S.nM, sfull_makers, _, rfl, x, CL, dx, _, rfl, upd_same, L.cl, L.nM, (by have e : (putF "_sums" (.ref s) (LF3 z t sv)).length ≤ 4 := length_putF _ _ _; omega), ?_⟩
    rw [lf_2]
    exact k _ (fun b hb => by rw [upd_ne hb, upd_ne hb]) upd_same
theorem scMore : FnScope ["sums", "lot"] ["sums"] (defScope sMore) := ⟨rfl, rfl, rfl, by decide +kernel, rfl, by decide +kernel, by decide +kernel⟩
theorem ok_more {f fT : Addr} {fd fdT : FuncData} (F : Fn K mg "_more" sMore ["sums"] f fd) (GI : FnOk P w K mg base (L2.CX P w) 6 fI fdI ["self", "word", "makers"] (spLInit K CL CS CB)) (L : LotT K mg CL aW fE) (LF : LotF K mg CL fI fdI)
    (FT : Fun K "_take" "Lot._take" sTake fT fdT) (bT : Binds K fdT ["self", "sums"] []) (mT : Meth K CL "_take" fT) (S : SumT K CS) : FnOk P w K mg base CX0 8 f fd ["sums"] (spMore CL CS) := by
  have GT : FnOk P w K mg base CX0 1 fT fdT ["self", "sums"] (spTake2 CL CS) := ok_take2 FT L S
  refine F.F.ok scMore (fun vs H Q E h => ?_) (fun cdv A outer s H vs Q E hr h => ?_)
  · obtain ⟨_, _, _, _, _, _, _, _, rfl, _⟩ := h
    rfl
  · obtain ⟨s, tk, la, a, M, Lf, kept, far, rfl, so, m0, mp, k⟩ := h
    have nd := scMore.nd
    have hr1 := hr.mono (show 1 ≤ 7 by decide)
    refine ⟨_, pss_cons (ps_set (i := 1) nd rfl (Or.inl rfl) (pe_make LF.M GI hr (by rfl) L.mgL LF.b .nil passL (pa_cons pe_str (pa_cons (pe_tup (pa_cons pe_int pa_nil)) pa_nil))))
      (pss_cons (ps_expr (pe_meth (pv 1) L.cl mT GT hr1 bT .nil pass0 (pa_cons (pv 0) pa_nil)))
      (pss_one (ps_ret (pv 1)))), ?_⟩
    refine ⟨(by show 1 ≤ sizeLine; decide), fun t ht => ?_⟩
    have s1 := same_new (o := .tup [.int 1]) (same_refl H) ht
    have t1 : upd H t (.tup [.int 1]) t = some (.tup [.int 1]) := upd_same
    generalize upd H t (.tup [.int 1]) = G1 at *
    refine fun x dx nx ndx nex => ?_
    have s2 : Same G1 (upd (upd G1 dx (.own x)) x (.ins CL dx [])) := fun b o e => by rw [upd_ne (ne_of_none e nx), upd_ne (ne_of_none e ndx)]; exact e
    obtain ⟨q1, q2⟩ := spec_mk (K := K) one_ok (SqT.of (K := K) (s2 _ _ t1))
    refine ⟨x, dx, _, _, some "more", _, rfl, upd_same, rfl, q1, fun _ H' z M' t' kept' e1 e2 off hl => ⟨rfl, ?_⟩, fun part e => by rw [q2] at e; cases e⟩
    cases e1
    have sH : Same H H' := fun b o e => off b o (ne_of_none (s1 _ _ e) nx) (s2 _ _ (s1 _ _ e))
    have nxH : H x = none := same_none s1 nx
    obtain ⟨dx', sv, ob, _⟩ := hl.fields
    have so' := so.same sH
    obtain ⟨dy, hs⟩ := so'.ob
    have xs : x ≠ s := by
      obtain ⟨_, h0⟩ := so.ob
      exact (ne_of_none h0 nxH).symm
    refine ⟨_, rfl, x, dx', _, rfl, ob, lf_take, _, rfl, x, s, dx', dy, t', tk, la, "more", sv, gcdL kept, far, rfl, ob, hs, xs, fun H6 off6 x6 => ?_⟩
    have s6 : Same H H6 := fun b o e => by rw [off6 b (ne_of_none e nxH)]; exact sH b o e
    exact ⟨_, rfl, k x H6 s6 nxH (.more dx' s la a Lf far rfl x6 (so.same s6) mp m0)⟩
/-- Lot(word, ()) with a word that is written -/
theorem plain_made {H1 : Hp} {z : Str} {t x dx : Addr} {Q : VK} (hz : DrOk z []) (h1 : H1 t = some (.tup [])) (nx : H1 x = none) (ndx : H1 dx = none) (k : ∀ H', Same H1 H' → LvAt CL CS H' x z [] 12 12 132 → Q (.ref x) H') :
    spLInit K CL CS CB [.ref x, .str z, .ref t] (upd (upd H1 dx (.own x)) x (.ins CL dx [])) (fun v H2 => v = .non ∧ Q (.ref x) H2) (fun _ _ _ => False) := by
  have s2 : Same H1 (upd (upd H1 dx (.own x)) x (.ins CL dx [])) := fun b o e => by rw [upd_ne (ne_of_none e nx), upd_ne (ne_of_none e ndx)]; exact e
  obtain ⟨q1, q2⟩ := spec_mk (K := K) (t := t) hz (SqT.of (K := K) (s2 _ _ h1))
  refine ⟨x, dx, _, _, some z, _, rfl, upd_same, rfl, q1, fun _ H' z' M' t' kept' e1 e2 off hl => ⟨rfl, ?_⟩, fun part e => by rw [q2] at e; cases e⟩
  cases e1
  have e3 := map_some_inj (Option.some.inj e2)
  subst e3
  have := hl.drawn hz
  have ek : kept' = [] := by
    by_cases c : z = "more"
    · have := hz.ok.len c; exact absurd this (Nat.lt_irrefl 0)
    · exact hl.kept.2 c
  rw [ek] at this
  exact k H' (fun b o e => off b o (ne_of_none e nx) (s2 b o e)) this
end
end K02

set_option Elab.async false
set_option linter.all false
set_option maxRecDepth 100000
set_option maxHeartbeats 4100000
namespace K02
open PySem L2
theorem asc_len : ∀ {xs : List Nat} {c B : Nat}, xs.Pairwise (· < ·) → (∀ x ∈ xs, c < x ∧ x ≤ B) → xs.length ≤ B - c
  | [], _, _, _, _ => Nat.zero_le _
  | x :: xs, c, B, h, hb => by
    (have h' := List.pairwise_cons.mp h)
    have h1 := hb x List.mem_cons_self
    have := asc_len (c := x) (B := B) h'.2 fun y hy => ⟨h'.1 y hy, (hb y (List.mem_cons_of_mem _ hy)).2⟩
    rw [List.length_cons]
    omega
theorem Lv.len {B G F : Nat} {k : List Nat} (h : Lv B G F k) : k.length ≤ B := by
  have := asc_len (c := 0) h.kp.asc h.p
  omega
section
variable {B G F B1 G1 F1 B2 G2 F2 B3 G3 F3 : Nat} {z z1 z2 z3 : Str} {k k1 k2 k3 : List Nat}
theorem cm_once (h1 : LvOk B1 G1 F1 z1 k1) (h2 : LvOk B2 G2 F2 z2 k2) (n1 : z1 ≠ "free") (n2 : z2 ≠ "free") (nm : ¬ (z1 = "more" ∧ z2 = "more")) (ne : ¬ (z1 = z2 ∧ k1 = k2)) : Cm z1 k1 z2 k2 "once" [] := by
  intro n
  rw [fl_once, Bool.eq_iff_iff, decide_eq_true_eq, Bool.and_eq_true]
  constructor
  · intro e
    rw [e]
    exact ⟨fl_one h1, fl_one h2⟩
  · rintro ⟨a, b⟩
    match n, a, b with
    | 0, a, b =>
      have e1 : z1 = "loan" := (has0 h1 a).resolve_right n1
      have e2 : z2 = "loan" := (has0 h2 b).resolve_right n2
      exact absurd ⟨e1.trans e2.symm, by rw [h1.no (by rw [e1]; exact loan_more), h2.no (by rw [e2]; exact loan_more)]⟩ ne
    | 1, _, _ => rfl
    | m + 2, a, b => exact absurd ⟨(has2 h1 (m := m + 1) (by omega) a).resolve_left n1, (has2 h2 (m := m + 1) (by omega) b).resolve_left n2⟩ nm
theorem arW_self (h : LvOk B G F z k) : arW z z = z := by
  rcases h.wd with rfl | rfl | rfl | rfl <;> decide +kernel
theorem arW_free (h1 : LvOk B1 G1 F1 z1 k1) (h2 : LvOk B2 G2 F2 z2 k2) (n1 : z1 ≠ "once") (n2 : z2 ≠ "once") (nm : ¬ (z1 = "more" ∧ z2 = "more")) (ne : ¬ (z1 = z2 ∧ k1 = k2)) : arW z1 z2 = "free" := by
  have nl : ¬ (z1 = "loan" ∧ z2 = "loan") := fun ⟨e1, e2⟩ => ne ⟨e1.trans e2.symm, by rw [h1.no (by rw [e1]; exact loan_more), h2.no (by rw [e2]; exact loan_more)]⟩
  unfold arW
  rw [if_neg n1, if_neg n2, if_neg nm, if_neg nl]
theorem eq_dec : (decide (z1 = z2) && decide (k1 = k2)) = true ↔ z1 = z2 ∧ k1 = k2 := by rw [Bool.and_eq_true, decide_eq_true_eq, decide_eq_true_eq]
end
section
variable {P : Program} {w : World} {K : PySem.W.Frag} {mg : Str → Option Value} {base : Heap} {CL CS aW fE CB fI fS fSH fSW fSR : Addr} {fdI fdS fdSH fdSW fdSR fdE : FuncData}
theorem scCm : FnScope ["lot", "other"] ["lot", "other"] (defScope sCommon) := ⟨rfl, rfl, rfl, by decide +kernel, rfl, by decide +kernel, by decide +kernel⟩
theorem ok_cm {f fM fSh : Addr} {fd fdM fdSh : FuncData} (F : Fn K mg "common" sCommon ["lot", "other"] f fd) (NM : Fn K mg "_more" sMore ["sums"] fM fdM) (GM : FnOk P w K mg base CX0 8 fM fdM ["sums"] (spMore CL CS))
    (NS : Fn K mg "shared_sums" sShared ["sums", "others"] fSh fdSh) (GSh : FnOk P w K mg base CX0 6 fSh fdSh ["sums", "others"] (spShared K CS))
    (GI : FnOk P w K mg base (L2.CX P w) 6 fI fdI ["self", "word", "makers"] (spLInit K CL CS CB)) (L : LotT K mg CL aW fE) (LF : LotF K mg CL fI fdI)
    (GE : FnOk P w K mg base CX0 1 fE fdE ["self", "other"] (spLEq K CL CS)) (bE : Binds K fdE ["self", "other"] []) : FnOk P w K mg base CX0 9 f fd ["lot", "other"] (spCm CL CS) := by
  refine F.F.ok scCm (fun vs H Q E h => ?_) (fun cdv A outer s H vs Q E hr h => ?_)
  · obtain ⟨_, _, _, _, _, _, _, _, _, _, _, _, _, _, _, rfl, _⟩ := h
    rfl
  · obtain ⟨x, y, z1, z2, k1, k2, B1, G1, F1, B2, G2, F2, B, G, F, rfl, hx, hy, cb, k⟩ := h
    have hr1 := hr.mono (show 1 ≤ 8 by decide)
    have hr6 := hr.mono (show 6 ≤ 8 by decide)
    have hr7 := hr.mono (show 7 ≤ 8 by decide)
    refine ⟨_, pss_cons (ps_if (PW.pt (pw_or (pt_cmpR op_eq (pe_fld (pv 0) rfl) pe_str (nomark _)) (pw_or1 (pt_cmpR (op_eqO GE hr1 bE pass0 L.ow) (pv 0) (pv 1) (nomark _))))) (pss_one (ps_ret (pv 1))) pss_nil)
      (pss_cons (ps_if (pt_cmpR op_eq (pe_fld (pv 1) rfl) pe_str (nomark _)) (pss_one (ps_ret (pv 0))) pss_nil)
      (pss_cons (ps_if (PW.pt (pw_and (pt_cmpR op_eq (pe_fld (pv 0) rfl) pe_str (nomark _)) (pw_and1 (pt_cmpR op_eq (pe_fld (pv 1) rfl) pe_str (nomark _)))))
        (pss_one (ps_ret (pe_call GM hr (by rfl) NM.m NM.F.kp NM.b .nil pass0 (pa_cons (pe_call GSh hr6 (by rfl) NS.m NS.F.kp NS.b .nil pass0 (pa_cons (pe_fld (pv 0) rfl) (pa_cons (pe_fld (pv 1) rfl) pa_nil))) pa_nil)))) pss_nil)
      (pss_one (ps_ret (pe_make LF.M GI hr7 (by rfl) L.mgL LF.b .nil passL (pa_cons pe_str (pa_cons (pe_tup pa_nil) pa_nil))))))), ?_⟩
    obtain ⟨⟨tx, ax⟩, ox⟩ := id hx
    obtain ⟨⟨ty, ay⟩, oy⟩ := id hy
    obtain ⟨dx, sx, obx, _⟩ := ax.fields
    obtain ⟨dy, sy, oby, _⟩ := ay.fields
    have retX : Cm z1 k1 z2 k2 z1 k1 → Q (.ref x) H := fun c => k x z1 k1 H (same_refl H) (hx.mono cb.b1 cb.g1 cb.f1) c
    have retY : Cm z1 k1 z2 k2 z2 k2 → Q (.ref y) H := fun c => k y z2 k2 H (same_refl H) (hy.mono cb.b2 cb.g2 cb.f2) c
    refine ⟨_, rfl, x, CL, dx, _, _, rfl, obx, L.cl, L.nW, lf_word, rfl, _, rfl, ?_⟩
    refine ite2 (fun c => ?_) (fun c => ?_)
    · have c2 : z1 = "free" := V.str.inj (of_decide_eq_true c)
      refine ifT rfl ?_
      exact ⟨_, rfl, retY fun n => by rw [c2, fl_free, Bool.true_and]⟩
    · have nf1 : z1 ≠ "free" := fun e => c (decide_eq_true (by rw [e]))
      refine ⟨_, rfl, _, rfl, eq_ask hx hy ⟨_, rfl, ?_⟩⟩
      refine ite2 (fun d => ?_) (fun d => ?_)
      · obtain ⟨e1, e2⟩ := eq_dec.mp d
        exact ⟨_, rfl, retY fun n => by rw [e1, e2, Bool.and_self]⟩
      · have ne : ¬ (z1 = z2 ∧ k1 = k2) := fun e => d (eq_dec.mpr e)
        refine ⟨_, rfl, y, CL, dy, _, _, rfl, oby, L.cl, L.nW, lf_word, rfl, _, rfl, ?_⟩
        refine ite2 (fun e => ?_) (fun e => ?_)
        · have e2 : z2 = "free" := V.str.inj (of_decide_eq_true e)
          exact ⟨_, rfl, retX fun n => by rw [e2, fl_free, Bool.and_true]⟩
        · have nf2 : z2 ≠ "free" := fun q => e (decide_eq_true (by rw [q]))
          have once : ¬ (z1 = "more" ∧ z2 = "more") → ∀ H' x', Same H H' → LvAt CL CS H' x' "once" [] 12 12 132 → Q (.ref x') H' := fun nm H' x' s hl =>
            k x' "once" [] H' s ⟨hl.1, hl.2.wd, hl.2.no, fun e => absurd e once_more⟩ (cm_once ox oy nf1 nf2 nm ne)
          refine ⟨_, rfl, x, CL, dx, _, _, rfl, obx, L.cl, L.nW, lf_word, rfl, _, rfl, ?_⟩
          refine ite2 (fun a => ?_) (fun a => ?_)
          · have a2 : z1 = "more" := V.str.inj (of_decide_eq_true a)
            refine ⟨_, rfl, y, CL, dy, _, _, rfl, oby, L.cl, L.nW, lf_word, rfl, _, rfl, ?_⟩
            refine ite2 (fun b => ?_) (fun b => ?_)
            · have b2 : z2 = "more" := V.str.inj (of_decide_eq_true b)
              subst a2 b2
              obtain ⟨dx, s1, t1, l1, a1, L1, far1, ob1, so1, fl1⟩ := hx.more
              obtain ⟨dy, s2, t2, l2, a2, L2, far2, ob2, so2, fl2⟩ := hy.more
              have m1 := ox.mo rfl
              have m2 := oy.mo rfl
              have p1 := gcdL_pos m1.ne m1.pos
              have p2 := gcdL_pos m2.ne m2.pos
              have q1 := m1.gd
              have q2 := m2.gd
              have hl := cb.l _ _ p1 q1 p2 q2
              have e1 := cb.u1
              have e2 := cb.u2
              have e3 := cb.ug
              have e4 := cb.g1
              have e5 := cb.g2
              refine ⟨_, rfl, x, CL, dx, _, _, rfl, ob1, L.cl, L.nS, lf_sums, _, rfl, y, CL, dy, _, _, rfl, ob2, L.cl, L.nS, lf_sums, s1, s2, t1, t2, l1, l2, a1, a2, L1, L2, k1, k2, far1, far2, rfl, so1, so2, p1, by omega, p2, by omega, by omega, by omega, by omega, fun s tk la a L' kept far H' n sH ns sh so => ?_⟩
              obtain ⟨w0, w1, w2, w3, w4⟩ := sh.first
              have hm : max far1 far2 ≤ max F1 F2 := by omega
              have hm2 : max far1 far2 ≤ 200000 := by omega
              have pm : ∀ m ∈ shL k1 k2 (Nat.lcm (gcdL k1) (gcdL k2)) n, 1 ≤ m ∧ m ≤ 1000000 := fun m hm' => by
                obtain ⟨⟨i, hi, e⟩, _⟩ := mem_sh.mp hm'
                have := (sh.hn i).mp hi
                have := sh.s0
                omega
              refine ⟨s, tk, la, a, _, L', kept, far, rfl, so, List.length_pos_of_mem w4, pm, fun r H2 s2 nr hl2 => ?_⟩
              have lv := (sh.lv so.kp (Nat.le_refl _)).mono (B' := B) (G' := G) (F' := F) (by have := cb.bb; omega) hl (by have := cb.bb; have := cb.ff; omega)
              refine k r "more" kept H2 (same_trans sH s2) ⟨⟨tk, hl2.low⟩, .inr (.inr (.inr rfl)), fun e => absurd rfl e, fun _ => lv⟩ fun n => ?_
              cases n with
              | zero => rw [fl_more0, fl_more0, Bool.false_and]
              | succ n =>
                rw [fl_more, fl_more, fl_more, Bool.eq_iff_iff, Bool.and_eq_true, smB_iff, smB_iff, smB_iff, so.kp.same, sh.iff]
            · have b2 : z2 ≠ "more" := fun q => b (decide_eq_true (by rw [q]))
              refine ⟨(by show 0 ≤ sizeLine; decide), fun t ht => ?_⟩
              have s1 := same_new (o := .tup []) (same_refl H) ht
              have t1 : upd H t (.tup []) t = some (.tup []) := upd_same
              generalize upd H t (.tup []) = G1 at *
              refine fun x' dx' nx ndx nex => ?_
              exact plain_made once_ok t1 nx ndx fun H' s hl => once (fun q => b2 q.2) H' x' (same_trans s1 s) hl
          · have a2 : z1 ≠ "more" := fun q => a (decide_eq_true (by rw [q]))
            refine ⟨(by show 0 ≤ sizeLine; decide), fun t ht => ?_⟩
            have s1 := same_new (o := .tup []) (same_refl H) ht
            have t1 : upd H t (.tup []) t = some (.tup []) := upd_same
            generalize upd H t (.tup []) = G1 at *
            refine fun x' dx' nx ndx nex => ?_
            exact plain_made once_ok t1 nx ndx fun H' s hl => once (fun q => a2 q.1) H' x' (same_trans s1 s) hl
end
end K02

set_option Elab.async false
set_option linter.all false
set_option maxRecDepth 100000
set_option maxHeartbeats 4100000
namespace K02
open PySem L2
section
variable {P : Program} {w : World} {K : PySem.W.Frag} {mg : Str → Option Value} {base : Heap} {CL CS aW fE CB fI fS fSH fSW fSR : Addr} {fdI fdS fdSH fdSW fdSR fdE : FuncData}
theorem scAr : FnScope ["lot", "other"] ["lot", "other"] (defScope sAround) := ⟨rfl, rfl, rfl, by decide +kernel, rfl, by decide +kernel, by decide +kernel⟩
theorem ok_ar {f fM : Addr} {fd fdM : FuncData} (F : Fn K mg "around" sAround ["lot", "other"] f fd) (NM : Fn K mg "_more" sMore ["sums"] fM fdM) (GM : FnOk P w K mg base CX0 8 fM fdM ["sums"] (spMore CL CS))
    (SF : SumsF K mg CS fS fSH fSW fSR fdS fdSH fdSW fdSR) (GS : FnOk P w K mg base CX0 4 fS fdS ["self", "numbers"] (spSInit K CS))
    (GI : FnOk P w K mg base (L2.CX P w) 6 fI fdI ["self", "word", "makers"] (spLInit K CL CS CB)) (L : LotT K mg CL aW fE) (LF : LotF K mg CL fI fdI)
    (GE : FnOk P w K mg base CX0 1 fE fdE ["self", "other"] (spLEq K CL CS)) (bE : Binds K fdE ["self", "other"] []) : FnOk P w K mg base CX0 9 f fd ["lot", "other"] (spAr CL CS) := by
  refine F.F.ok scAr (fun vs H Q E h => ?_) (fun cdv A outer s H vs Q E hr h => ?_)
  · obtain ⟨_, _, _, _, _, _, _, _, _, _, _, _, _, _, _, rfl, _⟩ := h
    rfl
  · obtain ⟨x, y, z1, z2, k1, k2, B1, G1, F1, B2, G2, F2, B, G, F, rfl, hx, hy, ab, k⟩ := h
    have hr1 := hr.mono (show 1 ≤ 8 by decide)
    have hr5 := hr.mono (show 5 ≤ 8 by decide)
    have hr7 := hr.mono (show 7 ≤ 8 by decide)
    refine ⟨_, pss_cons (ps_if (PW.pt (pw_or (pt_cmpR op_eq (pe_fld (pv 0) rfl) pe_str (nomark _)) (pw_or1 (pt_cmpR (op_eqO GE hr1 bE pass0 L.ow) (pv 0) (pv 1) (nomark _))))) (pss_one (ps_ret (pv 1))) pss_nil)
      (pss_cons (ps_if (pt_cmpR op_eq (pe_fld (pv 1) rfl) pe_str (nomark _)) (pss_one (ps_ret (pv 0))) pss_nil)
      (pss_cons (ps_if (PW.pt (pw_and (pt_cmpR op_eq (pe_fld (pv 0) rfl) pe_str (nomark _)) (pw_and1 (pt_cmpR op_eq (pe_fld (pv 1) rfl) pe_str (nomark _)))))
        (pss_one (ps_ret (pe_call GM hr (by rfl) NM.m NM.F.kp NM.b .nil pass0 (pa_cons (pe_make SF.M GS hr5 (by rfl) SF.m SF.b .nil pass0 (pa_cons (pe_op op_catA (pe_fld (pv 0) rfl) (pe_fld (pv 1) rfl)) pa_nil)) pa_nil)))) pss_nil)
      (pss_one (ps_ret (pe_make LF.M GI hr7 (by rfl) L.mgL LF.b .nil passL (pa_cons pe_str (pa_cons (pe_tup pa_nil) pa_nil))))))), ?_⟩
    obtain ⟨⟨tx, ax⟩, ox⟩ := id hx
    obtain ⟨⟨ty, ay⟩, oy⟩ := id hy
    obtain ⟨dx, sx, obx, mkx⟩ := ax.fields
    obtain ⟨dy, sy, oby, mky⟩ := ay.fields
    have retX : Ar z1 k1 z2 k2 z1 k1 → Q (.ref x) H := fun c => k x z1 k1 H (same_refl H) (hx.mono ab.b1 ab.g1 ab.f1) c
    have retY : Ar z1 k1 z2 k2 z2 k2 → Q (.ref y) H := fun c => k y z2 k2 H (same_refl H) (hy.mono ab.b2 ab.g2 ab.f2) c
    refine ⟨_, rfl, x, CL, dx, _, _, rfl, obx, L.cl, L.nW, lf_word, rfl, _, rfl, ?_⟩
    refine ite2 (fun c => ?_) (fun c => ?_)
    · have c2 : z1 = "once" := V.str.inj (of_decide_eq_true c)
      refine ifT rfl ?_
      exact ⟨_, rfl, retY ⟨by unfold arW; rw [if_pos c2], fun e n => by rw [ox.no (by rw [c2]; exact once_more), List.nil_append]⟩⟩
    · have no1 : z1 ≠ "once" := fun e => c (decide_eq_true (by rw [e]))
      refine ⟨_, rfl, _, rfl, eq_ask hx hy ⟨_, rfl, ?_⟩⟩
      refine ite2 (fun d => ?_) (fun d => ?_)
      · obtain ⟨e1, e2⟩ := eq_dec.mp d
        subst e1 e2
        exact ⟨_, rfl, retY ⟨(arW_self ox).symm, fun e n => ⟨fun h => h.mono fun m hm => List.mem_append_left _ hm, fun h => h.mono fun m hm => (List.mem_append.mp hm).elim (fun q => q) fun q => q⟩⟩⟩
      · have ne : ¬ (z1 = z2 ∧ k1 = k2) := fun e => d (eq_dec.mpr e)
        refine ⟨_, rfl, y, CL, dy, _, _, rfl, oby, L.cl, L.nW, lf_word, rfl, _, rfl, ?_⟩
        refine ite2 (fun e => ?_) (fun e => ?_)
        · have e2 : z2 = "once" := V.str.inj (of_decide_eq_true e)
          exact ⟨_, rfl, retX ⟨by unfold arW; rw [if_neg no1, if_pos e2], fun e n => by rw [oy.no (by rw [e2]; exact once_more), List.append_nil]⟩⟩
        · have no2 : z2 ≠ "once" := fun q => e (decide_eq_true (by rw [q]))
          have free : ¬ (z1 = "more" ∧ z2 = "more") → ∀ H' x', Same H H' → LvAt CL CS H' x' "free" [] 12 12 132 → Q (.ref x') H' := fun nm H' x' s hl =>
            k x' "free" [] H' s ⟨hl.1, hl.2.wd, hl.2.no, fun e => absurd e free_more⟩ ⟨(arW_free ox oy no1 no2 nm ne).symm, fun e => absurd e free_more⟩
          refine ⟨_, rfl, x, CL, dx, _, _, rfl, obx, L.cl, L.nW, lf_word, rfl, _, rfl, ?_⟩
          refine ite2 (fun a => ?_) (fun a => ?_)
          · have a2 : z1 = "more" := V.str.inj (of_decide_eq_true a)
            refine ⟨_, rfl, y, CL, dy, _, _, rfl, oby, L.cl, L.nW, lf_word, rfl, _, rfl, ?_⟩
            refine ite2 (fun b => ?_) (fun b => ?_)
            · have b2 : z2 = "more" := V.str.inj (of_decide_eq_true b)
              subst a2 b2
              have m1 := ox.mo rfl
              have m2 := oy.mo rfl
              have l1 := m1.len
              have l2 := m2.len
              have e1 := ab.b1
              have e2 := ab.b2
              have e3 := ab.u
              have gen : ∀ (q : Addr) (H1 : Hp), Same H H1 → SqT K H1 q ((k1 ++ k2).map nI) → ∀ s ds, H1 s = none → H1 ds = none → ds ≠ s →
                  spSInit K CS [.ref s, .ref q] (upd (upd H1 ds (.own s)) s (.ins CS ds [])) (fun v H2 => v = .non ∧ spMore CL CS [.ref s] H2 Q (fun _ _ _ => False)) (fun _ _ _ => False) := fun q H1 s1 hq s ds ns nds nes => by
                have s3 : Same H1 (upd (upd H1 ds (.own s)) s (.ins CS ds [])) := fun b o e => by rw [upd_ne (ne_of_none e ns), upd_ne (ne_of_none e nds)]; exact e
                have p : ∀ m ∈ k1 ++ k2, 1 ≤ m ∧ m ≤ B := fun m hm => by
                  obtain hm | hm := List.mem_append.mp hm
                  · have := m1.p m hm; omega
                  · have := m2.p m hm; omega
                have ne1 := m1.ne
                refine ⟨s, q, ds, k1 ++ k2, rfl, upd_same, .inl (sqt_same hq s3), by rw [List.length_append]; omega, by rw [List.length_append]; omega, fun m hm => ?_, fun H5 tk la a L' kept far off so => ⟨rfl, ?_⟩⟩
                · have := p m hm; omega
                · have sH : Same H H5 := fun b o e => off b o (ne_of_none (s1 _ _ e) ns) (s3 _ _ (s1 _ _ e))
                  refine ⟨s, tk, la, a, _, L', kept, far, rfl, so, by rw [List.length_append]; omega, fun m hm => by have := p m hm; omega, fun r H2 s2 nr hl2 => ?_⟩
                  have lv := (lv_sums so.kp (by rw [List.length_append]; omega) p (gcdL_app m1.ne m2.ne m1.pos m2.pos (.inl (Nat.le_trans m1.gd ab.g1)))).mono (F' := F) (Nat.le_refl _) (Nat.le_refl _) ab.ff
                  refine k r "more" kept H2 (same_trans sH s2) ⟨⟨tk, hl2.low⟩, .inr (.inr (.inr rfl)), fun e => absurd rfl e, fun _ => lv⟩ ⟨by unfold arW; rw [if_neg no1, if_neg no2, if_pos ⟨rfl, rfl⟩], fun _ n => so.kp.same n⟩
              refine ⟨_, rfl, x, CL, dx, _, _, rfl, obx, L.cl, L.nM, lf_makers, _, rfl, y, CL, dy, _, _, rfl, oby, L.cl, L.nM, lf_makers, ?_⟩
              have len : (k1.map nI).length + (k2.map nI).length ≤ sizeLine := by
                rw [List.length_map, List.length_map]
                exact Nat.le_of_lt (room2 (by omega))
              refine ⟨tx, ty, k1.map nI, k2.map nI, rfl, rfl, SqT.of mkx, SqT.of mky, len, fun e => ?_, fun _ e => ?_, fun _ _ p hp => ?_⟩
              · have := m1.ne
                rw [List.map_eq_nil_iff.mp e] at this
                exact absurd this (Nat.lt_irrefl 0)
              · have := m2.ne
                rw [List.map_eq_nil_iff.mp e] at this
                exact absurd this (Nat.lt_irrefl 0)
              · refine fun s ds ns nds nes => ?_
                exact gen p _ (same_new (same_refl H) hp) (by rw [List.map_append]; exact SqT.of upd_same) s ds ns nds nes
            · have b2 : z2 ≠ "more" := fun q => b (decide_eq_true (by rw [q]))
              refine ⟨(by show 0 ≤ sizeLine; decide), fun t ht => ?_⟩
              have s1 := same_new (o := .tup []) (same_refl H) ht
              have t1 : upd H t (.tup []) t = some (.tup []) := upd_same
              generalize upd H t (.tup []) = G1 at *
              refine fun x' dx' nx ndx nex => ?_
              exact plain_made free_ok t1 nx ndx fun H' s hl => free (fun q => b2 q.2) H' x' (same_trans s1 s) hl
          · have a2 : z1 ≠ "more" := fun q => a (decide_eq_true (by rw [q]))
            refine ⟨(by show 0 ≤ sizeLine; decide), fun t ht => ?_⟩
            have s1 := same_new (o := .tup []) (same_refl H) ht
            have t1 : upd H t (.tup []) t = some (.tup []) := upd_same
            generalize upd H t (.tup []) = G1 at *
            refine fun x' dx' nx ndx nex => ?_
            exact plain_made free_ok t1 nx ndx fun H' s hl => free (fun q => a2 q.1) H' x' (same_trans s1 s) hl
theorem scWt : FnScope ["lot", "thing"] ["lot", "thing"] (defScope sWithinL) := ⟨rfl, rfl, rfl, by decide +kernel, rfl, by decide +kernel, by decide +kernel⟩
theorem ok_wt {f fA : Addr} {fd fdA : FuncData} (F : Fn K mg "is_within" sWithinL ["lot", "thing"] f fd) (NA : Fn K mg "around" sAround ["lot", "other"] fA fdA) (GA : FnOk P w K mg base CX0 9 fA fdA ["lot", "other"] (spAr CL CS))
    (T : TxB mg) (L : LotT K mg CL aW fE) (LK : LotK K CL) (GE : FnOk P w K mg base CX0 1 fE fdE ["self", "other"] (spLEq K CL CS)) (bE : Binds K fdE ["self", "other"] []) : FnOk P w K mg base CX0 10 f fd ["lot", "thing"] (spWt K CL CS) := by
  refine F.F.ok scWt (fun vs H Q E h => ?_) (fun cdv A outer s H vs Q E hr h => ?_)
  · obtain ⟨_, _, _, _, _, _, _, rfl, _⟩ := h
    rfl
  · obtain ⟨x, y, z1, k1, B1, G1, F1, rfl, hx, h⟩ := h
    have hr1 := hr.mono (show 1 ≤ 9 by decide)
    refine ⟨_, pss_one (ps_ret (pe_and (pe_callB call_isi (by rfl) T.isinstance (by decide +kernel) (pa_cons (pv 1) (pa_cons (pe_glob (v := .ref CL) (by rfl) L.mgL rfl) pa_nil)))
      (pe_one (pe_cmpR (op_eqO GE hr1 bE pass0 L.ow) (pe_call GA hr (by rfl) NA.m NA.F.kp NA.b .nil pass0 (pa_cons (pv 0) (pa_cons (pv 1) pa_nil))) (pv 1) (nomark _))))), ?_⟩
    rcases h with ⟨y', z2, k2, B2, G2, F2, rfl, hy, u1, u2, k⟩ | ⟨⟨tv, ty, kt⟩, k⟩
    · obtain ⟨⟨ty, ay⟩, oy⟩ := id hy
      obtain ⟨dy, sy, oby, mky⟩ := ay.fields
      refine ⟨_, rfl, _, _, _, _, _, rfl, .own _, .base (.ins oby L.cl L.ha L.cg L.cTk L.ow.ob), LK.me, _, rfl, ?_⟩
      refine iteT ?_
      refine ⟨_, rfl, _, rfl, x, y', z1, z2, k1, k2, B1, G1, F1, B2, G2, F2, max B1 B2, max G1 G2, max (max F1 F2) ((max B1 B2 - 1) * max B1 B2), rfl, hx, hy, ⟨Nat.le_max_left _ _, Nat.le_max_right _ _, Nat.le_max_left _ _, Nat.le_max_right _ _, Nat.le_trans (Nat.le_max_left _ _) (Nat.le_max_left _ _), Nat.le_trans (Nat.le_max_right _ _) (Nat.le_max_left _ _), Nat.max_le.mpr ⟨u1, u2⟩, Nat.le_max_right _ _⟩, fun r z k' H' s hv har => ?_⟩
      refine ⟨_, rfl, eq_ask hv (hy.same s) ?_⟩
      have e : (decide (z = z2) && decide (k' = k2)) = innB z1 k1 z2 k2 := by
        rw [Bool.eq_iff_iff, innB_iff, ← har.eq_iff hx.2 hy.2 hv.2]
        exact eq_dec
      rw [e]
      exact k H' s
    · refine ⟨_, rfl, _, _, _, _, _, rfl, .own _, ty, kt, _, rfl, ?_⟩
      exact iteF (k H (same_refl H))
end
end K02

set_option Elab.async false
set_option linter.all false
set_option maxRecDepth 100000
set_option maxHeartbeats 2000000
namespace K02
open PySem L2
abbrev sSpec : Stmt := top 34
theorem del_same_of {H H' : Hp} {p : Addr} (s : Same H H') : Same (del H p) (del H' p) := fun b o e => by
  by_cases hb : b = p
  · rw [hb, del_same] at e; cases e
  · rw [del_ne hb] at e ⊢; exact s b o e
theorem del_off {H H' : Hp} {p : Addr} (k : ∀ b, b ≠ p → H' b = H b) : Same (del H p) (del H' p) := fun b o e => by
  by_cases hb : b = p
  · rw [hb, del_same] at e; cases e
  · rw [del_ne hb] at e ⊢; rw [k b hb]; exact e
theorem del_le {H : Hp} {p : Addr} : Same (del H p) H := fun b o e => by
  by_cases hb : b = p
  · rw [hb, del_same] at e; cases e
  · rw [del_ne hb] at e; exact e
theorem HandAt.same {H H' : Hp} {p c : Addr} {cells : List Int} (h : HandAt H p c cells) (s : Same H H') : HandAt H' p c cells := by
  obtain ⟨⟨i, z, s0, n, hi, e⟩, l⟩ := h
  exact ⟨⟨i, z, s0, n, hi, s _ _ e⟩, s _ _ l⟩
theorem HandAt.some {H : Hp} {p c : Addr} {cells : List Int} (h : HandAt H p c cells) : ∃ l, H p = .some (.lst l) := by
  obtain ⟨⟨i, z, s0, n, hi, e⟩, _⟩ := h
  exact ⟨_, e⟩
theorem HandAt.fresh {H : Hp} {p c q : Addr} {cells : List Int} (h : HandAt H p c cells) (hq : H q = none) : q ≠ p := by
  obtain ⟨l, e⟩ := h.some
  exact fun z => by rw [z, e] at hq; cases hq
theorem same_upd {G H' : Hp} {p D : Addr} {o : HO} (s : Same G (del H' p)) (hd : G D = none) : Same G (del (upd H' D o) p) := fun b u e => by
  have nb : b ≠ D := ne_of_none e hd
  have h := s b u e
  by_cases hb : b = p
  · rw [hb, del_same] at h; cases h
  · rw [del_ne hb] at h ⊢
    rw [upd_ne nb]
    exact h
theorem HandAt.upd {H : Hp} {p c D : Addr} {cells : List Int} {o : HO} (h : HandAt H p c cells) (h1 : D ≠ p) (h2 : D ≠ c) : HandAt (upd H D o) p c cells := by
  obtain ⟨⟨i, z, s0, n, hi, e⟩, l⟩ := h
  exact ⟨⟨i, z, s0, n, hi, by rw [upd_ne h1.symm]; exact e⟩, by rw [upd_ne h2.symm]; exact l⟩

theorem seqIx {i : Int} {n : Nat} (h0 : 0 ≤ i) (h : i < (n : Int)) : seqIndex? i n = some i.toNat := by
  unfold seqIndex?
  simp
  omega
def spSpec (K : PySem.W.Frag) : Sp := fun vs H Q _ => ∃ (p c : Addr) (cells : List Int), vs = [.ref p] ∧ HandAt H p c cells ∧
  ∀ v z M H', HandAt H' p c cells → Same (del H p) (del H' p) → SpecAt K (del H' p) v z M → DrOk z M → Q v H'
end K02

set_option Elab.async false
set_option linter.all false
set_option maxRecDepth 100000
set_option maxHeartbeats 2000000
namespace K02
open PySem L2
section
variable {P : Program} {w : World} {K : PySem.W.Frag} {mg : Str → Option Value} {base : Heap}
theorem scSpec : FnScope ["_law_hand_here", "_law_word", "_law_turn"] ["_law_hand_here"] (defScope sSpec) := ⟨rfl, rfl, rfl, by decide +kernel, rfl, by decide +kernel, by decide +kernel⟩
theorem ok_spec {f fD fS : Addr} {fd fdD fdS : FuncData} (F : Fn K mg "_law_lot_spec" sSpec ["_law_hand_here"] f fd) (ND : Fn K mg "_law_draw" sDraw ["_law_hand_here", "_law_many"] fD fdD) (NS : Fn K mg "_law_some" sSome ["_law_hand_here", "_law_things"] fS fdS) (T : TxB mg) (T2 : TxD mg) : FnOk P w K mg base CX0 3 f fd ["_law_hand_here"] (spSpec K) := by
  have GD : FnOk P w K mg base CX0 1 fD fdD ["_law_hand_here", "_law_many"] spDraw := ok_draw ND.F T
  have GS : FnOk P w K mg base CX0 2 fS fdS ["_law_hand_here", "_law_things"] (spSome K) := ok_some NS.F T ND.F ND.b ND.m
  refine F.F.ok scSpec (fun vs H Q E h => ?_) (fun cdv A outer s H vs Q E hr h => ?_)
  · obtain ⟨_, _, _, rfl, _⟩ := h
    rfl
  · obtain ⟨p, c, cells, rfl, hA, k⟩ := h
    have nd := scSpec.nd
    have hu := hu_of hr
    have hr1 := hr.mono (show 1 ≤ 2 by decide)
    refine ⟨_, Evl.pss_cut (ps_set (i := 1) nd rfl (Or.inl rfl) (pe_call GS hr (by rfl) NS.m NS.F.kp NS.b .nil pass0 (pa_cons (pv 0) (pa_cons (pe_lst (pa_cons pe_str (pa_cons pe_str (pa_cons pe_str (pa_cons pe_str (pa_cons pe_str (pa_cons pe_str (pa_cons pe_str pa_nil)))))))) pa_nil))))
      (pss_cons (ps_if (pt_cmpR op_ne (pv 1) pe_str (nomark _)) (pss_one (ps_ret (pe_tup (pa_cons (pv 1) (pa_cons (pe_tup pa_nil) (pa_cons pe_non pa_nil)))))) pss_nil)
      (pss_one (ps_ret (pe_tup (pa_cons (pv 1) (pa_cons (pe_callTy call_tuple_of (by rfl) T2.tuple (by decide +kernel) (pa_cons
        (pe_lc (own := [("_law_turn", 2)]) (g := gName 2) (tt := tYes) rfl nd (pi_range1 (by rfl) T.range (pa_cons (pe_op op_add pe_int (pe_call GD hr1 (by rfl) ND.m ND.F.kp ND.b .nil pass0 (pa_cons (pv 0) (pa_cons pe_int pa_nil)))) pa_nil))
          (blkOk_by (N := ["_law_hand_here", "_law_word", "_law_turn"]) (sc := defScope sSpec) (by decide +kernel)) (fun _ _ _ _ _ => pg_name (i := 2) nd rfl (Or.inl rfl)) (fun _ _ _ _ _ => pts_nil)
          (fun _ _ _ _ _ => pe_op op_add pe_int (pe_call GD hr1 (by rfl) ND.m ND.F.kp ND.b .nil pass0 (pa_cons (pv 0) (pa_cons pe_int pa_nil))))) pa_nil)) (pa_cons pe_non pa_nil))))))), ?_⟩
    refine ⟨fun σ' H' => ∃ z : Str, σ' = [some (.ref p), some (.str z), none] ∧ (z = "once" ∨ z = "loan" ∨ z = "free" ∨ z = "more") ∧ HandAt H' p c cells ∧ Same (del H p) (del H' p), ?_, ?_⟩
    · refine ⟨_, rfl, (by show 7 ≤ sizeLine; decide), fun l hl => ?_⟩
      have s1 := same_new (o := .lst [.str "once", .str "loan", .str "free", .str "more", .str "more", .str "more", .str "more"]) (same_refl H) hl
      have f1 : upd H l (.lst [.str "once", .str "loan", .str "free", .str "more", .str "more", .str "more", .str "more"]) l = some (.lst [.str "once", .str "loan", .str "free", .str "more", .str "more", .str "more", .str "more"]) := upd_same
      generalize upd H l (.lst [.str "once", .str "loan", .str "free", .str "more", .str "more", .str "more", .str "more"]) = G1 at *
      refine ⟨p, c, l, cells, _, rfl, hA.same s1, SqL.of f1, hA.fresh hl, (by decide), (by decide), fun k v H' hv hA' off => ?_⟩
      have mem := List.mem_of_getElem? hv
      simp only [List.mem_cons, List.not_mem_nil, or_false] at mem
      have sd := same_trans (del_same_of (p := p) s1) (del_off off)
      rcases mem with rfl | rfl | rfl | rfl | rfl | rfl | rfl
      · exact ⟨_, rfl, .inl rfl, hA', sd⟩
      · exact ⟨_, rfl, .inr (.inl rfl), hA', sd⟩
      · exact ⟨_, rfl, .inr (.inr (.inl rfl)), hA', sd⟩
      · exact ⟨_, rfl, .inr (.inr (.inr rfl)), hA', sd⟩
      · exact ⟨_, rfl, .inr (.inr (.inr rfl)), hA', sd⟩
      · exact ⟨_, rfl, .inr (.inr (.inr rfl)), hA', sd⟩
      · exact ⟨_, rfl, .inr (.inr (.inr rfl)), hA', sd⟩
    · rintro _ H1 ⟨z, rfl, hz, hA1, sd1⟩
      refine ⟨_, rfl, rfl, _, rfl, ?_⟩
      refine ite2 (fun d => ?_) (fun d => ?_)
      · have d2 : z ≠ "more" := fun e => by subst e; revert d; simp
        refine ⟨_, rfl, (by show 0 ≤ sizeLine; decide), fun t ht => ?_⟩
        have s1 := same_new (o := .tup []) (same_refl H1) ht
        have f1 : upd H1 t (.tup []) t = some (.tup []) := upd_same
        have ntp := hA1.fresh ht
        generalize upd H1 t (.tup []) = G1 at *
        refine ⟨(by show 3 ≤ sizeLine; decide), fun a ha => ?_⟩
        have s2 := same_new (o := .tup [.str z, .ref t, .non]) s1 ha
        have nap := (hA1.same s1).fresh ha
        have hta : t ≠ a := ne_of_none f1 ha
        refine k (.ref a) z [] _ (hA1.same s2) (same_trans sd1 (del_same_of s2)) ⟨a, t, rfl, by rw [del_ne nap, upd_same], by rw [del_ne ntp, upd_ne hta]; exact f1⟩ ⟨⟨hz, fun _ => rfl, fun e => absurd e d2, Nat.zero_le _, fun m hm => by cases hm⟩, Nat.zero_le _, fun m hm => by cases hm⟩
      · have d2 : z = "more" := by
          have : ¬ ((!decide (V.str z = V.str "more")) = true) := d
          simp at this
          exact this
        subst d2
        refine ⟨_, rfl, _, rfl, p, c, cells, 4, rfl, hA1, by decide, by decide, fun r H2 r0 r4 hA2 o2 => ?_⟩
        refine ⟨_, _, rfl, rfl, _, rfl, by omega, by omega, fun D hD => ?_⟩
        have sd2 := same_trans sd1 (del_off o2)
        have hDp := hA2.fresh hD
        have hDc : D ≠ c := fun z => by rw [z, hA2.cl] at hD; cases hD
        have hDG : del H p D = none := same_none sd2 (by rw [del_ne hDp]; exact hD)
        have a0 := same_new (o := .lst []) (same_refl H2) hD
        refine lc_range (lo := 0) (n := (1 + r).toNat) (fun i H' => HandAt H' p c cells ∧ Same (del H p) (del H' p) ∧ ∃ M : List Nat, M.length = i ∧ (∀ m ∈ M, 1 ≤ m ∧ m ≤ 12) ∧ H' D = some (.lst (M.map nI))) ⟨hA2.same a0, same_trans sd2 (del_same_of a0), [], rfl, fun m hm => (by cases hm), upd_same⟩ ?_ ?_
        · rintro i H' hi ⟨hA3, sd3, M, hM, hp, hD3⟩
          refine ⟨rfl, ?_⟩
          refine yes_kept ?_
          refine ⟨_, rfl, p, c, cells, 12, rfl, hA3, by decide, by decide, fun x H4 x0 x1 hA4 o4 => ?_⟩
          have hD4 := (o4 D hDp).trans hD3
          refine ⟨_, _, rfl, rfl, _, hD4, (by rw [List.length_map]; exact small1000 (by omega)), hA4.upd hDp hDc, same_upd (same_trans sd3 (del_off o4)) hDG, M ++ [(1 + x).toNat], by rw [List.length_append, hM]; rfl, fun m hm => ?_, ?_⟩
          · obtain hm | hm := List.mem_append.mp hm
            · exact hp m hm
            · rw [List.mem_singleton] at hm
              omega
          · rw [upd_same, List.map_append]
            show some (HO.lst (_ ++ [V.int (1 + x)])) = some (HO.lst (_ ++ [V.int (((1 + x).toNat : Nat) : Int)]))
            rw [Int.toNat_of_nonneg (show 0 ≤ 1 + x by omega)]
        · rintro H' ⟨hA3, sd3, M, hM, hp, hD3⟩
          refine ⟨D, _, rfl, .inl ⟨SqL.of hD3, fun t ht => ?_⟩⟩
          have s1 := same_new (o := .tup (M.map nI)) (same_refl H') ht
          have f1 : upd H' t (.tup (M.map nI)) t = some (.tup (M.map nI)) := upd_same
          have ntp := hA3.fresh ht
          generalize upd H' t (.tup (M.map nI)) = G1 at *
          refine ⟨(by show 3 ≤ sizeLine; decide), fun a ha => ?_⟩
          have s2 := same_new (o := .tup [.str "more", .ref t, .non]) s1 ha
          have nap := (hA3.same s1).fresh ha
          have hta : t ≠ a := ne_of_none f1 ha
          exact k (.ref a) "more" M _ (hA3.same s2) (same_trans sd3 (del_same_of s2)) ⟨a, t, rfl, by rw [del_ne nap, upd_same], by rw [del_ne ntp, upd_ne hta]; exact f1⟩ ⟨⟨hz, fun e => absurd rfl e, fun _ => by omega, by omega, fun m hm => by have := hp m hm; omega⟩, by omega, fun m hm => (hp m hm).2⟩
end
end K02

set_option Elab.async false
set_option linter.all false
set_option maxRecDepth 100000
set_option maxHeartbeats 4100000
namespace K02
open PySem L2
abbrev sLot : Stmt := top 35
abbrev sDueCm : Stmt := top 36
abbrev sDueAr : Stmt := top 37
abbrev sOfN : Stmt := top 38
def spLot (K : PySem.W.Frag) (CL CS : Addr) : Sp := fun vs H Q _ => ∃ (v : V) (z : Str) (M : List Nat), vs = [v] ∧ SpecAt K H v z M ∧ DrOk z M ∧ ∀ x k H', Same H H' → H x = none → LvAt CL CS H' x z k 12 12 132 → (z = "more" → Kept k M) → Q (.ref x) H'
noncomputable def spOfN (K : PySem.W.Frag) : Sp := fun vs H Q _ => ∃ (a : Addr) (z : Str) (k : List Nat) (B G F : Nat), vs = [.ref a] ∧ H a = some (.lst ((flL z k 401).map V.bl)) ∧ LvOk B G F z k ∧ B ≤ 399 ∧ ∀ v H', Same H H' → SpecAt K H' v z k → Q v H'
noncomputable def spDueCm (K : PySem.W.Frag) : Sp := fun vs H Q _ => ∃ (v1 v2 : V) (z1 z2 : Str) (M1 M2 : List Nat) (z : Str) (k : List Nat) (B G F : Nat), vs = [v1, v2] ∧ SpecAt K H v1 z1 M1 ∧ SpecAt K H v2 z2 M2 ∧ SpecOk z1 M1 ∧ SpecOk z2 M2 ∧ LvOk B G F z k ∧ B ≤ 399 ∧ Cm z1 M1 z2 M2 z k ∧
  ∀ v H', Same H H' → SpecAt K H' v z k → Q v H'
structure ArSpec (z : Str) (M M1 M2 : List Nat) : Prop where
  ne : z = "more" → 0 < M.length
  no : z ≠ "more" → M = []
  len : M.length ≤ M1.length + M2.length
  mem : ∀ m ∈ M, m ∈ M1 ∨ m ∈ M2
def spDueAr (K : PySem.W.Frag) : Sp := fun vs H Q _ => ∃ (v1 v2 : V) (z1 z2 : Str) (M1 M2 : List Nat), vs = [v1, v2] ∧ SpecAt K H v1 z1 M1 ∧ SpecAt K H v2 z2 M2 ∧ SpecOk z1 M1 ∧ SpecOk z2 M2 ∧
  ∀ v z M H', Same H H' → SpecAt K H' v z M → z = arW z1 z2 → (z = "more" → ∀ n, Sm M n ↔ Sm (M1 ++ M2) n) → ArSpec z M M1 M2 → Q v H'
theorem LvOk.spec {B G F : Nat} {z : Str} {k : List Nat} (h : LvOk B G F z k) (hB : B ≤ 500) : SpecOk z k := by
  refine ⟨h.wd, h.no, fun e => (h.mo e).ne, ?_, fun m hm => ?_⟩
  · by_cases c : z = "more"
    · have := (h.mo c).len; omega
    · rw [h.no c]; exact Nat.zero_le _
  · by_cases c : z = "more"
    · have := (h.mo c).p m hm; omega
    · rw [h.no c] at hm; cases hm
theorem drop_two {xs : List V} (h : 2 ≤ xs.length) : cutV xs (some 2) none = xs.drop 2 := by
  unfold cutV
  rw [HT.sIx_none, show ((2 : Int)) = ((2 : Nat) : Int) from rfl, HT.sIx_nat, List.take_of_length_le (by rw [List.length_drop]; exact Nat.le_refl _), Nat.min_eq_left h]
theorem flL_drop {z : Str} {k : List Nat} : (flL z k 401).drop 2 = (List.range 399).map fun i => flagOf z k (i + 2) := by
  refine List.ext_getElem? fun i => ?_
  rw [List.getElem?_drop]
  by_cases c : i < 399
  · rw [flL_get (by omega), List.getElem?_map, List.getElem?_range c, Nat.add_comm]; rfl
  · rw [List.getElem?_eq_none (by rw [flL_len]; omega), List.getElem?_eq_none (by rw [List.length_map, List.length_range]; omega)]
/-- the flags that the search for makers is told -/
noncomputable def lmL (z : Str) (k : List Nat) : List Bool := false :: (List.range 399).map fun i => flagOf z k (i + 2)
theorem lmL_len {z : Str} {k : List Nat} : (lmL z k).length = 399 + 1 := by unfold lmL; rw [List.length_cons, List.length_map, List.length_range]
theorem lmL_get {z : Str} {k : List Nat} {i : Nat} (h1 : 1 ≤ i) (h2 : i ≤ 399) : (lmL z k)[i]? = some (flagOf z k (i + 1)) := by
  obtain ⟨j, rfl⟩ : ∃ j, i = j + 1 := ⟨i - 1, by omega⟩
  unfold lmL
  rw [List.getElem?_cons_succ, List.getElem?_map, List.getElem?_range (by omega)]; rfl
theorem sm_nil {n : Nat} (h : Sm [] n) : n = 0 := by
  cases h with
  | zero => rfl
  | add _ h => cases h
/-- what is found of them -/
theorem lm_found {B G F : Nat} {z : Str} {M k : List Nat} {found : List Nat} {sums : List Bool} (hz : z = "more") (h : LvOk B G F z k) (hB : B ≤ 399) (hM : ∀ n, Sm k n ↔ Sm M n) (hp : ∀ m ∈ M, 0 < m) (g : Gens M found sums 399) : found = k := by
  have lv := h.mo hz
  refine asc_eq g.asc lv.kp.asc fun x => ?_
  rw [g.mem, lv.kp.gen lv.pos]
  constructor
  · rintro ⟨a, _⟩
    exact a.congr hp lv.pos (fun n => (hM n).symm) x
  · intro a
    have := (lv.p x ((lv.kp.gen lv.pos x).mpr a)).2
    exact ⟨a.congr lv.pos hp hM x, by omega⟩
theorem gens_none {found : List Nat} {sums : List Bool} (g : Gens [] found sums 399) : found = [] := by
  cases found with
  | nil => rfl
  | cons a l =>
    have := ((g.mem a).mp List.mem_cons_self).1
    have a0 := this.1
    have := sm_nil this.2.1
    omega
section
variable {P : Program} {w : World} {K : PySem.W.Frag} {mg : Str → Option Value} {base : Heap} {CL CS aW fE CB fI : Addr} {fdI : FuncData}
theorem scLot : FnScope ["_law_spec"] ["_law_spec"] (defScope sLot) := ⟨rfl, rfl, rfl, by decide +kernel, rfl, by decide +kernel, by decide +kernel⟩
theorem ok_lot {f : Addr} {fd : FuncData} (F : Fn K mg "_law_lot" sLot ["_law_spec"] f fd) (GI : FnOk P w K mg base (L2.CX P w) 6 fI fdI ["self", "word", "makers"] (spLInit K CL CS CB)) (L : LotT K mg CL aW fE) (LF : LotF K mg CL fI fdI) : FnOk P w K mg base CX0 8 f fd ["_law_spec"] (spLot K CL CS) := by
  refine F.F.ok scLot (fun vs H Q E h => ?_) (fun cdv A outer s H vs Q E hr h => ?_)
  · obtain ⟨_, _, _, rfl, _⟩ := h
    rfl
  · obtain ⟨v, z, M, rfl, hs, hz, k⟩ := h
    refine ⟨_, pss_one (ps_ret (pe_make LF.M GI hr (by rfl) L.mgL LF.b .nil passL (pa_cons (pe_ix ix_tup (pv 0) pe_int (fun _ _ => rfl)) (pa_cons (pe_ix ix_tup (pv 0) pe_int (fun _ _ => rfl)) pa_nil)))), ?_⟩
    obtain ⟨a, m, rfl, ha, hm⟩ := hs
    refine ⟨_, rfl, a, _, _, _, rfl, rfl, SqT.of ha, rfl, _, rfl, a, _, _, _, rfl, rfl, SqT.of ha, rfl, fun x dx nx ndx nex => ?_⟩
    have mx : m ≠ x := ne_of_none hm nx
    have mdx : m ≠ dx := ne_of_none hm ndx
    have hm2 : upd (upd H dx (.own x)) x (.ins CL dx []) m = some (.tup (M.map nI)) := by rw [upd_ne mx, upd_ne mdx]; exact hm
    obtain ⟨q1, q2⟩ := spec_mk hz (SqT.of hm2)
    refine ⟨x, dx, _, _, some z, _, rfl, upd_same, rfl, q1, fun _ H' z' M' t kept e1 e2 off hl => ⟨rfl, ?_⟩, fun part e => by rw [q2] at e; cases e⟩
    cases e1
    have em : M = M' := map_some_inj (Option.some.inj e2)
    subst em
    exact k x kept H' (fun b o e => off b o (ne_of_none e nx) (by rw [upd_ne (ne_of_none e nx), upd_ne (ne_of_none e ndx)]; exact e)) nx (hl.drawn hz) hl.kept.1
theorem scOfN : FnScope ["_law_flags", "_law_makers"] ["_law_flags"] (defScope sOfN) := ⟨rfl, rfl, rfl, by decide +kernel, rfl, by decide +kernel, by decide +kernel⟩
theorem ok_ofn {f fL : Addr} {fd fdL : FuncData} (F : Fn K mg "_law_of_numbers" sOfN ["_law_flags"] f fd) (NL : Fn K mg "_law_least_makers" sLeast ["_law_flags"] fL fdL) (T : TxB mg) (T2 : TxD mg) : FnOk P w K mg base CX0 2 f fd ["_law_flags"] (spOfN K) := by
  have GL : FnOk P w K mg base CX0 1 fL fdL ["_law_flags"] (spLeast K) := ok_least NL T T2
  refine F.F.ok scOfN (fun vs H Q E h => ?_) (fun cdv A outer s H vs Q E hr h => ?_)
  · obtain ⟨_, _, _, _, _, _, rfl, _⟩ := h
    rfl
  · obtain ⟨a, z, k, B, G, F', rfl, ha, hz, hB, kq⟩ := h
    have nd := scOfN.nd
    refine ⟨_, pss_cons (ps_if (pt_val (pe_ix ix_list (pv 0) pe_int (fun _ _ => rfl))) (pss_one (ps_ret (pe_ifExp (pt_val (pe_ix ix_list (pv 0) pe_int (fun _ _ => rfl))) (pe_tup (pa_cons pe_str (pa_cons (pe_tup pa_nil) (pa_cons pe_non pa_nil)))) (pe_tup (pa_cons pe_str (pa_cons (pe_tup pa_nil) (pa_cons pe_non pa_nil))))))) pss_nil)
      (pss_cons (ps_set (i := 1) nd rfl (Or.inl rfl) (pe_call GL hr (by rfl) NL.m NL.F.kp NL.b .nil pass0 (pa_cons (pe_op op_cat (pe_lst (pa_cons pe_bl pa_nil)) (pe_slice sl_list (pv 0) (po_some pe_int) po_none)) pa_nil)))
      (pss_one (ps_ret (pe_ifExp (pt_cmpR op_gt (pe_callB call_len (by rfl) T.len PySem.boot_len (pa_cons (pv 1) pa_nil)) pe_int (nomark _)) (pe_tup (pa_cons pe_str (pa_cons (pv 1) (pa_cons pe_non pa_nil)))) (pe_tup (pa_cons pe_str (pa_cons (pe_tup pa_nil) (pa_cons pe_non pa_nil)))))))), ?_⟩
    have at_ : ∀ n : Nat, n < 401 → atI ((flL z k 401).map V.bl) (n : Int) = some (.bl (flagOf z k n)) := fun n hn => atI_nat (by rw [List.getElem?_map, flL_get hn]; rfl)
    -- a spec of a word alone
    have plain : ∀ (z' : Str) (H1 : Hp), Same H H1 → z = z' → z' ≠ "more" → 0 ≤ sizeLine ∧ ∀ t, H1 t = none → 3 ≤ sizeLine ∧ ∀ p, upd H1 t (.tup []) p = none → Q (.ref p) (upd (upd H1 t (.tup [])) p (.tup [.str z', .ref t, .non])) := fun z' H1 s1 e ne => by
      refine ⟨by decide, fun t ht => ⟨by decide, fun p hp => ?_⟩⟩
      subst e
      have s2 := same_new (o := .tup []) s1 ht
      have f2 : upd H1 t (.tup []) t = some (.tup []) := upd_same
      refine kq (.ref p) _ (same_new s2 hp) ⟨p, t, rfl, upd_same, ?_⟩
      rw [upd_ne (ne_of_none f2 hp), hz.no ne]
      exact f2
    refine ⟨_, rfl, a, _, _, _, rfl, rfl, SqL.of ha, at_ 0 (by decide), _, rfl, ?_⟩
    refine ite2 (fun c => ?_) (fun c => ?_)
    · refine ⟨_, rfl, a, _, _, _, rfl, rfl, SqL.of ha, at_ 2 (by decide), _, rfl, ?_⟩
      refine ite2 (fun d => ?_) (fun d => ?_)
      · have e : z = "free" := by
          rcases has0 hz c with q | q
          · subst q
            rcases has2 hz (Nat.le_refl 1) d with q | q
            · exact q
            · exact absurd q loan_more
          · exact q
        exact plain "free" H (same_refl H) e free_more
      · have e : z = "loan" := (has0 hz c).resolve_right fun q => d (by rw [q]; exact fl_free)
        exact plain "loan" H (same_refl H) e loan_more
    · refine ⟨(by show 1 ≤ sizeLine; decide), fun l0 hl0 => ?_⟩
      have s1 := same_new (o := .lst [.bl false]) (same_refl H) hl0
      have f1 : upd H l0 (.lst [.bl false]) l0 = some (.lst [.bl false]) := upd_same
      generalize upd H l0 (.lst [.bl false]) = G1 at *
      refine ⟨_, rfl, _, rfl, a, _, rfl, SqL.of (s1 _ _ ha), fun l1 hl1 => ?_⟩
      rw [drop_two (by rw [List.length_map, flL_len]; decide), ← List.map_drop, flL_drop]
      have s2 := same_new (o := .lst (((List.range 399).map fun i => flagOf z k (i + 2)).map V.bl)) s1 hl1
      have f2 : upd G1 l1 (.lst (((List.range 399).map fun i => flagOf z k (i + 2)).map V.bl)) l1 = some (.lst (((List.range 399).map fun i => flagOf z k (i + 2)).map V.bl)) := upd_same
      have f1' := same_new (o := .lst (((List.range 399).map fun i => flagOf z k (i + 2)).map V.bl)) (same_refl G1) hl1 _ _ f1
      generalize upd G1 l1 (.lst (((List.range 399).map fun i => flagOf z k (i + 2)).map V.bl)) = G2 at *
      refine ⟨l0, l1, _, _, rfl, rfl, f1', f2, (by rw [List.length_map, List.length_map, List.length_range]; decide), fun p hp => ?_⟩
      have el : [V.bl false] ++ ((List.range 399).map fun i => flagOf z k (i + 2)).map V.bl = (lmL z k).map V.bl := rfl
      rw [el]
      have s3 := same_new (o := .lst ((lmL z k).map V.bl)) s2 hp
      have f3 : upd G2 p (.lst ((lmL z k).map V.bl)) p = some (.lst ((lmL z k).map V.bl)) := upd_same
      generalize upd G2 p (.lst ((lmL z k).map V.bl)) = G3 at *
      have cases_ : (z = "once" ∧ k = []) ∨ z = "more" := by
        rcases hz.wd with e | e | e | e
        · exact .inl ⟨e, hz.no (by rw [e]; exact once_more)⟩
        · exact absurd (by rw [e, fl_loan]; rfl) c
        · exact absurd (by rw [e]; exact fl_free) c
        · exact .inr e
      refine ⟨p, lmL z k, k, 399, rfl, f3, lmL_len, by decide, fun m hm => ?_, fun i i1 i2 => ?_, fun found sums q H' g s4 nq hq => ?_⟩
      · rcases cases_ with ⟨_, e⟩ | e
        · rw [e] at hm; cases hm
        · exact (hz.mo e).pos m hm
      · rw [lmL_get i1 i2]
        rcases cases_ with ⟨e, e2⟩ | e
        · rw [e, e2, (low_two i1).1]
          cases h : smB [] i with
          | false => rfl
          | true => have := sm_nil (smB_iff.mp h); omega
        · rw [e, fl_more]
      · have s5 := same_trans s3 s4
        refine ⟨_, rfl, _, _, rfl, .inr ⟨_, SqT.of hq, rfl⟩, _, _, rfl, rfl, _, rfl, ?_⟩
        rw [List.length_map]
        rcases cases_ with ⟨e, e2⟩ | e
        · have fn : found = [] := gens_none (by rw [e2] at g; exact g)
          subst fn
          refine ifF (by decide) ?_
          exact plain "once" H' s5 e once_more
        · have fk := lm_found e hz hB (fun n => Iff.rfl) (hz.mo e).pos g
          subst fk
          have := (hz.mo e).ne
          refine ifT (decide_eq_true (by omega)) ?_
          refine ⟨_, rfl, (by show 3 ≤ sizeLine; decide), fun p' hp' => ?_⟩
          subst e
          exact kq (.ref p') _ (same_new s5 hp') ⟨p', q, rfl, upd_same, by rw [upd_ne (ne_of_none hq hp')]; exact hq⟩
end
end K02

set_option Elab.async false
set_option linter.all false
set_option maxRecDepth 100000
set_option maxHeartbeats 4100000
namespace K02
open PySem L2
abbrev sIsAs : Stmt := top 39
abbrev sLies : Stmt := top 40
theorem inV2 {a x y : Str} : inV (.str a) [V.str x, V.str y] = (decide (a = x) || decide (a = y)) := by
  have e : ∀ b : Str, eqV (.str b) (.str a) = decide (a = b) := fun b => by
    have : eqV (.str b) (.str a) = (b == a) := rfl
    rw [this, Bool.eq_iff_iff, beq_iff_eq, decide_eq_true_eq]
    exact ⟨fun h => h.symm, fun h => h.symm⟩
  show (eqV (.str x) (.str a) || (eqV (.str y) (.str a) || false)) = _
  rw [e, e, Bool.or_false]
noncomputable def spIsAs (K : PySem.W.Frag) (CL CS : Addr) : Sp := fun vs H Q _ => ∃ (x : Addr) (v : V) (z : Str) (k M : List Nat) (B G F : Nat), vs = [.ref x, v] ∧ LvAt CL CS H x z k B G F ∧ B ≤ 399 ∧ SpecAt K H v z M ∧ SpecOk z M ∧ (z = "more" → ∀ n, Sm k n ↔ Sm M n) ∧
  ∀ H', Same H H' → Q (.bl true) H'
noncomputable def liesB (z1 : Str) (M1 : List Nat) (z2 : Str) (M2 : List Nat) : Bool := ((List.range 401).map fun n => !flagOf z1 M1 n || flagOf z2 M2 n).all id
noncomputable def spLies (K : PySem.W.Frag) : Sp := fun vs H Q _ => ∃ (v1 v2 : V) (z1 z2 : Str) (M1 M2 : List Nat), vs = [v1, v2] ∧ SpecAt K H v1 z1 M1 ∧ SpecAt K H v2 z2 M2 ∧ SpecOk z1 M1 ∧ SpecOk z2 M2 ∧ ∀ H', Same H H' → Q (.bl (liesB z1 M1 z2 M2)) H'
/-- further names of the text -/
structure TxZ (mg : Str → Option Value) : Prop where
  zip : mg "zip" = none
theorem lies_inn {B1 G1 F1 B2 G2 F2 : Nat} {z1 z2 : Str} {k1 k2 M1 M2 : List Nat} (h1 : LvOk B1 G1 F1 z1 k1) (h2 : LvOk B2 G2 F2 z2 k2) (hB : B1 ≤ 399) (e1 : ∀ n, flagOf z1 k1 n = flagOf z1 M1 n) (e2 : ∀ n, flagOf z2 k2 n = flagOf z2 M2 n) : liesB z1 M1 z2 M2 = innB z1 k1 z2 k2 := by
  rw [Bool.eq_iff_iff, innB_iff]
  unfold liesB
  rw [List.all_map, List.all_eq_true]
  constructor
  · intro h
    refine inn_near h1 h2 hB fun n hn hf => ?_
    have := h n (List.mem_range.mpr (by omega))
    have this : (!flagOf z1 M1 n || flagOf z2 M2 n) = true := this
    rw [← e1, ← e2, hf] at this
    simpa using this
  · intro h n _
    show (!flagOf z1 M1 n || flagOf z2 M2 n) = true
    rw [← e1, ← e2]
    cases c : flagOf z1 k1 n with
    | false => rfl
    | true => rw [h n c]; rfl
section
variable {P : Program} {w : World} {K : PySem.W.Frag} {mg : Str → Option Value} {base : Heap} {CL CS aW fE CB fI : Addr} {fdI : FuncData}
theorem scDueCm : FnScope ["_law_one", "_law_other", "_law_flags", "_law_a", "_law_b"] ["_law_one", "_law_other"] (defScope sDueCm) := ⟨rfl, rfl, rfl, by decide +kernel, rfl, by decide +kernel, by decide +kernel⟩
theorem ok_dueCm {f fO fT : Addr} {fd fdO fdT : FuncData} (F : Fn K mg "_law_due_common" sDueCm ["_law_one", "_law_other"] f fd) (NO : Fn K mg "_law_of_numbers" sOfN ["_law_flags"] fO fdO) (GO : FnOk P w K mg base CX0 2 fO fdO ["_law_flags"] (spOfN K))
    (NT : Fn K mg "_law_told_numbers" sTold ["_law_spec", "_law_most"] fT fdT) (GT : FnOk P w K mg base CX0 2 fT fdT ["_law_spec", "_law_most"] (spTold K)) (Z : TxZ mg) : FnOk P w K mg base CX0 3 f fd ["_law_one", "_law_other"] (spDueCm K) := by
  refine F.F.ok scDueCm (fun vs H Q E h => ?_) (fun cdv A outer s H vs Q E hr h => ?_)
  · obtain ⟨_, _, _, _, _, _, _, _, _, _, _, rfl, _⟩ := h
    rfl
  · obtain ⟨v1, v2, z1, z2, M1, M2, z, k, B, G, F', rfl, h1, h2, o1, o2, hz, hB, cm, kq⟩ := h
    have nd := scDueCm.nd
    refine ⟨_, pss_cons (ps_setLc (i := 2) (own := [("_law_a", 3), ("_law_b", 4)]) (g := gTup K 2 (gCons (gName 3) (gCons (gName 4) gNil))) (tt := tYes) rfl nd rfl rfl (sw_true rfl rfl rfl (by decide +kernel))
        (pi_zip (by rfl) Z.zip (pa_cons (pe_call GT hr (by rfl) NT.m NT.F.kp NT.b .nil pass0 (pa_cons (pv 0) (pa_cons pe_int pa_nil))) (pa_cons (pe_call GT hr (by rfl) NT.m NT.F.kp NT.b .nil pass0 (pa_cons (pv 1) (pa_cons pe_int pa_nil))) pa_nil)))
        (blkOk_by (N := ["_law_one", "_law_other", "_law_flags", "_law_a", "_law_b"]) (sc := defScope sDueCm) (by decide +kernel))
        (fun _ _ _ _ _ => pg_tup rfl (pgs_cons (pg_name (i := 3) nd rfl (Or.inl rfl)) (pgs_cons (pg_name (i := 4) nd rfl (Or.inl rfl)) pgs_nil))) (fun _ _ _ _ _ => pts_nil)
        (fun _ _ _ _ _ => pe_and (pv 3) (pe_one (pv 4))))
      (pss_one (ps_ret (pe_call GO hr (by rfl) NO.m NO.F.kp NO.b .nil pass0 (pa_cons (pv 2) pa_nil)))), ?_⟩
    refine ⟨_, rfl, v1, z1, M1, 400, rfl, h1, o1, by decide, by decide, fun p1 H1 s1 np1 hp1 => ?_⟩
    refine ⟨_, rfl, v2, z2, M2, 400, rfl, h2.same s1, o2, by decide, by decide, fun p2 H2 s2 np2 hp2 => ?_⟩
    refine ⟨p1, p2, _, _, rfl, SqL.of (s2 _ _ hp1), SqL.of hp2, fun D hD => ?_⟩
    have q1 := s2 _ _ hp1
    refine lc_it (walk_zip (n := 401) (by rw [List.length_map, List.length_map, flL_len, flL_len]; rfl)) (fun i H' => Same H2 H' ∧ H' D = some (.lst ((flL z k i).map V.bl))) ⟨same_new (same_refl H2) hD, upd_same⟩ (fun i H' _ p => ⟨SqL.of (p.1 _ _ q1), SqL.of (p.1 _ _ hp2)⟩) ?_ ?_
    · rintro i _ H' _ hi ⟨h3, h4⟩ ⟨T, x, y, rfl, nT, rfl, ex, ey⟩
      replace ex : ((flL z1 M1 401).map V.bl)[i]? = some x := ex
      replace ey : ((flL z2 M2 401).map V.bl)[i]? = some y := ey
      rw [List.getElem?_map, flL_get hi] at ex ey
      cases ex
      cases ey
      have TD : D ≠ T := ne_of_none h4 nT
      have s3 := same_new (o := .tup [.bl (flagOf z1 M1 i), .bl (flagOf z2 M2 i)]) h3 nT
      have h5 : upd H' T (.tup [.bl (flagOf z1 M1 i), .bl (flagOf z2 M2 i)]) D = some (.lst ((flL z k i).map V.bl)) := by rw [upd_ne TD]; exact h4
      have put : ∀ b : Bool, b = flagOf z k i → ∃ acc, upd H' T (.tup [.bl (flagOf z1 M1 i), .bl (flagOf z2 M2 i)]) D = some (.lst acc) ∧ acc.length < sizeLine ∧ Same H2 (upd (upd H' T (.tup [.bl (flagOf z1 M1 i), .bl (flagOf z2 M2 i)])) D (.lst (acc ++ [V.bl b]))) ∧ upd (upd H' T (.tup [.bl (flagOf z1 M1 i), .bl (flagOf z2 M2 i)])) D (.lst (acc ++ [V.bl b])) D = some (.lst ((flL z k (i + 1)).map V.bl)) := fun b e => by
        refine ⟨_, h5, (by rw [List.length_map, flL_len]; exact room2 (by omega)), fun c u e => by rw [upd_ne (ne_of_none e hD)]; exact s3 c u e, ?_⟩
        rw [upd_same, flL_succ, e, List.map_append]; rfl
      refine ⟨T, _, rfl, SqT.of upd_same, rfl, _, _, rfl, _, _, rfl, rfl, ?_⟩
      refine ⟨rfl, ?_⟩
      refine yes_kept ?_
      have c := cm i
      refine ⟨_, rfl, _, rfl, ?_⟩
      refine ite2 (fun d => ?_) (fun d => ?_)
      · rw [d, Bool.true_and] at c
        exact ⟨_, rfl, put _ c.symm⟩
      · rw [Bool.eq_false_iff.mpr d, Bool.false_and] at c
        exact put _ c.symm
    · rintro H' ⟨h3, h4⟩
      exact ⟨_, rfl, D, z, k, B, G, F', rfl, h4, hz, hB, fun v H4 s4 hv => kq v H4 (same_trans s1 (same_trans s2 (same_trans h3 s4))) hv⟩
theorem scLies : FnScope ["_law_one", "_law_other", "_law_a", "_law_b"] ["_law_one", "_law_other"] (defScope sLies) := ⟨rfl, rfl, rfl, by decide +kernel, rfl, by decide +kernel, by decide +kernel⟩
theorem ok_lies {f fT : Addr} {fd fdT : FuncData} (F : Fn K mg "_law_lies" sLies ["_law_one", "_law_other"] f fd)
    (NT : Fn K mg "_law_told_numbers" sTold ["_law_spec", "_law_most"] fT fdT) (GT : FnOk P w K mg base CX0 2 fT fdT ["_law_spec", "_law_most"] (spTold K)) (T0 : TxB mg) (Z : TxZ mg) : FnOk P w K mg base CX0 3 f fd ["_law_one", "_law_other"] (spLies K) := by
  refine F.F.ok scLies (fun vs H Q E h => ?_) (fun cdv A outer s H vs Q E hr h => ?_)
  · obtain ⟨_, _, _, _, _, _, rfl, _⟩ := h
    rfl
  · obtain ⟨v1, v2, z1, z2, M1, M2, rfl, h1, h2, o1, o2, kq⟩ := h
    have nd := scLies.nd
    refine ⟨_, pss_one (ps_ret (pe_callB (cr_all rfl) (by rfl) T0.all (by decide +kernel) (pa_cons (pe_lc (own := [("_law_a", 2), ("_law_b", 3)]) (g := gTup K 2 (gCons (gName 2) (gCons (gName 3) gNil))) (tt := tYes) rfl nd
        (pi_zip (by rfl) Z.zip (pa_cons (pe_call GT hr (by rfl) NT.m NT.F.kp NT.b .nil pass0 (pa_cons (pv 0) (pa_cons pe_int pa_nil))) (pa_cons (pe_call GT hr (by rfl) NT.m NT.F.kp NT.b .nil pass0 (pa_cons (pv 1) (pa_cons pe_int pa_nil))) pa_nil)))
        (blkOk_by (N := ["_law_one", "_law_other", "_law_a", "_law_b"]) (sc := defScope sLies) (by decide +kernel))
        (fun _ _ _ _ _ => pg_tup rfl (pgs_cons (pg_name (i := 2) nd rfl (Or.inl rfl)) (pgs_cons (pg_name (i := 3) nd rfl (Or.inl rfl)) pgs_nil))) (fun _ _ _ _ _ => pts_nil)
        (fun _ _ _ _ _ => pe_or (pe_not (pv 2)) (pe_one (pv 3)))) pa_nil))), ?_⟩
    refine ⟨_, rfl, v1, z1, M1, 400, rfl, h1, o1, by decide, by decide, fun p1 H1 s1 np1 hp1 => ?_⟩
    refine ⟨_, rfl, v2, z2, M2, 400, rfl, h2.same s1, o2, by decide, by decide, fun p2 H2 s2 np2 hp2 => ?_⟩
    refine ⟨p1, p2, _, _, rfl, SqL.of (s2 _ _ hp1), SqL.of hp2, fun D hD => ?_⟩
    have q1 := s2 _ _ hp1
    refine lc_it (walk_zip (n := 401) (by rw [List.length_map, List.length_map, flL_len, flL_len]; rfl)) (fun i H' => Same H2 H' ∧ H' D = some (.lst (((List.range i).map fun n => !flagOf z1 M1 n || flagOf z2 M2 n).map V.bl))) ⟨same_new (same_refl H2) hD, upd_same⟩ (fun i H' _ p => ⟨SqL.of (p.1 _ _ q1), SqL.of (p.1 _ _ hp2)⟩) ?_ ?_
    · rintro i _ H' _ hi ⟨h3, h4⟩ ⟨T, x, y, rfl, nT, rfl, ex, ey⟩
      replace ex : ((flL z1 M1 401).map V.bl)[i]? = some x := ex
      replace ey : ((flL z2 M2 401).map V.bl)[i]? = some y := ey
      rw [List.getElem?_map, flL_get hi] at ex ey
      cases ex
      cases ey
      have TD : D ≠ T := ne_of_none h4 nT
      have s3 := same_new (o := .tup [.bl (flagOf z1 M1 i), .bl (flagOf z2 M2 i)]) h3 nT
      have h5 : upd H' T (.tup [.bl (flagOf z1 M1 i), .bl (flagOf z2 M2 i)]) D = some (.lst (((List.range i).map fun n => !flagOf z1 M1 n || flagOf z2 M2 n).map V.bl)) := by rw [upd_ne TD]; exact h4
      have put : ∀ b : Bool, b = (!flagOf z1 M1 i || flagOf z2 M2 i) → ∃ acc, upd H' T (.tup [.bl (flagOf z1 M1 i), .bl (flagOf z2 M2 i)]) D = some (.lst acc) ∧ acc.length < sizeLine ∧ Same H2 (upd (upd H' T (.tup [.bl (flagOf z1 M1 i), .bl (flagOf z2 M2 i)])) D (.lst (acc ++ [V.bl b]))) ∧ upd (upd H' T (.tup [.bl (flagOf z1 M1 i), .bl (flagOf z2 M2 i)])) D (.lst (acc ++ [V.bl b])) D = some (.lst (((List.range (i + 1)).map fun n => !flagOf z1 M1 n || flagOf z2 M2 n).map V.bl)) := fun b e => by
        refine ⟨_, h5, (by rw [List.length_map, List.length_map, List.length_range]; exact room2 (by omega)), fun c u e => by rw [upd_ne (ne_of_none e hD)]; exact s3 c u e, ?_⟩
        rw [upd_same, List.range_succ, List.map_append, List.map_append, e]; rfl
      refine ⟨T, _, rfl, SqT.of upd_same, rfl, _, _, rfl, _, _, rfl, rfl, ?_⟩
      refine ⟨rfl, ?_⟩
      refine yes_kept ?_
      refine ⟨_, rfl, _, rfl, _, rfl, ?_⟩
      refine ite2 (fun d => ?_) (fun d => ?_)
      · exact put _ (by rw [d, Bool.true_or])
      · exact ⟨_, rfl, put _ (by rw [Bool.eq_false_iff.mpr d, Bool.false_or])⟩
    · rintro H' ⟨h3, h4⟩
      exact ⟨D, _, rfl, SqL.of h4, kq H' (same_trans s1 (same_trans s2 h3))⟩
end
end K02

set_option Elab.async false
set_option linter.all false
set_option maxRecDepth 100000
set_option maxHeartbeats 4100000
namespace K02
open PySem L2
section
variable {P : Program} {w : World} {K : PySem.W.Frag} {mg : Str → Option Value} {base : Heap} {CL CS aW fE CB fI : Addr} {fdI : FuncData}
theorem scDueAr : FnScope ["_law_one", "_law_other", "_law_words"] ["_law_one", "_law_other"] (defScope sDueAr) := ⟨rfl, rfl, rfl, by decide +kernel, rfl, by decide +kernel, by decide +kernel⟩
theorem ok_dueAr {f : Addr} {fd : FuncData} (F : Fn K mg "_law_due_around" sDueAr ["_law_one", "_law_other"] f fd) : FnOk P w K mg base CX0 1 f fd ["_law_one", "_law_other"] (spDueAr K) := by
  refine F.F.ok scDueAr (fun vs H Q E h => ?_) (fun cdv A outer s H vs Q E hr h => ?_)
  · obtain ⟨_, _, _, _, _, _, rfl, _⟩ := h
    rfl
  · obtain ⟨v1, v2, z1, z2, M1, M2, rfl, h1, h2, o1, o2, kq⟩ := h
    have nd := scDueAr.nd
    refine ⟨_, pss_cons (ps_set (i := 2) nd rfl (Or.inl rfl) (pe_lst (pa_cons (pe_ix ix_tup (pv 0) pe_int (fun _ _ => rfl)) (pa_cons (pe_ix ix_tup (pv 1) pe_int (fun _ _ => rfl)) pa_nil))))
      (pss_cons (ps_if (pt_cmpR op_in_seq pe_str (pv 2) (by rfl)) (pss_one (ps_ret (pe_ifExp (pt_cmpR op_eq (pe_ix ix_tup (pv 0) pe_int (fun _ _ => rfl)) pe_str (nomark _)) (pv 1) (pv 0)))) pss_nil)
      (pss_cons (ps_if (PW.pt (pw_or (pt_cmpR op_in_seq pe_str (pv 2) (by rfl)) (pw_or1 (PW.pt (pw_and (pt_cmpR op_in_seq pe_str (pv 2) (by rfl)) (pw_and1 (pt_cmpR op_in_seq pe_str (pv 2) (by rfl)))))))) (pss_one (ps_ret (pe_tup (pa_cons pe_str (pa_cons (pe_tup pa_nil) (pa_cons pe_non pa_nil)))))) pss_nil)
      (pss_one (ps_ret (pe_ifExp (pt_cmpR (op_eqD hr.units) (pv 2) (pe_lst (pa_cons pe_str (pa_cons pe_str pa_nil))) (nomark _)) (pv 0)
        (pe_tup (pa_cons pe_str (pa_cons (pe_op op_catA (pe_ix ix_tup (pv 0) pe_int (fun _ _ => rfl)) (pe_ix ix_tup (pv 1) pe_int (fun _ _ => rfl))) (pa_cons pe_non pa_nil))))))))), ?_⟩
    obtain ⟨a1, m1, rfl, ha1, hm1⟩ := id h1
    obtain ⟨a2, m2, rfl, ha2, hm2⟩ := id h2
    refine ⟨_, rfl, a1, _, _, _, rfl, rfl, SqT.of ha1, rfl, _, rfl, a2, _, _, _, rfl, rfl, SqT.of ha2, rfl, (by show 2 ≤ sizeLine; decide), fun l hl => ?_⟩
    have s1 := same_new (o := .lst [.str z1, .str z2]) (same_refl H) hl
    have f1 : upd H l (.lst [.str z1, .str z2]) l = some (.lst [.str z1, .str z2]) := upd_same
    generalize upd H l (.lst [.str z1, .str z2]) = G1 at *
    have b1 := s1 _ _ ha1
    have b2 := s1 _ _ ha2
    have free : arW z1 z2 = "free" → 0 ≤ sizeLine ∧ ∀ t, G1 t = none → 3 ≤ sizeLine ∧ ∀ p, upd G1 t (.tup []) p = none → Q (.ref p) (upd (upd G1 t (.tup [])) p (.tup [.str "free", .ref t, .non])) := fun e => by
      refine ⟨by decide, fun t ht => ⟨by decide, fun p hp => ?_⟩⟩
      have s2 := same_new (o := .tup []) s1 ht
      have f2 : upd G1 t (.tup []) t = some (.tup []) := upd_same
      exact kq (.ref p) "free" [] _ (same_new s2 hp) ⟨p, t, rfl, upd_same, by rw [upd_ne (ne_of_none f2 hp)]; exact f2⟩ e.symm (fun q => absurd q free_more) ⟨fun q => absurd q free_more, fun _ => rfl, Nat.zero_le _, fun m hm => by cases hm⟩
    refine ⟨_, rfl, l, _, rfl, .inl (SqL.of f1), rfl, rfl, _, rfl, ?_⟩
    rw [inV2]
    refine ite2 (fun c => ?_) (fun c => ?_)
    · refine ⟨_, rfl, a1, _, _, _, rfl, rfl, SqT.of b1, rfl, rfl, _, rfl, ?_⟩
      refine ite2 (fun d => ?_) (fun d => ?_)
      · have e : z1 = "once" := V.str.inj (of_decide_eq_true d)
        refine ⟨_, rfl, kq (.ref a2) z2 M2 G1 s1 (h2.same s1) (by unfold arW; rw [if_pos e]) (fun q n => ?_) ⟨o2.len, o2.no, by omega, fun m hm => .inr hm⟩⟩
        rw [o1.no (by rw [e]; exact once_more), List.nil_append]
      · have e : z1 ≠ "once" := fun q => d (decide_eq_true (by rw [q]))
        have e2 : z2 = "once" := by
          rcases Bool.or_eq_true _ _ |>.mp c with q | q
          · exact absurd (of_decide_eq_true q).symm e
          · exact (of_decide_eq_true q).symm
        refine ⟨_, rfl, kq (.ref a1) z1 M1 G1 s1 (h1.same s1) (by unfold arW; rw [if_neg e, if_pos e2]) (fun q n => ?_) ⟨o1.len, o1.no, by omega, fun m hm => .inl hm⟩⟩
        rw [o2.no (by rw [e2]; exact once_more), List.append_nil]
    · have c1 : z1 ≠ "once" := fun q => c ((Bool.or_eq_true _ _).mpr (.inl (decide_eq_true q.symm)))
      have c2 : z2 ≠ "once" := fun q => c ((Bool.or_eq_true _ _).mpr (.inr (decide_eq_true q.symm)))
      refine ⟨_, rfl, l, _, rfl, .inl (SqL.of f1), rfl, rfl, _, rfl, ?_⟩
      rw [inV2]
      refine ite2 (fun d => ?_) (fun d => ?_)
      · refine ifT rfl ?_
        refine free ?_
        unfold arW
        rw [if_neg c1, if_neg c2]
        rcases Bool.or_eq_true _ _ |>.mp d with q | q
        · have q := (of_decide_eq_true q).symm
          rw [q, if_neg fun h => free_more h.1, if_neg fun h => loan_free h.1.symm]
        · have q := (of_decide_eq_true q).symm
          rw [q, if_neg fun h => free_more h.2, if_neg fun h => loan_free h.2.symm]
      · have d1 : z1 ≠ "free" := fun q => d ((Bool.or_eq_true _ _).mpr (.inl (decide_eq_true q.symm)))
        have d2 : z2 ≠ "free" := fun q => d ((Bool.or_eq_true _ _).mpr (.inr (decide_eq_true q.symm)))
        have w1 : z1 = "loan" ∨ z1 = "more" := by
          rcases o1.wd with q | q | q | q
          · exact absurd q c1
          · exact .inl q
          · exact absurd q d1
          · exact .inr q
        have w2 : z2 = "loan" ∨ z2 = "more" := by
          rcases o2.wd with q | q | q | q
          · exact absurd q c2
          · exact .inl q
          · exact absurd q d2
          · exact .inr q
        refine ⟨_, rfl, l, _, rfl, .inl (SqL.of f1), rfl, rfl, _, rfl, ?_⟩
        rw [inV2]
        rcases w1 with rfl | rfl <;> rcases w2 with rfl | rfl
        · -- loan, loan
          refine ifT (by decide +kernel) ?_
          refine ⟨_, rfl, l, _, rfl, .inl (SqL.of f1), rfl, rfl, _, rfl, ?_⟩
          rw [inV2]
          refine ifF (by decide +kernel) ?_
          refine ⟨_, rfl, (by show 2 ≤ sizeLine; decide), fun l2 hl2 => ?_⟩
          have s2 := same_new (o := .lst [.str "loan", .str "loan"]) (same_refl G1) hl2
          refine ⟨_, _, .lst (SqL.of (s2 _ _ f1)) (.cons (.str _) (.cons (.str _) .nil)), .lst (SqL.of upd_same) (.cons (.str _) (.cons (.str _) .nil)), (by decide +kernel), (by decide +kernel), _, rfl, ?_⟩
          refine ifT (by decide +kernel) ?_
          have s12 := same_trans s1 s2
          refine ⟨_, rfl, kq (.ref a1) "loan" M1 _ s12 (h1.same s12) (by decide +kernel) (fun q => absurd q loan_more) ⟨o1.len, o1.no, by omega, fun m hm => .inl hm⟩⟩
        · refine ifT (by decide +kernel) ?_
          refine ⟨_, rfl, l, _, rfl, .inl (SqL.of f1), rfl, rfl, _, rfl, ?_⟩
          rw [inV2]
          refine ifT (by decide +kernel) ?_
          exact free (by decide +kernel)
        · refine ifT (by decide +kernel) ?_
          refine ⟨_, rfl, l, _, rfl, .inl (SqL.of f1), rfl, rfl, _, rfl, ?_⟩
          rw [inV2]
          refine ifT (by decide +kernel) ?_
          exact free (by decide +kernel)
        · -- more, more
          refine ifF (by decide +kernel) ?_
          refine ifF rfl ?_
          refine ⟨_, rfl, (by show 2 ≤ sizeLine; decide), fun l2 hl2 => ?_⟩
          have s2 := same_new (o := .lst [.str "loan", .str "loan"]) (same_refl G1) hl2
          refine ⟨_, _, .lst (SqL.of (s2 _ _ f1)) (.cons (.str _) (.cons (.str _) .nil)), .lst (SqL.of upd_same) (.cons (.str _) (.cons (.str _) .nil)), (by decide +kernel), (by decide +kernel), _, rfl, ?_⟩
          refine ifF (by decide +kernel) ?_
          have s12 := same_trans s1 s2
          have n1 := o1.len rfl
          have n2 := o2.len rfl
          have l1 := o1.l4
          have l2' := o2.l4
          generalize upd G1 l2 (.lst [.str "loan", .str "loan"]) = G2 at *
          refine ⟨_, rfl, a1, _, _, _, rfl, rfl, SqT.of (s12 _ _ ha1), rfl, _, rfl, a2, _, _, _, rfl, rfl, SqT.of (s12 _ _ ha2), rfl, ?_⟩
          refine ⟨m1, m2, M1.map nI, M2.map nI, rfl, rfl, SqT.of (s12 _ _ hm1), SqT.of (s12 _ _ hm2), (by rw [List.length_map, List.length_map]; exact Nat.le_of_lt (room2 (by omega))), fun e => ?_, fun _ e => ?_, fun _ _ q hq => ?_⟩
          · rw [List.map_eq_nil_iff.mp e] at n1
            exact absurd n1 (Nat.lt_irrefl 0)
          · rw [List.map_eq_nil_iff.mp e] at n2
            exact absurd n2 (Nat.lt_irrefl 0)
          · refine ⟨(by show 3 ≤ sizeLine; decide), fun p hp => ?_⟩
            have s3 := same_new (o := .tup (M1.map nI ++ M2.map nI)) s12 hq
            have fq : upd G2 q (.tup (M1.map nI ++ M2.map nI)) q = some (.tup ((M1 ++ M2).map nI)) := by rw [upd_same, List.map_append]
            refine kq (.ref p) "more" (M1 ++ M2) _ (same_new s3 hp) ⟨p, q, rfl, upd_same, by rw [upd_ne (ne_of_none fq hp)]; exact fq⟩ (by decide +kernel) (fun _ n => Iff.rfl) ⟨fun _ => by rw [List.length_append]; omega, fun e => absurd rfl e, by rw [List.length_append]; exact Nat.le_refl _, fun m hm => List.mem_append.mp hm⟩
/-- two flat tuples of the same numbers -/
theorem trq_nats {H : Hp} {a b : Addr} {l : List Nat} (ha : H a = some (.tup (l.map nI))) (hb : H b = some (.tup (l.map nI))) (hl : l.length ≤ 1000) : TrQ H 2 (.ref a) (.ref b) := by
  refine .inr ⟨a, b, _, _, rfl, rfl, .inr ⟨ha, hb⟩, rfl, by rw [List.length_map]; exact hl, fun i x' x e e' => .inl ?_⟩
  rw [e] at e'
  cases e'
  rw [List.getElem?_map] at e
  cases q : l[i]? with
  | none => (rw [q] at e; cases e)
  | some m => rw [q] at e; cases e; exact ⟨rfl, rfl⟩
theorem rg58 : RgC 0 400 7 58 := ⟨by decide, by decide, by decide +kernel, by decide +kernel⟩
theorem scIsAs : FnScope ["_law_lot_here", "_law_spec", "_law_flags", "_law_due", "_law_number"] ["_law_lot_here", "_law_spec"] (defScope sIsAs) := ⟨rfl, rfl, rfl, by decide +kernel, rfl, by decide +kernel, by decide +kernel⟩
theorem ok_isAs {f fL fT fQ fF fH : Addr} {fd fdL fdT fdQ fdF fdH : FuncData} (F : Fn K mg "_law_is_as" sIsAs ["_law_lot_here", "_law_spec"] f fd) (NL : Fn K mg "_law_least_makers" sLeast ["_law_flags"] fL fdL)
    (NT : Fn K mg "_law_told_numbers" sTold ["_law_spec", "_law_most"] fT fdT) (GT : FnOk P w K mg base CX0 2 fT fdT ["_law_spec", "_law_most"] (spTold K)) (NQ : Fn K mg "_law_is" sIs ["_law_told", "_law_due"] fQ fdQ) (NF : Fn K mg "_law_flag" sFlag ["_law_told", "_law_due"] fF fdF)
    (NH : Fn K mg "holds" sHolds ["lot", "number"] fH fdH) (GH : FnOk P w K mg base CX0 3 fH fdH ["lot", "number"] (spHolds CL CS)) (L : LotT K mg CL aW fE) (LK : LotK K CL) (T : TxB mg) (T2 : TxD mg) : FnOk P w K mg base CX0 4 f fd ["_law_lot_here", "_law_spec"] (spIsAs K CL CS) := by
  have GL : FnOk P w K mg base CX0 1 fL fdL ["_law_flags"] (spLeast K) := ok_least NL T T2
  have GQ : FnOk P w K mg base CX0 3 fQ fdQ ["_law_told", "_law_due"] (spQ K 2) := ok_is NQ T T2 2
  have GF : FnOk P w K mg base CX0 1 fF fdF ["_law_told", "_law_due"] spFlag := ok_flag NF T T2
  refine F.F.ok scIsAs (fun vs H Q E h => ?_) (fun cdv A outer s H vs Q E hr h => ?_)
  · obtain ⟨_, _, _, _, _, _, _, _, rfl, _⟩ := h
    rfl
  · obtain ⟨x, v, z, k, M, B, G, F', rfl, hx, hB, hs, ho, hM, kq⟩ := h
    have nd := scIsAs.nd
    have hr1 := hr.mono (show 1 ≤ 3 by decide)
    have hr2 := hr.mono (show 2 ≤ 3 by decide)
    refine ⟨_, pss_cons (ps_set (i := 2) nd rfl (Or.inr rfl) (pe_call GT hr2 (by rfl) NT.m NT.F.kp NT.b .nil pass0 (pa_cons (pv 1) (pa_cons pe_int pa_nil))))
      (Evl.pss_cut (ps_set (i := 3) nd rfl (Or.inl rfl) (pe_ifExp (pt_cmpR op_eq (pe_ix ix_tup (pv 1) pe_int (fun _ _ => rfl)) pe_str (nomark _)) (pe_call GL hr1 (by rfl) NL.m NL.F.kp NL.b .nil pass0 (pa_cons (pe_op op_cat (pe_lst (pa_cons pe_bl pa_nil)) (pe_slice sl_list (pv 2) (po_some pe_int) po_none)) pa_nil)) (pe_tup pa_nil)))
      (pss_cons (ps_if (PW.pt (pw_or (pt_not (pt_val (pe_callB call_isi (by rfl) T.isinstance (by decide +kernel) (pa_cons (pv 0) (pa_cons (pe_glob (v := .ref CL) (by rfl) L.mgL rfl) pa_nil)))))
          (pw_or (pt_cmpR op_ne (pe_fld (pv 0) rfl) (pe_ix ix_tup (pv 1) pe_int (fun _ _ => rfl)) (nomark _)) (pw_or1 (pt_not (pt_val (pe_call GQ hr (by rfl) NQ.m NQ.F.kp NQ.b .nil pass0 (pa_cons (pe_fld (pv 0) rfl) (pa_cons (pv 3) pa_nil)))))))))
        (pss_one (ps_ret pe_bl)) pss_nil)
      (pss_one (ps_ret (pe_callB (cr_all rfl) (by rfl) T.all (by decide +kernel) (pa_cons (pe_lc (own := [("_law_number", 4)]) (g := gName 4) (tt := tYes) rfl nd (pi_range3 (by rfl) T.range (pa_cons pe_int (pa_cons pe_int (pa_cons pe_int pa_nil))))
        (blkOk_by (N := ["_law_lot_here", "_law_spec", "_law_flags", "_law_due", "_law_number"]) (sc := defScope sIsAs) (by decide +kernel)) (fun _ _ _ _ _ => pg_name (i := 4) nd rfl (Or.inl rfl)) (fun _ _ _ _ _ => pts_nil)
        (fun _ _ _ _ _ => pe_call GF hr1 (by rfl) NF.m NF.F.kp NF.b .nil pass0 (pa_cons (pe_call GH hr (by rfl) NH.m NH.F.kp NH.b .nil pass0 (pa_cons (pv 0) (pa_cons (pv 4) pa_nil))) (pa_cons (pe_ix (ix_list : IxR _ (rIxL K)) (pv 2) (pv 4) (fun _ _ => rfl)) pa_nil)))) pa_nil)))))), ?_⟩
    obtain ⟨⟨tx, ax⟩, ox⟩ := id hx
    obtain ⟨dx, sx, obx, mkx⟩ := ax.fields
    obtain ⟨a, m, rfl, ha, hm⟩ := id hs
    refine ⟨_, rfl, .ref a, z, M, 400, rfl, hs, ho, by decide, by decide, fun p H1 s1 np hp => ?_⟩
    have fc : ∀ n, flagOf z k n = flagOf z M n := fun n => fl_congr hM n
    refine ⟨fun σ' H' => ∃ q : Addr, σ' = [some (.ref x), some (.ref a), some (.ref p), some (.ref q), none] ∧ Same H1 H' ∧ H' q = some (.tup (k.map nI)), ?_, ?_⟩
    · refine ⟨_, rfl, a, _, _, _, rfl, rfl, SqT.of (s1 _ _ ha), rfl, rfl, _, rfl, ?_⟩
      refine ite2 (fun c => ?_) (fun c => ?_)
      · have e : z = "more" := V.str.inj (of_decide_eq_true c)
        refine ⟨(by show 1 ≤ sizeLine; decide), fun l0 hl0 => ?_⟩
        have t1 := same_new (o := .lst [.bl false]) (same_refl H1) hl0
        have f1 : upd H1 l0 (.lst [.bl false]) l0 = some (.lst [.bl false]) := upd_same
        generalize upd H1 l0 (.lst [.bl false]) = G1 at *
        refine ⟨_, rfl, _, rfl, p, _, rfl, SqL.of (t1 _ _ hp), fun l1 hl1 => ?_⟩
        rw [drop_two (by rw [List.length_map, flL_len]; decide), ← List.map_drop, flL_drop]
        have t2 := same_new (o := .lst (((List.range 399).map fun i => flagOf z M (i + 2)).map V.bl)) t1 hl1
        have f2 : upd G1 l1 (.lst (((List.range 399).map fun i => flagOf z M (i + 2)).map V.bl)) l1 = some (.lst (((List.range 399).map fun i => flagOf z M (i + 2)).map V.bl)) := upd_same
        have f1' := same_new (o := .lst (((List.range 399).map fun i => flagOf z M (i + 2)).map V.bl)) (same_refl G1) hl1 _ _ f1
        generalize upd G1 l1 (.lst (((List.range 399).map fun i => flagOf z M (i + 2)).map V.bl)) = G2 at *
        refine ⟨l0, l1, _, _, rfl, rfl, f1', f2, (by rw [List.length_map, List.length_map, List.length_range]; decide), fun p' hp' => ?_⟩
        have el : [V.bl false] ++ ((List.range 399).map fun i => flagOf z M (i + 2)).map V.bl = (lmL z M).map V.bl := rfl
        rw [el]
        have t3 := same_new (o := .lst ((lmL z M).map V.bl)) t2 hp'
        have f3 : upd G2 p' (.lst ((lmL z M).map V.bl)) p' = some (.lst ((lmL z M).map V.bl)) := upd_same
        generalize upd G2 p' (.lst ((lmL z M).map V.bl)) = G3 at *
        have pM : ∀ m ∈ M, 0 < m := fun m hm => (ho.p m hm).1
        refine ⟨p', lmL z M, M, 399, rfl, f3, lmL_len, by decide, pM, fun i i1 i2 => ?_, fun found sums q H' g s4 nq hq => ?_⟩
        · rw [lmL_get i1 i2, e, fl_more]
        · rw [lm_found e ox hB (hM e) pM g] at hq
          exact ⟨q, rfl, same_trans t3 s4, hq⟩
      · have e : z ≠ "more" := fun q => c (decide_eq_true (by rw [q]))
        refine ⟨(by show 0 ≤ sizeLine; decide), fun t ht => ?_⟩
        exact ⟨t, rfl, same_new (same_refl H1) ht, by rw [upd_same, ox.no e]; rfl⟩
    · rintro _ H2 ⟨q, rfl, s2, hq⟩
      have s12 := same_trans s1 s2
      have ob2 := s12 _ _ obx
      have mk2 := s12 _ _ mkx
      have hp2 := s2 _ _ hp
      have kl : k.length ≤ 1000 := by
        by_cases c : z = "more"
        · have := (ox.mo c).len; omega
        · rw [ox.no c]; exact Nat.zero_le _
      refine ⟨_, rfl, _, _, _, _, _, rfl, .own _, .base (.ins ob2 L.cl L.ha L.cg L.cTk L.ow.ob), LK.me, _, rfl, ?_⟩
      refine ifF rfl ?_
      refine ⟨_, rfl, x, CL, dx, _, _, rfl, ob2, L.cl, L.nW, lf_word, _, rfl, a, _, _, _, rfl, rfl, SqT.of (s12 _ _ ha), rfl, rfl, _, rfl, ?_⟩
      refine ifF (by rw [decide_eq_true (rfl : V.str z = V.str z)]; rfl) ?_
      refine ⟨_, rfl, x, CL, dx, _, _, rfl, ob2, L.cl, L.nM, lf_makers, _, rfl, .ref tx, .ref q, rfl, trq_nats mk2 hq kl, fun H3 s3 => ⟨_, rfl, ?_⟩⟩
      refine ifF rfl ?_
      have hp3 := s3 _ _ hp2
      refine ⟨0, 400, 7, 58, rfl, rg58, fun D hD => ?_⟩
      refine lc_it walk_rangeC (fun i H' => Same H3 H' ∧ H' D = some (.lst (List.replicate i (V.bl true)))) ⟨same_new (same_refl H3) hD, upd_same⟩ (fun _ _ _ _ => trivial) ?_ ?_
      · rintro i _ H' _ hi ⟨h3, h4⟩ ⟨rfl, rfl⟩
        refine ⟨rfl, ?_⟩
        refine yes_kept ?_
        have s13 := same_trans s12 (same_trans s3 h3)
        have em : (0 : Int) + ((i : Nat) : Int) * 7 = ((7 * i : Nat) : Int) := by omega
        refine ⟨_, rfl, _, rfl, x, 7 * i, z, k, tx, k, (by show [_, V.int ((0 : Int) + ((i : Nat) : Int) * 7)] = _; rw [em]), by omega, ax.same s13, ox.words, ?_⟩
        have hat : atI ((flL z M 401).map V.bl) ((7 * i : Nat) : Int) = some (.bl (flagOf z k (7 * i))) := atI_nat (by rw [List.getElem?_map, flL_get (by omega), fc]; rfl)
        refine ⟨_, rfl, _, rfl, p, _, ((7 * i : Nat) : Int), _, rfl, (by show V.int ((0 : Int) + ((i : Nat) : Int) * 7) = _; rw [em]), SqL.of (h3 _ _ hp3), hat, flagOf z k (7 * i), rfl, ?_⟩
        refine ⟨_, h4, (by rw [List.length_replicate]; exact room2 (by omega)), fun b o e => by rw [upd_ne (ne_of_none e hD)]; exact h3 b o e, ?_⟩
        rw [upd_same, List.replicate_succ']
      · rintro H' ⟨h3, h4⟩
        refine ⟨D, List.replicate 58 true, rfl, ?_, ?_⟩
        · rw [List.map_replicate]; exact SqL.of h4
        · rw [show (List.replicate 58 true).all id = true by decide]
          exact kq H' (same_trans s12 (same_trans s3 h3))
end
end K02

set_option Elab.async false
set_option linter.all false
set_option maxRecDepth 100000
set_option maxHeartbeats 4100000
namespace L2
open PySem PySem.Spec PyProof.Rows
/-- list(r), r a range with a step -/
def rListRg : List V → Hp → VK → Prop := fun vs H Q => ∃ (a : Addr) (i j c : Int) (n : Nat), vs = [.ref a] ∧ H a = some (rgO a i j c) ∧ RgC i j c n ∧ n ≤ 2 ^ 24 ∧ ∀ q, H q = none → Q (.ref q) (upd H q (.lst ((List.range n).map fun k : Nat => V.int (i + (k : Int) * c))))
theorem cr_listRg {X : Cx} (hc : X.calm = true) : CallR X (.type "list") rListRg := by
  rintro pins s σ H vs us Q I r ⟨a, i, j, c, n, rfl, ha, ⟨c0, c1, c2, c3⟩, hn, q⟩
  (obtain ⟨u, rfl, rx⟩ := vals1 r)
  cases rx
  obtain ⟨⟨t, u, w, here⟩, _, _⟩ := I.hok a _ ha
  refine call_list_range (n := n) (I.ok.hd hc) here c2 c3 hn fun h' tk acc c' hk e' hi => ?_
  have e : acc.toList.length = n := by rw [Array.length_toList]; exact hi.1
  have vs : Vals ((List.range n).map fun k : Nat => V.int (i + (k : Int) * c)) acc.toList := by
    rw [← e]
    refine (vals_of_get acc.toList _ fun j u hj => ?_)
    obtain ⟨t, rfl⟩ := hi.2 j u (by rw [← hj, Array.getElem?_toList])
    exact ⟨t, rfl⟩
  refine ⟨.ref s.heap.objs.size, upd H s.heap.objs.size (.lst ((List.range n).map fun k : Nat => V.int (i + (k : Int) * c))), I.laid hk (Nat.le_refl _) (show ObjOk X.prog X.w _ _ _ (.lst _) from ⟨?_, acc.toList, c', vs, ?_⟩), rfl, q _ (I.hok.fresh (Nat.le_refl _))⟩
  · rw [List.length_map, List.length_range, sizeLine_eq]; exact hn
  · (rw [Array.toArray_toList]; exact e')
end L2
namespace K02
open PySem L2
abbrev sDeeper : Stmt := top 41
theorem rg124 : RgC 40 1400 11 124 := ⟨by decide, by decide, by decide +kernel, by decide +kernel⟩
/-- the numbers that are asked -/
def askL : List V := rgV 0 40 ++ (List.range 124).map fun k : Nat => V.int (40 + (k : Int) * 11)
theorem ask_nat {i : Nat} {v : V} (h : askL[i]? = some v) : ∃ m : Nat, v = nI m ∧ m ≤ 1400 := by
  have hm := List.mem_of_getElem? h
  obtain hm | hm := List.mem_append.mp hm
  · obtain ⟨k, hk, e⟩ := List.mem_map.mp hm
    have hk := List.mem_range.mp hk
    have : k < 40 := hk
    exact ⟨k, by rw [← e, Int.zero_add]; rfl, by omega⟩
  · obtain ⟨k, hk, e⟩ := List.mem_map.mp hm
    have hk := List.mem_range.mp hk
    exact ⟨40 + k * 11, by rw [← e]; unfold nI; rw [Int.natCast_add, Int.natCast_mul]; rfl, by omega⟩
theorem ask_len : askL.length = 164 := by decide
/-- told of a lot that came of two, and of a third one -/
def spDeeper (K : PySem.W.Frag) (CL CS : Addr) : Sp := fun vs H Q _ => ∃ (x y : Addr) (v w : V) (z z' : Str) (k k' M M' : List Nat), vs = [.ref x, v, .ref y, w] ∧ LvAt CL CS H x z k 396 132 528 ∧ SpecAt K H v z M ∧ SpecOk z M ∧ (z = "more" → ∀ n, Sm k n ↔ Sm M n) ∧
  LvAt CL CS H y z' k' 12 12 132 ∧ SpecAt K H w z' M' ∧ DrOk z' M' ∧ (z' = "more" → ∀ n, Sm k' n ↔ Sm M' n) ∧ ∀ H', Same H H' → Q (.bl true) H'
theorem lcm_le {a b A B : Nat} (ha : a ≤ A) (hb : b ≤ B) (h0 : 0 < a) (h1 : 0 < b) : Nat.lcm a b ≤ A * B :=
  Nat.le_trans (Nat.le_of_dvd (Nat.mul_pos h0 h1) (Nat.lcm_dvd (Nat.dvd_mul_right a b) (Nat.dvd_mul_left b a))) (Nat.mul_le_mul ha hb)
theorem bd_both : CmB 396 132 528 12 12 132 2640 1584 3168 := ⟨by decide, by decide, by decide, by decide, by decide, by decide, by decide, by decide, by decide, fun a b h1 h2 h3 h4 => lcm_le h2 h4 h1 h3, by decide, by decide⟩
theorem bd_both' : CmB 12 12 132 396 132 528 2640 1584 3168 := ⟨by decide, by decide, by decide, by decide, by decide, by decide, by decide, by decide, by decide, fun a b h1 h2 h3 h4 => lcm_le h2 h4 h1 h3, by decide, by decide⟩
theorem bd_wide : ArB 396 132 528 12 12 132 396 132 156420 := ⟨by decide, by decide, by decide, by decide, by decide, by decide, by decide, by decide⟩
theorem bd_back : CmB 396 132 156420 396 132 528 330264 17424 486684 := ⟨by decide, by decide, by decide, by decide, by decide, by decide, by decide, by decide, by decide, fun a b h1 h2 h3 h4 => lcm_le h2 h4 h1 h3, by decide, by decide⟩
theorem bd_up : ArB 2640 1584 3168 12 12 132 2640 1584 6966960 := ⟨by decide, by decide, by decide, by decide, by decide, by decide, by decide, by decide⟩
end K02

set_option Elab.async false
set_option linter.all false
set_option maxRecDepth 100000
set_option maxHeartbeats 8000000
namespace K02
open PySem L2
theorem ne_false {z z' : Str} {k k' : List Nat} (h : z = z' ∧ k = k') : (!(decide (z = z') && decide (k = k'))) = false := by rw [eq_dec.mpr h]; rfl
theorem sumM {z0 : Str} {k0 M0 : List Nat} (h1 : z0 = "more" → ∀ n, Sm k0 n ↔ Sm M0 n) (h2 : z0 ≠ "more" → k0 = []) (h3 : z0 ≠ "more" → M0 = []) (n : Nat) : Sm k0 n ↔ Sm M0 n := by
  by_cases c : z0 = "more"
  · exact h1 c n
  · rw [h2 c, h3 c]
section
variable {P : Program} {w : World} {K : PySem.W.Frag} {mg : Str → Option Value} {base : Heap} {CL CS aW fE CB : Addr} {fdE : FuncData}
/-- flags asked of a lot: all as told -/
theorem scDeeper : FnScope ["_law_lot_here", "_law_spec", "_law_other", "_law_more", "_law_flags", "_law_both", "_law_wide", "_law_some_here", "_law_a", "_law_b", "_law_number"] ["_law_lot_here", "_law_spec", "_law_other", "_law_more"] (defScope sDeeper) := ⟨rfl, rfl, rfl, by decide +kernel, rfl, by decide +kernel, by decide +kernel⟩
theorem ok_deeper {f fT fC fA fW fF fH fI fD : Addr} {fd fdT fdC fdA fdW fdF fdH fdI fdD : FuncData} (F : Fn K mg "_law_deeper_right" sDeeper ["_law_lot_here", "_law_spec", "_law_other", "_law_more"] f fd)
    (NT : Fn K mg "_law_told_numbers" sTold ["_law_spec", "_law_most"] fT fdT) (GT : FnOk P w K mg base CX0 2 fT fdT ["_law_spec", "_law_most"] (spTold K))
    (NC : Fn K mg "common" sCommon ["lot", "other"] fC fdC) (GC : FnOk P w K mg base CX0 9 fC fdC ["lot", "other"] (spCm CL CS))
    (NA : Fn K mg "around" sAround ["lot", "other"] fA fdA) (GA : FnOk P w K mg base CX0 9 fA fdA ["lot", "other"] (spAr CL CS))
    (NW : Fn K mg "is_within" sWithinL ["lot", "thing"] fW fdW) (GW : FnOk P w K mg base CX0 10 fW fdW ["lot", "thing"] (spWt K CL CS))
    (NF : Fn K mg "_law_flag" sFlag ["_law_told", "_law_due"] fF fdF) (NH : Fn K mg "holds" sHolds ["lot", "number"] fH fdH) (GH : FnOk P w K mg base CX0 3 fH fdH ["lot", "number"] (spHolds CL CS))
    (NI : Fn K mg "_law_is_as" sIsAs ["_law_lot_here", "_law_spec"] fI fdI) (GI : FnOk P w K mg base CX0 4 fI fdI ["_law_lot_here", "_law_spec"] (spIsAs K CL CS))
    (ND : Fn K mg "_law_due_around" sDueAr ["_law_one", "_law_other"] fD fdD) (GD : FnOk P w K mg base CX0 1 fD fdD ["_law_one", "_law_other"] (spDueAr K))
    (GE : FnOk P w K mg base CX0 1 fE fdE ["self", "other"] (spLEq K CL CS)) (bE : Binds K fdE ["self", "other"] []) (L : LotT K mg CL aW fE) (T : TxB mg) (T2 : TxD mg) (Z : TxZ mg) :
    FnOk P w K mg base CX0 11 f fd ["_law_lot_here", "_law_spec", "_law_other", "_law_more"] (spDeeper K CL CS) := by
  have GF : FnOk P w K mg base CX0 1 fF fdF ["_law_told", "_law_due"] spFlag := ok_flag NF T T2
  refine F.F.ok scDeeper (fun vs H Q E h => ?_) (fun cdv A outer s H vs Q E hr h => ?_)
  · obtain ⟨_, _, _, _, _, _, _, _, _, _, rfl, _⟩ := h
    rfl
  · obtain ⟨x, y, v, u, z, z', k, k', M, M', rfl, hx, hv, ov, ev, hy, hu', ou, eu, kq⟩ := h
    have nd := scDeeper.nd
    have hu := hu_of hr
    have hr1 := hr.mono (show 1 ≤ 10 by decide)
    have hr2 := hr.mono (show 2 ≤ 10 by decide)
    have hr3 := hr.mono (show 3 ≤ 10 by decide)
    have hr4 := hr.mono (show 4 ≤ 10 by decide)
    have hr9 := hr.mono (show 9 ≤ 10 by decide)
    refine ⟨_, pss_cons (ps_if (pt_cmpR op_gt (pe_callB call_len (by rfl) T.len PySem.boot_len (pa_cons (pe_ix ix_tup (pv 1) pe_int (fun _ _ => rfl)) pa_nil)) pe_int (nomark _)) (pss_one (ps_ret pe_bl)) pss_nil)
      (pss_cons (ps_set (i := 4) nd rfl (Or.inr rfl) (pe_lc (own := [("_law_a", 8), ("_law_b", 9)]) (g := gTup K 2 (gCons (gName 8) (gCons (gName 9) gNil))) (tt := tYes) rfl nd
        (pi_zip (by rfl) Z.zip (pa_cons (pe_call GT hr2 (by rfl) NT.m NT.F.kp NT.b .nil pass0 (pa_cons (pv 1) (pa_cons pe_int pa_nil))) (pa_cons (pe_call GT hr2 (by rfl) NT.m NT.F.kp NT.b .nil pass0 (pa_cons (pv 3) (pa_cons pe_int pa_nil))) pa_nil)))
        (blkOk_by (N := ["_law_lot_here", "_law_spec", "_law_other", "_law_more", "_law_flags", "_law_both", "_law_wide", "_law_some_here", "_law_a", "_law_b", "_law_number"]) (sc := defScope sDeeper) (by decide +kernel))
        (fun _ _ _ _ _ => pg_tup rfl (pgs_cons (pg_name (i := 8) nd rfl (Or.inl rfl)) (pgs_cons (pg_name (i := 9) nd rfl (Or.inl rfl)) pgs_nil))) (fun _ _ _ _ _ => pts_nil)
        (fun _ _ _ _ _ => pe_and (pv 8) (pe_one (pv 9)))))
      (pss_cons (ps_asg (pe_tup (pa_cons (pe_call GC hr9 (by rfl) NC.m NC.F.kp NC.b .nil pass0 (pa_cons (pv 0) (pa_cons (pv 2) pa_nil))) (pa_cons (pe_call GA hr9 (by rfl) NA.m NA.F.kp NA.b .nil pass0 (pa_cons (pv 0) (pa_cons (pv 2) pa_nil))) pa_nil)))
        (pg_tup rfl (pgs_cons (pg_name (i := 5) nd rfl (Or.inr rfl)) (pgs_cons (pg_name (i := 6) nd rfl (Or.inl rfl)) pgs_nil))))
      (pss_cons (ps_set (i := 7) nd rfl (Or.inl rfl) (pe_op op_cat (pe_listRg rfl (by rfl) T2.list (prg_1 (by rfl) T.range pe_int)) (pe_callTy (cr_listRg rfl) (by rfl) T2.list (by decide +kernel) (pa_cons (pe_callTy cr_range3 (by rfl) T.range (by decide +kernel) (pa_cons pe_int (pa_cons pe_int (pa_cons pe_int pa_nil)))) pa_nil))))
      (pss_cons (ps_if (pt_not (pt_val (pe_callB (cr_all rfl) (by rfl) T.all (by decide +kernel) (pa_cons (pe_lc (own := [("_law_number", 10)]) (g := gName 10) (tt := tYes) rfl nd (pi_list (pv 7))
        (blkOk_by (N := ["_law_lot_here", "_law_spec", "_law_other", "_law_more", "_law_flags", "_law_both", "_law_wide", "_law_some_here", "_law_a", "_law_b", "_law_number"]) (sc := defScope sDeeper) (by decide +kernel)) (fun _ _ _ _ _ => pg_name (i := 10) nd rfl (Or.inl rfl)) (fun _ _ _ _ _ => pts_nil)
        (fun _ _ _ _ _ => pe_call GF hr1 (by rfl) NF.m NF.F.kp NF.b .nil pass0 (pa_cons (pe_call GH hr3 (by rfl) NH.m NH.F.kp NH.b .nil pass0 (pa_cons (pv 5) (pa_cons (pv 10) pa_nil))) (pa_cons (pe_ix (ix_list : IxR _ (rIxL K)) (pv 4) (pv 10) (fun _ _ => rfl)) pa_nil)))) pa_nil)))) (pss_one (ps_ret pe_bl)) pss_nil)
      (pss_cons (ps_if (PW.pt (pw_or (pt_not (pt_val (pe_call GI hr4 (by rfl) NI.m NI.F.kp NI.b .nil pass0 (pa_cons (pv 6) (pa_cons (pe_call GD hr1 (by rfl) ND.m ND.F.kp ND.b .nil pass0 (pa_cons (pv 1) (pa_cons (pv 3) pa_nil))) pa_nil)))))
          (pw_or (pt_cmpR (op_neO GE hr2 hu bE pass0 L.ow) (pe_call GC hr9 (by rfl) NC.m NC.F.kp NC.b .nil pass0 (pa_cons (pv 6) (pa_cons (pv 0) pa_nil))) (pv 0) (nomark _))
          (pw_or1 (pt_cmpR (op_neO GE hr2 hu bE pass0 L.ow) (pe_call GA hr9 (by rfl) NA.m NA.F.kp NA.b .nil pass0 (pa_cons (pv 5) (pa_cons (pv 2) pa_nil))) (pv 2) (nomark _))))))
        (pss_one (ps_ret pe_bl)) pss_nil)
      (pss_one (ps_ret (pe_and (pe_cmpR (op_eqO GE hr1 bE pass0 L.ow) (pe_call GC hr9 (by rfl) NC.m NC.F.kp NC.b .nil pass0 (pa_cons (pv 2) (pa_cons (pv 0) pa_nil))) (pv 5) (nomark _))
        (pe_and (pe_cmpR op_is_bl (pe_call GW hr (by rfl) NW.m NW.F.kp NW.b .nil pass0 (pa_cons (pv 5) (pa_cons (pv 0) pa_nil))) pe_bl (nomark _))
        (pe_one (pe_cmpR op_is_bl (pe_call GW hr (by rfl) NW.m NW.F.kp NW.b .nil pass0 (pa_cons (pv 0) (pa_cons (pv 6) pa_nil))) pe_bl (nomark _)))))))))))), ?_⟩
    obtain ⟨a, m, rfl, ha, hm⟩ := id hv
    refine ⟨_, rfl, a, _, _, _, rfl, rfl, SqT.of ha, rfl, _, _, rfl, .inr ⟨_, SqT.of hm, rfl⟩, _, _, rfl, rfl, _, rfl, ?_⟩
    refine ite2 (fun _ => ?_) (fun short => ?_)
    · exact kq H (same_refl H)
    have short : M.length ≤ 12 := by
      rw [List.length_map] at short
      have : ¬ ((M.length : Nat) : Int) > 12 := fun z => short (decide_eq_true z)
      omega
    -- the flags of both
    refine ⟨_, rfl, .ref a, z, M, 1400, rfl, hv, ov, by decide, by decide, fun p1 H1 s1 np1 hp1 => ?_⟩
    refine ⟨_, rfl, u, z', M', 1400, rfl, hu'.same s1, ou.ok, by decide, by decide, fun p2 H2 s2 np2 hp2 => ?_⟩
    refine ⟨p1, p2, _, _, rfl, SqL.of (s2 _ _ hp1), SqL.of hp2, fun D hD => ?_⟩
    have q1 := s2 _ _ hp1
    have fx : ∀ n, flagOf z k n = flagOf z M n := fl_congr ev
    have fy : ∀ n, flagOf z' k' n = flagOf z' M' n := fl_congr eu
    refine lc_it (walk_zip (n := 1401) (by rw [List.length_map, List.length_map, flL_len, flL_len]; rfl)) (fun i H' => Same H2 H' ∧ H' D = some (.lst (((List.range i).map fun n => flagOf z k n && flagOf z' k' n).map V.bl))) ⟨same_new (same_refl H2) hD, upd_same⟩ (fun i H' _ p => ⟨SqL.of (p.1 _ _ q1), SqL.of (p.1 _ _ hp2)⟩) ?_ ?_
    · rintro i _ H' _ hi ⟨h3, h4⟩ ⟨T', c1, c2, rfl, nT, rfl, ex, ey⟩
      replace ex : ((flL z M 1401).map V.bl)[i]? = some c1 := ex
      replace ey : ((flL z' M' 1401).map V.bl)[i]? = some c2 := ey
      rw [List.getElem?_map, flL_get hi, ← fx] at ex
      rw [List.getElem?_map, flL_get hi, ← fy] at ey
      cases ex
      cases ey
      have TD : D ≠ T' := ne_of_none h4 nT
      have s3 := same_new (o := .tup [.bl (flagOf z k i), .bl (flagOf z' k' i)]) h3 nT
      have h5 : upd H' T' (.tup [.bl (flagOf z k i), .bl (flagOf z' k' i)]) D = some (.lst (((List.range i).map fun n => flagOf z k n && flagOf z' k' n).map V.bl)) := by rw [upd_ne TD]; exact h4
      have put : ∀ b : Bool, b = (flagOf z k i && flagOf z' k' i) → ∃ acc, upd H' T' (.tup [.bl (flagOf z k i), .bl (flagOf z' k' i)]) D = some (.lst acc) ∧ acc.length < sizeLine ∧ Same H2 (upd (upd H' T' (.tup [.bl (flagOf z k i), .bl (flagOf z' k' i)])) D (.lst (acc ++ [V.bl b]))) ∧ upd (upd H' T' (.tup [.bl (flagOf z k i), .bl (flagOf z' k' i)])) D (.lst (acc ++ [V.bl b])) D = some (.lst (((List.range (i + 1)).map fun n => flagOf z k n && flagOf z' k' n).map V.bl)) := fun b e => by
        refine ⟨_, h5, (by rw [List.length_map, List.length_map, List.length_range]; exact room2 (by omega)), fun c u e => by rw [upd_ne (ne_of_none e hD)]; exact s3 c u e, ?_⟩
        rw [upd_same, List.range_succ, List.map_append, List.map_append, e]; rfl
      refine ⟨T', _, rfl, SqT.of upd_same, rfl, _, _, rfl, _, _, rfl, rfl, ?_⟩
      refine ⟨rfl, ?_⟩
      refine yes_kept ?_
      refine ⟨_, rfl, _, rfl, ?_⟩
      refine ite2 (fun d => ?_) (fun d => ?_)
      · exact ⟨_, rfl, put _ (by rw [d, Bool.true_and])⟩
      · exact put _ (by rw [Bool.eq_false_iff.mpr d, Bool.false_and])
    rintro H3 ⟨s23, hD3⟩
    have s03 := same_trans s1 (same_trans s2 s23)
    clear s1 s2 s23 np1 hp1 np2 hp2 q1 hD
    -- both, and around
    refine ⟨_, rfl, _, rfl, x, y, z, z', k, k', _, _, _, _, _, _, _, _, _, rfl, hx.same s03, hy.same s03, bd_both, fun rb zb kb H4 s34 hb cm => ?_⟩
    refine ⟨_, rfl, _, rfl, x, y, z, z', k, k', _, _, _, _, _, _, _, _, _, rfl, (hx.same s03).same s34, (hy.same s03).same s34, bd_wide, fun rw_ zw kw H5 s45 hw ar => ?_⟩
    refine ⟨(by show 2 ≤ sizeLine; decide), fun t ht => ?_⟩
    have s5 := same_new (o := .tup [.ref rb, .ref rw_]) (same_refl H5) ht
    refine ⟨t, _, rfl, SqT.of upd_same, rfl, _, _, rfl, _, _, rfl, rfl, ?_⟩
    have s35 := same_trans s34 (same_trans s45 s5)
    have s05 := same_trans s03 s35
    replace hb := (hb.same s45).same s5
    replace hw := hw.same s5
    have hD5 := s35 _ _ hD3
    generalize upd H5 t (.tup [.ref rb, .ref rw_]) = H6 at *
    clear s34 s45 s5 ht s35 hD3
    -- the numbers
    refine ⟨40, rfl, .of_le (by decide) (by decide) (by decide) (by decide), fun l1 hl1 => ?_⟩
    have t1 := same_new (o := .lst (rgV 0 40)) (same_refl H6) hl1
    have f1 : upd H6 l1 (.lst (rgV 0 40)) l1 = some (.lst (rgV 0 40)) := upd_same
    generalize upd H6 l1 (.lst (rgV 0 40)) = G1 at *
    refine ⟨40, 1400, 11, rfl, by decide, by decide, fun l2 hl2 => ?_⟩
    have t2 := same_new (o := rgO l2 40 1400 11) (same_refl G1) hl2
    have f2 : upd G1 l2 (rgO l2 40 1400 11) l2 = some (rgO l2 40 1400 11) := upd_same
    generalize upd G1 l2 (rgO l2 40 1400 11) = G2 at *
    refine ⟨l2, 40, 1400, 11, 124, rfl, f2, rg124, by decide, fun l3 hl3 => ?_⟩
    have t3 := same_new (o := .lst ((List.range 124).map fun k : Nat => V.int (40 + (k : Int) * 11))) (same_refl G2) hl3
    have f3 : upd G2 l3 (.lst ((List.range 124).map fun k : Nat => V.int (40 + (k : Int) * 11))) l3 = some (.lst ((List.range 124).map fun k : Nat => V.int (40 + (k : Int) * 11))) := upd_same
    generalize upd G2 l3 (.lst ((List.range 124).map fun k : Nat => V.int (40 + (k : Int) * 11))) = G3 at *
    refine ⟨l1, l3, _, _, rfl, rfl, t3 _ _ (t2 _ _ f1), f3, (by rw [rgV_length, List.length_map, List.length_range]; decide), fun l4 hl4 => ?_⟩
    have eA : rgV 0 40 ++ (List.range 124).map (fun k : Nat => V.int (40 + (k : Int) * 11)) = askL := rfl
    rw [eA]
    have t4 := same_new (o := .lst askL) (same_refl G3) hl4
    have f4 : upd G3 l4 (.lst askL) l4 = some (.lst askL) := upd_same
    have s6 := same_trans t1 (same_trans t2 (same_trans t3 t4))
    generalize upd G3 l4 (.lst askL) = G4 at *
    clear t1 t2 t3 t4 f1 f2 f3 hl1 hl2 hl3 hl4 eA
    have s0 := same_trans s05 s6
    replace hb := hb.same s6
    replace hw := hw.same s6
    have hDG := s6 _ _ hD5
    clear s05 s6 hD5
    have hx' := hx.same s0
    have hy' := hy.same s0
    obtain ⟨⟨tb, ab⟩, ob⟩ := id hb
    refine ⟨_, rfl, l4, rfl, ⟨_, SqL.of f4⟩, fun D2 hD2 => ?_⟩
    refine lc_list (K := K) (a := l4) (xs := askL) (fun i H' => Same G4 H' ∧ H' D2 = some (.lst (List.replicate i (V.bl true)))) ⟨same_new (same_refl G4) hD2, upd_same⟩ (fun i H' _ p => SqL.of (p.1 _ _ f4)) ?_ ?_
    · rintro i v' H' hv' ⟨h3, h4⟩
      have hi : i < 164 := by
        have := (List.getElem?_eq_some_iff.mp hv').1
        rwa [ask_len] at this
      obtain ⟨n, rfl, hn⟩ := ask_nat hv'
      refine ⟨rfl, ?_⟩
      refine yes_kept ?_
      refine ⟨_, rfl, _, rfl, rb, n, zb, kb, tb, kb, rfl, by omega, ab.same h3, ob.words, ?_⟩
      have hat : atI (((List.range 1401).map fun n => flagOf z k n && flagOf z' k' n).map V.bl) (n : Int) = some (.bl (flagOf zb kb n)) := atI_nat (by rw [List.getElem?_map, List.getElem?_map, List.getElem?_range (by omega), cm n]; rfl)
      refine ⟨_, rfl, _, rfl, D, _, (n : Int), _, rfl, rfl, SqL.of (h3 _ _ hDG), hat, flagOf zb kb n, rfl, ?_⟩
      refine ⟨_, h4, (by rw [List.length_replicate]; exact room2 (by omega)), fun b o e => by rw [upd_ne (ne_of_none e hD2)]; exact h3 b o e, ?_⟩
      rw [upd_same, List.replicate_succ']
    rintro H7 ⟨s7, hD7⟩
    refine ⟨D2, List.replicate askL.length true, rfl, (by rw [List.map_replicate]; exact SqL.of hD7), _, rfl, ?_⟩
    refine ifF (by rw [show (List.replicate askL.length true).all id = true by rw [ask_len]; decide]; rfl) ?_
    have s07 := same_trans s0 s7
    -- lots that come of them
    have ox := hx.2
    have oy := hy.2
    have ow := hw.2
    have hb7 := hb.same s7
    have hw7 := hw.same s7
    have hx7 := hx.same s07
    have hy7 := hy.same s07
    refine ⟨_, rfl, _, rfl, _, rfl, .ref a, u, z, z', M, M', rfl, hv.same s07, hu'.same s07, ov, ou.ok, fun v2 z2 M2 H8 s8 hs2 e2 es2 as2 => ?_⟩
    have sp2 : SpecOk z2 M2 := by
      have m4 := ou.m4
      refine ⟨by rw [e2, ← ar.w]; exact ow.wd, as2.no, as2.ne, by have := as2.len; omega, fun m hm => ?_⟩
      rcases as2.mem m hm with q | q
      · exact ov.p m q
      · exact ou.ok.p m q
    have ew : z2 = zw := e2.trans ar.w.symm
    subst ew
    have e1 := sumM ev ox.no ov.no
    have e1' := sumM eu oy.no ou.ok.no
    have es : z2 = "more" → ∀ n, Sm kw n ↔ Sm M2 n := fun c n => by
      rw [ar.s c n, es2 c n]
      constructor
      · intro h
        refine h.trans fun t ht => ?_
        rcases List.mem_append.mp ht with ht | ht
        · exact ((e1 t).mp (.one ht)).mono fun r hr' => List.mem_append_left _ hr'
        · exact ((e1' t).mp (.one ht)).mono fun r hr' => List.mem_append_right _ hr'
      · intro h
        refine h.trans fun t ht => ?_
        rcases List.mem_append.mp ht with ht | ht
        · exact ((e1 t).mpr (.one ht)).mono fun r hr' => List.mem_append_left _ hr'
        · exact ((e1' t).mpr (.one ht)).mono fun r hr' => List.mem_append_right _ hr'
    refine ⟨rw_, v2, z2, kw, M2, _, _, _, rfl, hw7.same s8, by decide, hs2, sp2, es, fun H9 s9 => ⟨_, rfl, ?_⟩⟩
    refine ifF rfl ?_
    have s79 := same_trans s8 s9
    have hb9 := hb7.same s79
    have hw9 := hw7.same s79
    have hx9 := hx7.same s79
    have hy9 := hy7.same s79
    have iW := ar.left ox oy ow
    -- common(wide, lot) is the lot
    refine ⟨_, rfl, _, rfl, rw_, x, z2, z, kw, k, _, _, _, _, _, _, _, _, _, rfl, hw9, hx9, bd_back, fun rc zc kc H10 s10 hc cmc => ?_⟩
    refine ⟨_, rfl, ne_ask hc (hx9.same s10) ⟨_, rfl, ?_⟩⟩
    rw [ne_false (hc.2.uniq ox cmc.right (cmc.most iW fun n hn => hn))]
    refine ifF rfl ?_
    have hb10 := hb9.same s10
    have hy10 := hy9.same s10
    -- around(both, other) is the other one
    refine ⟨_, rfl, _, rfl, rb, y, zb, z', kb, k', _, _, _, _, _, _, _, _, _, rfl, hb10, hy10, bd_up, fun ra za ka H11 s11 ha' ara => ?_⟩
    refine ⟨_, rfl, ne_ask ha' (hy10.same s11) ⟨_, rfl, ?_⟩⟩
    have cmr : Inn zb kb z' k' := Cm.right (z1 := z) (k1 := k) cm
    rw [ne_false ((ara.eq_iff ob oy ha'.2).mpr cmr)]
    refine ifF rfl ?_
    have s911 := same_trans s10 s11
    have hb11 := hb9.same s911
    have hx11 := hx9.same s911
    have hy11 := hy9.same s911
    have hw11 := hw9.same s911
    -- common(other, lot) is what both have
    refine ⟨_, rfl, _, rfl, y, x, z', z, k', k, _, _, _, _, _, _, _, _, _, rfl, hy11, hx11, bd_both', fun rd zd kd H12 s12 hd cmd => ?_⟩
    refine ⟨_, rfl, eq_ask hd (hb11.same s12) ⟨_, rfl, ?_⟩⟩
    have cms : Cm z k z' k' zb kb := cm
    rw [eq_dec.mpr (hd.2.uniq ob (cms.most cmd.right cmd.left) (cmd.most cms.right cms.left))]
    refine iteT ?_
    have hb12 := hb11.same s12
    have hx12 := hx11.same s12
    have hw12 := hw11.same s12
    refine ⟨_, rfl, _, rfl, rb, .ref x, zb, kb, _, _, _, rfl, hb12, .inl ⟨x, z, k, _, _, _, rfl, hx12, by decide, by decide, fun H13 s13 => ?_⟩⟩
    rw [innB_iff.mpr cms.left]
    refine ⟨true, true, rfl, rfl, _, rfl, ?_⟩
    refine iteT ?_
    refine ⟨_, rfl, _, rfl, x, .ref rw_, z, k, _, _, _, rfl, hx12.same s13, .inl ⟨rw_, z2, kw, _, _, _, rfl, hw12.same s13, by decide, by decide, fun H14 s14 => ?_⟩⟩
    rw [innB_iff.mpr iW]
    refine ⟨true, true, rfl, rfl, ?_⟩
    exact kq H14 (same_trans s07 (same_trans s79 (same_trans s911 (same_trans s12 (same_trans s13 s14)))))
end
end K02

set_option Elab.async false
set_option linter.all false
set_option maxRecDepth 100000
set_option maxHeartbeats 8000000
namespace K02
open PySem L2
abbrev sLaw : Stmt := top 42
def spLaw (K : PySem.W.Frag) : Sp := fun vs H Q _ => ∃ (a : Addr) (ns : List Int), vs = [.ref a] ∧ SqL K H a (ns.map V.int) ∧ ns.length ≤ 63 ∧ ∀ H', Q (.bl true) H'
/-- classes as isinstance asks them of what is no lot -/
structure LotK2 (K : PySem.W.Frag) (CL : Addr) : Prop where
  it : PySem.W.kitOne K (.type "int") (.ref CL) = some false
  li : PySem.W.kitOne K (.type "list") (.ref CL) = some false
  di : PySem.W.kitOne K (.type "dict") (.ref CL) = some false
/-- a drawn spec -/
structure Sq where
  v : V
  z : Str
  M : List Nat
def SqOk (K : PySem.W.Frag) (H : Hp) (q : Sq) : Prop := SpecAt K H q.v q.z q.M ∧ DrOk q.z q.M
theorem SqOk.same {K : PySem.W.Frag} {H H' : Hp} {q : Sq} (h : SqOk K H q) (s : Same H H') : SqOk K H' q := ⟨h.1.same s, h.2⟩
theorem SqOk.updL {K : PySem.W.Frag} {H : Hp} {p D : Addr} {o : HO} {ys : List V} {q : Sq} (h : SqOk K (del H p) q) (hD : H D = some (.lst ys)) (hp : D ≠ p) : SqOk K (del (upd H D o) p) q := by
  obtain ⟨⟨a, m, e, h1, h2⟩, d⟩ := h
  have hD' : del H p D = some (.lst ys) := by rw [del_ne hp]; exact hD
  have k1 : a ≠ D := ne_of h1 hD' (fun z => by cases z)
  have k2 : m ≠ D := ne_of h2 hD' (fun z => by cases z)
  have g : ∀ {b u}, b ≠ D → del H p b = some u → del (upd H D o) p b = some u := fun {b u} hb e => by
    by_cases c : b = p
    · rw [c, del_same] at e; cases e
    · rw [del_ne c] at e ⊢; rw [upd_ne hb]; exact e
  exact ⟨⟨a, m, e, g k1 h1, g k2 h2⟩, d⟩
structure Rw where
  v : V
  z : Str
  M : List Nat
  x : Addr
  k : List Nat
structure RwOk (K : PySem.W.Frag) (CL CS : Addr) (H : Hp) (r : Rw) : Prop where
  sp : SpecAt K H r.v r.z r.M
  dr : DrOk r.z r.M
  lv : LvAt CL CS H r.x r.z r.k 12 12 132
  kp : r.z = "more" → Kept r.k r.M
theorem RwOk.same {K : PySem.W.Frag} {CL CS : Addr} {H H' : Hp} {r : Rw} (h : RwOk K CL CS H r) (s : Same H H') : RwOk K CL CS H' r := ⟨h.sp.same s, h.dr, h.lv.same s, h.kp⟩
theorem RwOk.ev {K : PySem.W.Frag} {CL CS : Addr} {H : Hp} {r : Rw} (h : RwOk K CL CS H r) (e : r.z = "more") (n : Nat) : Sm r.k n ↔ Sm r.M n := (h.kp e).same n
theorem RwOk.fl {K : PySem.W.Frag} {CL CS : Addr} {H : Hp} {r : Rw} (h : RwOk K CL CS H r) (n : Nat) : flagOf r.z r.k n = flagOf r.z r.M n := fl_congr h.ev n
/-- a lot beside a list that is written anew -/
theorem LvAt.off {CL CS : Addr} {H H' : Hp} {x l : Addr} {z : Str} {k : List Nat} {B G F : Nat} {ys : List V} (h : LvAt CL CS H x z k B G F) (hl : H l = some (.lst ys)) (hy : ∀ v vs, ys ≠ oV v :: vs) (o : ∀ b, b ≠ l → H' b = H b) : LvAt CL CS H' x z k B G F := by
  obtain ⟨⟨t, h⟩, hv⟩ := h
  refine ⟨⟨t, ?_⟩, hv⟩
  cases h with
  | plain dx n ob mk k0 m0 => exact .plain dx n (by rw [o _ (ne_of ob hl (fun z => by cases z))]; exact ob) (by rw [o _ (ne_of mk hl (fun z => by cases z))]; exact mk) k0 m0
  | more dx s la a L far n ob so p M0 =>
    have nla : la ≠ l := ne_of so.ls hl (fun z => by
      have pos := so.ok.pos
      have e := HO.lst.inj z
      cases a with
      | zero => exact absurd pos (Nat.lt_irrefl _)
      | succ a =>
        rw [List.range_succ_eq_map, List.map_cons] at e
        exact hy _ _ e.symm)
    obtain ⟨dy, hs⟩ := so.ob
    exact .more dx s la a L far n (by rw [o _ (ne_of ob hl (fun z => by cases z))]; exact ob) ⟨⟨dy, by rw [o _ (ne_of hs hl (fun z => by cases z))]; exact hs⟩, by rw [o _ nla]; exact so.ls, by rw [o _ (ne_of so.mkr hl (fun z => by cases z))]; exact so.mkr, so.ok, so.kp, so.ab, so.fr, so.fe⟩ p M0
theorem LvAt.updL {CL CS : Addr} {H : Hp} {x l : Addr} {z : Str} {k : List Nat} {B G F : Nat} {ys : List V} {o : HO} (h : LvAt CL CS H x z k B G F) (hl : H l = some (.lst ys)) (hy : ∀ v vs, ys ≠ oV v :: vs) : LvAt CL CS (upd H l o) x z k B G F := h.off hl hy fun b hb => upd_ne hb
theorem ar_spec {z1 z2 z z' : Str} {k1 k2 k M1 M2 M' : List Nat} (ar : Ar z1 k1 z2 k2 z k) (e1 : ∀ n, Sm k1 n ↔ Sm M1 n) (e2 : ∀ n, Sm k2 n ↔ Sm M2 n) (e : z = z') (es : z' = "more" → ∀ n, Sm M' n ↔ Sm (M1 ++ M2) n) : z = "more" → ∀ n, Sm k n ↔ Sm M' n := fun c n => by
  rw [ar.s c n, es (e ▸ c) n]
  constructor
  · intro h
    refine h.trans fun t ht => ?_
    rcases List.mem_append.mp ht with ht | ht
    · exact ((e1 t).mp (.one ht)).mono fun r hr' => List.mem_append_left _ hr'
    · exact ((e2 t).mp (.one ht)).mono fun r hr' => List.mem_append_right _ hr'
  · intro h
    refine h.trans fun t ht => ?_
    rcases List.mem_append.mp ht with ht | ht
    · exact ((e1 t).mpr (.one ht)).mono fun r hr' => List.mem_append_left _ hr'
    · exact ((e2 t).mpr (.one ht)).mono fun r hr' => List.mem_append_right _ hr'
theorem ArSpec.ok {B G F : Nat} {z : Str} {k M M1 M2 : List Nat} {z1 z2 : Str} (a : ArSpec z M M1 M2) (h : LvOk B G F z k) (o1 : DrOk z1 M1) (o2 : DrOk z2 M2) : SpecOk z M := by
  have h1 := o1.m4
  have h2 := o2.m4
  have h3 := a.len
  refine ⟨h.wd, a.no, a.ne, by omega, fun m hm => ?_⟩
  rcases a.mem m hm with q | q
  · exact o1.ok.p m q
  · exact o2.ok.p m q
theorem inn_ar {B G F B1 G1 F1 B2 G2 F2 B3 G3 F3 : Nat} {z z1 z2 z3 : Str} {k k1 k2 k3 : List Nat} (ar : Ar z1 k1 z2 k2 z k) (h1 : LvOk B1 G1 F1 z1 k1) (h2 : LvOk B2 G2 F2 z2 k2) (h3 : LvOk B3 G3 F3 z3 k3) (hv : LvOk B G F z k) : innB z k z3 k3 = (innB z1 k1 z3 k3 && innB z2 k2 z3 k3) := by
  rw [Bool.eq_iff_iff, Bool.and_eq_true, innB_iff, innB_iff, innB_iff]
  exact ⟨fun h => ⟨(ar.left h1 h2 hv).trans h, (ar.right h1 h2 hv).trans h⟩, fun h => ar.least h1 h2 h3 h.1 h.2⟩
theorem RwOk.updL {K : PySem.W.Frag} {CL CS : Addr} {H : Hp} {l : Addr} {ys : List V} {o : HO} {r : Rw} (h : RwOk K CL CS H r) (hl : H l = some (.lst ys)) (hy : ∀ v vs, ys ≠ oV v :: vs) : RwOk K CL CS (upd H l o) r := by
  obtain ⟨a, m, e, h1, h2⟩ := h.sp
  exact ⟨⟨a, m, e, by rw [upd_ne (ne_of h1 hl (fun z => by cases z))]; exact h1, by rw [upd_ne (ne_of h2 hl (fun z => by cases z))]; exact h2⟩, h.dr, h.lv.updL hl hy, h.kp⟩
/-- how things stand in the law, once all lots are made -/
structure LawSt (K : PySem.W.Frag) (CL CS : Addr) (H : Hp) (p c : Addr) (cells : List Int) (D D2 : Addr) (r0 r1 r2 : Rw) (xb : Addr) (zb : Str) (kb : List Nat) (xa : Addr) (za : Str) (ka : List Nat) : Prop where
  hand : HandAt H p c cells
  sp : H D = some (.lst ([r0, r1, r2].map fun r => r.v))
  lo : H D2 = some (.lst ([r0, r1, r2].map fun r => V.ref r.x))
  ok : ∀ r ∈ [r0, r1, r2], RwOk K CL CS H r
  b : LvAt CL CS H xb zb kb 396 132 528
  a : LvAt CL CS H xa za ka 12 12 132
theorem LawSt.same {K : PySem.W.Frag} {CL CS : Addr} {H H' : Hp} {p c : Addr} {cells : List Int} {D D2 : Addr} {r0 r1 r2 : Rw} {xb : Addr} {zb : Str} {kb : List Nat} {xa : Addr} {za : Str} {ka : List Nat} (h : LawSt K CL CS H p c cells D D2 r0 r1 r2 xb zb kb xa za ka) (s : Same H H') : LawSt K CL CS H' p c cells D D2 r0 r1 r2 xb zb kb xa za ka :=
  ⟨h.hand.same s, s _ _ h.sp, s _ _ h.lo, fun r hr => (h.ok r hr).same s, h.b.same s, h.a.same s⟩
section
variable {K : PySem.W.Frag} {CL CS : Addr} {H H' : Hp} {p c : Addr} {cells : List Int} {D D2 : Addr} {r0 r1 r2 : Rw} {xb : Addr} {zb : Str} {kb : List Nat} {xa : Addr} {za : Str} {ka : List Nat}
theorem LawSt.o0 (h : LawSt K CL CS H p c cells D D2 r0 r1 r2 xb zb kb xa za ka) : RwOk K CL CS H r0 := h.ok r0 List.mem_cons_self
theorem LawSt.o1 (h : LawSt K CL CS H p c cells D D2 r0 r1 r2 xb zb kb xa za ka) : RwOk K CL CS H r1 := h.ok r1 (List.mem_cons_of_mem _ List.mem_cons_self)
theorem LawSt.o2 (h : LawSt K CL CS H p c cells D D2 r0 r1 r2 xb zb kb xa za ka) : RwOk K CL CS H r2 := h.ok r2 (List.mem_cons_of_mem _ (List.mem_cons_of_mem _ List.mem_cons_self))
end
theorem RwOk.sm {K : PySem.W.Frag} {CL CS : Addr} {H : Hp} {r : Rw} (h : RwOk K CL CS H r) : ∀ n, Sm r.k n ↔ Sm r.M n := sumM h.ev h.lv.2.no h.dr.ok.no
theorem refs_no {rs : List Rw} : ∀ v vs, (rs.map fun r => V.ref r.x) ≠ oV v :: vs := fun v vs e => by
  cases rs with
  | nil => cases e
  | cons r rs =>
    have := (List.cons.inj e).1
    cases v <;> cases this
theorem lcm12 : ∀ a b, 0 < a → a ≤ 12 → 0 < b → b ≤ 12 → Nat.lcm a b ≤ 132 := fun a b h1 h2 h3 h4 => by
  have key : ∀ a : Fin 13, ∀ b : Fin 13, 0 < a.val → 0 < b.val → Nat.lcm a.val b.val ≤ 132 := by decide +kernel
  exact key ⟨a, by omega⟩ ⟨b, by omega⟩ h1 h3
theorem bd_c : CmB 12 12 132 12 12 132 396 132 528 := ⟨by decide, by decide, by decide, by decide, by decide, by decide, by decide, by decide, by decide, lcm12, by decide, by decide⟩
theorem bd_a : ArB 12 12 132 12 12 132 12 12 132 := ⟨by decide, by decide, by decide, by decide, by decide, by decide, by decide, by decide⟩
section
variable {P : Program} {w : World} {K : PySem.W.Frag} {mg : Str → Option Value} {base : Heap} {CL CS aW fE CB : Addr} {fdE : FuncData}
theorem scLaw : FnScope ["_law_script", "_law_hand_here", "_law_specs", "_law_lots", "_law_both", "_law_all_round", "_law_one", "_law_other", "_law_lies_here", "_law_odd", "_law_turn", "_law_spec"] ["_law_script"] (defScope sLaw) := ⟨rfl, rfl, rfl, by decide +kernel, rfl, by decide +kernel, by decide +kernel⟩
theorem ok_law {f fH fSo fSp fLo fC fA fW fI fDC fDA fLi fF fDe fP : Addr} {fd fdH fdSo fdSp fdLo fdC fdA fdW fdI fdDC fdDA fdLi fdF fdDe fdP : FuncData} (F : Fn K mg "law" sLaw ["_law_script"] f fd) (T : TxB mg) (T2 : TxD mg) (L : LotT K mg CL aW fE) (LK : LotK K CL) (LK2 : LotK2 K CL)
    (NH : Fn K mg "_law_hand" sHand ["_law_script"] fH fdH) (GH : FnOk P w K mg base CX0 1 fH fdH ["_law_script"] (spHand K))
    (NSo : Fn K mg "_law_some" sSome ["_law_hand_here", "_law_things"] fSo fdSo) (GSo : FnOk P w K mg base CX0 2 fSo fdSo ["_law_hand_here", "_law_things"] (spSome K))
    (NSp : Fn K mg "_law_lot_spec" sSpec ["_law_hand_here"] fSp fdSp) (GSp : FnOk P w K mg base CX0 3 fSp fdSp ["_law_hand_here"] (spSpec K))
    (NLo : Fn K mg "_law_lot" sLot ["_law_spec"] fLo fdLo) (GLo : FnOk P w K mg base CX0 8 fLo fdLo ["_law_spec"] (spLot K CL CS))
    (NC : Fn K mg "common" sCommon ["lot", "other"] fC fdC) (GC : FnOk P w K mg base CX0 9 fC fdC ["lot", "other"] (spCm CL CS))
    (NA : Fn K mg "around" sAround ["lot", "other"] fA fdA) (GA : FnOk P w K mg base CX0 9 fA fdA ["lot", "other"] (spAr CL CS))
    (NW : Fn K mg "is_within" sWithinL ["lot", "thing"] fW fdW) (GW : FnOk P w K mg base CX0 10 fW fdW ["lot", "thing"] (spWt K CL CS))
    (NI : Fn K mg "_law_is_as" sIsAs ["_law_lot_here", "_law_spec"] fI fdI) (GI : FnOk P w K mg base CX0 4 fI fdI ["_law_lot_here", "_law_spec"] (spIsAs K CL CS))
    (NDC : Fn K mg "_law_due_common" sDueCm ["_law_one", "_law_other"] fDC fdDC) (GDC : FnOk P w K mg base CX0 3 fDC fdDC ["_law_one", "_law_other"] (spDueCm K))
    (NDA : Fn K mg "_law_due_around" sDueAr ["_law_one", "_law_other"] fDA fdDA) (GDA : FnOk P w K mg base CX0 1 fDA fdDA ["_law_one", "_law_other"] (spDueAr K))
    (NLi : Fn K mg "_law_lies" sLies ["_law_one", "_law_other"] fLi fdLi) (GLi : FnOk P w K mg base CX0 3 fLi fdLi ["_law_one", "_law_other"] (spLies K))
    (NF : Fn K mg "_law_flag" sFlag ["_law_told", "_law_due"] fF fdF) (GF : FnOk P w K mg base CX0 1 fF fdF ["_law_told", "_law_due"] spFlag)
    (NDe : Fn K mg "_law_deeper_right" sDeeper ["_law_lot_here", "_law_spec", "_law_other", "_law_more"] fDe fdDe) (GDe : FnOk P w K mg base CX0 11 fDe fdDe ["_law_lot_here", "_law_spec", "_law_other", "_law_more"] (spDeeper K CL CS))
    (NP : Fn K mg "_law_deep" sDeep ["_law_kind"] fP fdP) (GP : FnOk P w K mg base CX0 1 fP fdP ["_law_kind"] spDeep)
    (GE : FnOk P w K mg base CX0 1 fE fdE ["self", "other"] (spLEq K CL CS)) (bE : Binds K fdE ["self", "other"] []) : FnOk P w K mg base CX0 12 f fd ["_law_script"] (spLaw K) := by
  refine F.F.ok scLaw (fun vs H Q E h => ?_) (fun cdv A outer s H vs Q E hr h => ?_)
  · obtain ⟨a, ns, rfl, _⟩ := h
    rfl
  · obtain ⟨a, ns, rfl, hS, hlen, kq⟩ := h
    have nd := scLaw.nd
    have hu := hu_of hr
    have hr1 := hr.mono (show 1 ≤ 11 by decide)
    have hr2 := hr.mono (show 2 ≤ 11 by decide)
    have hr3 := hr.mono (show 3 ≤ 11 by decide)
    have hr4 := hr.mono (show 4 ≤ 11 by decide)
    have hr8 := hr.mono (show 8 ≤ 11 by decide)
    have hr9 := hr.mono (show 9 ≤ 11 by decide)
    have hr10 := hr.mono (show 10 ≤ 11 by decide)
    refine ⟨_, pss_cons (ps_set (i := 1) nd rfl (Or.inr rfl) (pe_call GH hr1 (by rfl) NH.m NH.F.kp NH.b .nil pass0 (pa_cons (pv 0) pa_nil)))
      (pss_cons (ps_setLc (i := 2) (own := [("_law_turn", 10)]) (g := gName 10) (tt := tYes) rfl nd rfl rfl (sw_true rfl rfl rfl (by decide +kernel)) (pi_range1 (by rfl) T.range (pa_cons pe_int pa_nil))
        (blkOk_by (N := ["_law_script", "_law_hand_here", "_law_specs", "_law_lots", "_law_both", "_law_all_round", "_law_one", "_law_other", "_law_lies_here", "_law_odd", "_law_turn", "_law_spec"]) (sc := defScope sLaw) (by decide +kernel)) (fun _ _ _ _ _ => pg_name (i := 10) nd rfl (Or.inl rfl)) (fun _ _ _ _ _ => pts_nil)
        (fun _ _ _ _ _ => pe_call GSp hr3 (by rfl) NSp.m NSp.F.kp NSp.b .nil pass0 (pa_cons (pv 1) pa_nil)))
      (pss_cons (ps_setLc (i := 3) (own := [("_law_spec", 11)]) (g := gName 11) (tt := tYes) rfl nd rfl rfl (sw_true rfl rfl rfl (by decide +kernel)) (pi_list (pv 2))
        (blkOk_by (N := ["_law_script", "_law_hand_here", "_law_specs", "_law_lots", "_law_both", "_law_all_round", "_law_one", "_law_other", "_law_lies_here", "_law_odd", "_law_turn", "_law_spec"]) (sc := defScope sLaw) (by decide +kernel)) (fun _ _ _ _ _ => pg_name (i := 11) nd rfl (Or.inl rfl)) (fun _ _ _ _ _ => pts_nil)
        (fun _ _ _ _ _ => pe_call GLo hr8 (by rfl) NLo.m NLo.F.kp NLo.b .nil pass0 (pa_cons (pv 11) pa_nil)))
      (pss_cons (ps_par (i := 4) (j := 5) rfl nd rfl rfl (by decide) rfl rfl (pa_cons (pe_call GC hr9 (by rfl) NC.m NC.F.kp NC.b .nil pass0 (pa_cons (pe_ix ix_list (pv 3) pe_int (fun _ _ => rfl)) (pa_cons (pe_ix ix_list (pv 3) pe_int (fun _ _ => rfl)) pa_nil))) (pa_cons (pe_call GA hr9 (by rfl) NA.m NA.F.kp NA.b .nil pass0 (pa_cons (pe_ix ix_list (pv 3) pe_int (fun _ _ => rfl)) (pa_cons (pe_ix ix_list (pv 3) pe_int (fun _ _ => rfl)) pa_nil))) pa_nil)) (by rfl))
      (pss_cons (ps_if (pt_not (pt_val (pe_call GI hr4 (by rfl) NI.m NI.F.kp NI.b .nil pass0 (pa_cons (pv 4) (pa_cons (pe_call GDC hr3 (by rfl) NDC.m NDC.F.kp NDC.b .nil pass0 (pa_cons (pe_ix ix_list (pv 2) pe_int (fun _ _ => rfl)) (pa_cons (pe_ix ix_list (pv 2) pe_int (fun _ _ => rfl)) pa_nil))) pa_nil))))) (pss_one (ps_ret pe_bl)) pss_nil)
      (pss_cons (ps_if (pt_not (pt_val (pe_call GI hr4 (by rfl) NI.m NI.F.kp NI.b .nil pass0 (pa_cons (pv 5) (pa_cons (pe_call GDA hr1 (by rfl) NDA.m NDA.F.kp NDA.b .nil pass0 (pa_cons (pe_ix ix_list (pv 2) pe_int (fun _ _ => rfl)) (pa_cons (pe_ix ix_list (pv 2) pe_int (fun _ _ => rfl)) pa_nil))) pa_nil))))) (pss_one (ps_ret pe_bl)) pss_nil)
      (pss_cons (ps_if (PW.pt (pw_or (pt_cmpR (op_neO GE hr2 hu bE pass0 L.ow) (pe_call GC hr9 (by rfl) NC.m NC.F.kp NC.b .nil pass0 (pa_cons (pe_ix ix_list (pv 3) pe_int (fun _ _ => rfl)) (pa_cons (pe_ix ix_list (pv 3) pe_int (fun _ _ => rfl)) pa_nil))) (pv 4) (nomark _))
          (pw_or (pt_cmpR (op_neO GE hr2 hu bE pass0 L.ow) (pe_call GA hr9 (by rfl) NA.m NA.F.kp NA.b .nil pass0 (pa_cons (pe_ix ix_list (pv 3) pe_int (fun _ _ => rfl)) (pa_cons (pe_ix ix_list (pv 3) pe_int (fun _ _ => rfl)) pa_nil))) (pv 5) (nomark _))
          (pw_or1 (pt_cmpR (op_neO GE hr2 hu bE pass0 L.ow) (pe_call GC hr9 (by rfl) NC.m NC.F.kp NC.b .nil pass0 (pa_cons (pv 4) (pa_cons (pe_ix ix_list (pv 3) pe_int (fun _ _ => rfl)) pa_nil))) (pv 4) (nomark _)))))) (pss_one (ps_ret pe_bl)) pss_nil)
      (pss_cons (ps_for PassesOwn.never rfl (pi_range1 (by rfl) T.range (pa_cons pe_int pa_nil)) (pg_name (i := 6) nd rfl (Or.inl rfl))
        (pss_one (ps_for PassesOwn.never rfl (pi_range1 (by rfl) T.range (pa_cons pe_int pa_nil)) (pg_name (i := 7) nd rfl (Or.inl rfl))
          (pss_one (ps_if (pt_not (pt_val (pe_call GF hr1 (by rfl) NF.m NF.F.kp NF.b .nil pass0 (pa_cons (pe_call GW hr10 (by rfl) NW.m NW.F.kp NW.b .nil pass0 (pa_cons (pe_ix ix_list (pv 3) (pv 6) (fun _ _ => rfl)) (pa_cons (pe_ix ix_list (pv 3) (pv 7) (fun _ _ => rfl)) pa_nil)))
            (pa_cons (pe_call GLi hr3 (by rfl) NLi.m NLi.F.kp NLi.b .nil pass0 (pa_cons (pe_ix ix_list (pv 2) (pv 6) (fun _ _ => rfl)) (pa_cons (pe_ix ix_list (pv 2) (pv 7) (fun _ _ => rfl)) pa_nil))) pa_nil))))) (pss_one (ps_ret pe_bl)) pss_nil)))))
      (pss_cons (ps_if (PW.pt (pw_or (pt_cmpR op_isnot_bl (pe_call GW hr10 (by rfl) NW.m NW.F.kp NW.b .nil pass0 (pa_cons (pv 4) (pa_cons (pe_ix ix_list (pv 3) pe_int (fun _ _ => rfl)) pa_nil))) pe_bl (nomark _))
          (pw_or1 (pt_cmpR op_isnot_bl (pe_call GW hr10 (by rfl) NW.m NW.F.kp NW.b .nil pass0 (pa_cons (pe_ix ix_list (pv 3) pe_int (fun _ _ => rfl)) (pa_cons (pv 5) pa_nil))) pe_bl (nomark _))))) (pss_one (ps_ret pe_bl)) pss_nil)
      (Evl.pss_cut (ps_set (i := 8) nd rfl (Or.inl rfl) (pe_and (pe_call GLi hr3 (by rfl) NLi.m NLi.F.kp NLi.b .nil pass0 (pa_cons (pe_ix ix_list (pv 2) pe_int (fun _ _ => rfl)) (pa_cons (pe_ix ix_list (pv 2) pe_int (fun _ _ => rfl)) pa_nil))) (pe_one (pe_call GLi hr3 (by rfl) NLi.m NLi.F.kp NLi.b .nil pass0 (pa_cons (pe_ix ix_list (pv 2) pe_int (fun _ _ => rfl)) (pa_cons (pe_ix ix_list (pv 2) pe_int (fun _ _ => rfl)) pa_nil))))))
      (pss_cons (ps_if (pt_not (pt_val (pe_call GF hr1 (by rfl) NF.m NF.F.kp NF.b .nil pass0 (pa_cons (pe_call GW hr10 (by rfl) NW.m NW.F.kp NW.b .nil pass0 (pa_cons (pv 5) (pa_cons (pe_ix ix_list (pv 3) pe_int (fun _ _ => rfl)) pa_nil))) (pa_cons (pv 8) pa_nil))))) (pss_one (ps_ret pe_bl)) pss_nil)
      (pss_cons (ps_if (pt_not (pt_val (pe_call GDe hr (by rfl) NDe.m NDe.F.kp NDe.b .nil pass0 (pa_cons (pv 4) (pa_cons (pe_call GDC hr3 (by rfl) NDC.m NDC.F.kp NDC.b .nil pass0 (pa_cons (pe_ix ix_list (pv 2) pe_int (fun _ _ => rfl)) (pa_cons (pe_ix ix_list (pv 2) pe_int (fun _ _ => rfl)) pa_nil))) (pa_cons (pe_ix ix_list (pv 3) pe_int (fun _ _ => rfl)) (pa_cons (pe_ix ix_list (pv 2) pe_int (fun _ _ => rfl)) pa_nil))))))) (pss_one (ps_ret pe_bl)) pss_nil)
      (pss_cons (ps_if (pt_not (pt_val (pe_call GDe hr (by rfl) NDe.m NDe.F.kp NDe.b .nil pass0 (pa_cons (pv 5) (pa_cons (pe_call GDA hr1 (by rfl) NDA.m NDA.F.kp NDA.b .nil pass0 (pa_cons (pe_ix ix_list (pv 2) pe_int (fun _ _ => rfl)) (pa_cons (pe_ix ix_list (pv 2) pe_int (fun _ _ => rfl)) pa_nil))) (pa_cons (pe_ix ix_list (pv 3) pe_int (fun _ _ => rfl)) (pa_cons (pe_ix ix_list (pv 2) pe_int (fun _ _ => rfl)) pa_nil))))))) (pss_one (ps_ret pe_bl)) pss_nil)
      (pss_cons (ps_set (i := 9) nd rfl (Or.inl rfl) (pe_lst (pa_cons pe_non (pa_cons pe_str (pa_cons (pe_tup pa_nil) (pa_cons (pe_tup (pa_cons pe_str (pa_cons (pe_tup (pa_cons pe_int pa_nil)) pa_nil))) (pa_cons pe_int (pa_cons (pe_lst (pa_cons (pe_ix ix_list (pv 3) pe_int (fun _ _ => rfl)) pa_nil)) (pa_cons pe_dnewK
          (pa_cons (pe_call GP hr1 (by rfl) NP.m NP.F.kp NP.b .nil pass0 (pa_cons pe_int pa_nil)) (pa_cons (pe_call GP hr1 (by rfl) NP.m NP.F.kp NP.b .nil pass0 (pa_cons pe_int pa_nil)) pa_nil)))))))))))
      (pss_one (ps_ret (pe_cmpR op_is_bl (pe_call GW hr10 (by rfl) NW.m NW.F.kp NW.b .nil pass0 (pa_cons (pe_ix ix_list (pv 3) pe_int (fun _ _ => rfl)) (pa_cons (pe_call GSo hr2 (by rfl) NSo.m NSo.F.kp NSo.b .nil pass0 (pa_cons (pv 1) (pa_cons (pv 9) pa_nil))) pa_nil))) pe_bl (nomark _))))))))))))))))), ?_⟩
    refine ⟨_, rfl, a, ns, rfl, hS, by omega, fun p c cells H1 s1 hp0 hA => ?_⟩
    clear hS s1 hp0
    -- the specs
    refine ⟨3, rfl, by decide, by decide, fun D hD => ?_⟩
    have hDp := hA.fresh hD
    have hDc : D ≠ c := fun z => by rw [z, hA.cl] at hD; cases hD
    have a0 := same_new (o := .lst []) (same_refl H1) hD
    refine lc_range (lo := 0) (n := (3 : Int).toNat) (fun i H' => HandAt H' p c cells ∧ ∃ qs : List Sq, qs.length = i ∧ (∀ q ∈ qs, SqOk K (del H' p) q) ∧ H' D = some (.lst (qs.map (·.v)))) ⟨hA.same a0, [], rfl, fun q hq => (by cases hq), upd_same⟩ ?_ ?_
    · rintro i H' hi ⟨hA', qs, hq1, hq2, hq3⟩
      refine ⟨rfl, ?_⟩
      refine yes_kept ?_
      refine ⟨_, rfl, p, c, cells, rfl, hA', fun v z M H2 hA2 sd2 hs hz => ?_⟩
      have hD2 : H2 D = some (.lst (qs.map (·.v))) := by
        have := sd2 D _ (by rw [del_ne hDp]; exact hq3)
        rwa [del_ne hDp] at this
      refine ⟨_, hD2, (by rw [List.length_map]; exact room2 (by have : i < 3 := hi; omega)), hA2.upd hDp hDc, qs ++ [⟨v, z, M⟩], by rw [List.length_append, hq1]; rfl, fun q hq => ?_, by rw [upd_same, List.map_append]; rfl⟩
      obtain hq | hq := List.mem_append.mp hq
      · exact ((hq2 q hq).same sd2).updL hD2 hDp
      · (rw [List.mem_singleton] at hq)
        subst hq
        exact (show SqOk K (del H2 p) ⟨v, z, M⟩ from ⟨hs, hz⟩).updL hD2 hDp
    rintro H2 ⟨hA2, qs, hq1, hq2, hq3⟩
    obtain ⟨q0, q1, q2, rfl⟩ : ∃ q0 q1 q2, qs = [q0, q1, q2] := by
      match qs, hq1 with
      | [q0, q1, q2], _ => exact ⟨q0, q1, q2, rfl⟩
    have hq2' : ∀ q ∈ [q0, q1, q2], SqOk K H2 q := fun q hq => (hq2 q hq).same del_le
    clear hq2 hq1 a0 hA hD
    -- the lots
    refine ⟨_, rfl, D, rfl, ⟨_, SqL.of hq3⟩, fun D2 hD2 => ?_⟩
    have a0 := same_new (o := .lst []) (same_refl H2) hD2
    refine lc_list (K := K) (a := D) (xs := [q0, q1, q2].map (·.v)) (fun i H' => Same H2 H' ∧ ∃ rs : List Rw, rs.map (fun r => (⟨r.v, r.z, r.M⟩ : Sq)) = [q0, q1, q2].take i ∧ (∀ r ∈ rs, RwOk K CL CS H' r) ∧ H' D2 = some (.lst (rs.map fun r => V.ref r.x))) ⟨a0, [], rfl, fun q hq => (by cases hq), upd_same⟩ (fun i H' _ p => SqL.of (p.1 _ _ hq3)) ?_ ?_
    · rintro i v H' hv ⟨h1, rs, e1, e2, e3⟩
      obtain ⟨q, hq, rfl⟩ : ∃ q, [q0, q1, q2][i]? = some q ∧ v = q.v := by
        rw [List.getElem?_map] at hv
        cases e : [q0, q1, q2][i]? with
        | none => rw [e] at hv; cases hv
        | some q => rw [e] at hv; exact ⟨q, rfl, (Option.some.inj hv).symm⟩
      have hqo := hq2' q (List.mem_of_getElem? hq)
      have hi : i < 3 := (List.getElem?_eq_some_iff.mp hq).1
      refine ⟨rfl, ?_⟩
      refine yes_kept ?_
      refine ⟨_, rfl, q.v, q.z, q.M, rfl, hqo.1.same h1, hqo.2, fun x k H3 s3 nx hl hk => ?_⟩
      have e3' := s3 _ _ e3
      have rl : rs.length ≤ 3 := by
        have := congrArg List.length e1
        rw [List.length_map, List.length_take] at this
        have l3 : [q0, q1, q2].length = 3 := rfl
        omega
      have rq : RwOk K CL CS H3 ⟨q.v, q.z, q.M, x, k⟩ := ⟨(hqo.1.same h1).same s3, hqo.2, hl, hk⟩
      refine ⟨_, e3', (by rw [List.length_map]; exact room2 (by omega)), fun b o e => by rw [upd_ne (ne_of_none e hD2)]; exact s3 b o (h1 b o e), rs ++ [⟨q.v, q.z, q.M, x, k⟩], ?_, fun r hr' => ?_, by rw [upd_same, List.map_append]; rfl⟩
      · rw [List.map_append, e1, List.take_add_one, hq]; rfl
      · rcases List.mem_append.mp hr' with hr' | hr'
        · exact ((e2 r hr').same s3).updL e3' refs_no
        · rw [List.mem_singleton] at hr'
          subst hr'
          exact rq.updL e3' refs_no
    rintro H3 ⟨s23, rs, e1, e2, e3⟩
    replace e1 : rs.map (fun r => (⟨r.v, r.z, r.M⟩ : Sq)) = [q0, q1, q2] := e1
    obtain ⟨r0, r1, r2, rfl⟩ : ∃ r0 r1 r2, rs = [r0, r1, r2] := by
      have := congrArg List.length e1
      rw [List.length_map] at this
      match rs, this with
      | [r0, r1, r2], _ => exact ⟨r0, r1, r2, rfl⟩
    have ev : [q0, q1, q2].map (·.v) = [r0.v, r1.v, r2.v] := by rw [← e1]; rfl
    rw [ev] at hq3
    have hA3 := hA2.same s23
    have hsp := s23 _ _ hq3
    have o0 := e2 r0 (List.mem_cons_self)
    have o1 := e2 r1 (List.mem_cons_of_mem _ List.mem_cons_self)
    have o2 := e2 r2 (List.mem_cons_of_mem _ (List.mem_cons_of_mem _ List.mem_cons_self))
    replace e3 : H3 D2 = some (.lst [.ref r0.x, .ref r1.x, .ref r2.x]) := e3
    clear e1 hq2' hq3 s23 hA2 a0 hD2 ev e2
    -- what they have in common, what lies around
    refine ⟨_, rfl, D2, _, _, _, rfl, rfl, SqL.of e3, rfl, _, rfl, D2, _, _, _, rfl, rfl, SqL.of e3, rfl, r0.x, r1.x, r0.z, r1.z, r0.k, r1.k, _, _, _, _, _, _, _, _, _, rfl, o0.lv, o1.lv, bd_c, fun xb zb kb H4 s4 hb cm => ?_⟩
    refine ⟨_, rfl, D2, _, _, _, rfl, rfl, SqL.of (s4 _ _ e3), rfl, _, rfl, D2, _, _, _, rfl, rfl, SqL.of (s4 _ _ e3), rfl, r0.x, r1.x, r0.z, r1.z, r0.k, r1.k, _, _, _, _, _, _, _, _, _, rfl, o0.lv.same s4, o1.lv.same s4, bd_a, fun xa za ka H5 s5 ha ar => ?_⟩
    refine ⟨_, _, rfl, ?_⟩
    have st : LawSt K CL CS H5 p c cells D D2 r0 r1 r2 xb zb kb xa za ka := by
      have s45 := same_trans s4 s5
      refine ⟨hA3.same s45, s45 _ _ hsp, s45 _ _ e3, fun r hr' => ?_, hb.same s5, ha⟩
      simp only [List.mem_cons, List.not_mem_nil, or_false] at hr'
      rcases hr' with rfl | rfl | rfl
      · exact o0.same s45
      · exact o1.same s45
      · exact o2.same s45
    have cmM : Cm r0.z r0.M r1.z r1.M zb kb := fun n => by rw [← o0.fl, ← o1.fl]; exact cm n
    have m0 := o0.sm
    have m1 := o1.sm
    have d0 := o0.dr
    have d1 := o1.dr
    have v0 := o0.lv.2
    have v1 := o1.lv.2
    have v2 := o2.lv.2
    have vb := hb.2
    have va := ha.2
    clear o0 o1 o2 hb ha s4 s5 e3 hsp hA3 H3 H4
    -- both are as told
    refine ⟨_, rfl, _, rfl, D, _, _, _, rfl, rfl, SqL.of st.sp, rfl, _, rfl, D, _, _, _, rfl, rfl, SqL.of st.sp, rfl, r0.v, r1.v, r0.z, r1.z, r0.M, r1.M, zb, kb, _, _, _, rfl, st.o0.sp, st.o1.sp, d0.ok, d1.ok, vb, by decide, cmM, fun v H6 s6 hs6 => ?_⟩
    refine ⟨xb, v, zb, kb, kb, _, _, _, rfl, st.b.same s6, by decide, hs6, vb.spec (by decide), fun _ n => Iff.rfl, fun H7 s7 => ⟨_, rfl, ?_⟩⟩
    refine ifF rfl ?_
    replace st := (st.same s6).same s7
    clear hs6 s6 s7 H5 H6 v
    refine ⟨_, rfl, _, rfl, D, _, _, _, rfl, rfl, SqL.of st.sp, rfl, _, rfl, D, _, _, _, rfl, rfl, SqL.of st.sp, rfl, r0.v, r1.v, r0.z, r1.z, r0.M, r1.M, rfl, st.o0.sp, st.o1.sp, d0.ok, d1.ok, fun v zd Md H8 s8 hs8 ed es ad => ?_⟩
    have ez : za = zd := ar.w.trans ed.symm
    subst ez
    refine ⟨xa, v, za, ka, Md, _, _, _, rfl, st.a.same s8, by decide, hs8, ad.ok va d0 d1, ar_spec ar m0 m1 rfl es, fun H9 s9 => ⟨_, rfl, ?_⟩⟩
    refine ifF rfl ?_
    replace st := (st.same s8).same s9
    clear hs8 s8 s9 H7 H8 v ed es ad Md
    -- either way round
    refine ⟨_, rfl, D2, _, _, _, rfl, rfl, SqL.of st.lo, rfl, _, rfl, D2, _, _, _, rfl, rfl, SqL.of st.lo, rfl, r1.x, r0.x, r1.z, r0.z, r1.k, r0.k, _, _, _, _, _, _, _, _, _, rfl, st.o1.lv, st.o0.lv, bd_c, fun xc zc kc G1 s1 hc cmc => ?_⟩
    replace st := st.same s1
    refine ⟨_, rfl, ne_ask hc st.b ⟨_, rfl, ?_⟩⟩
    rw [ne_false (hc.2.uniq vb (cm.most cmc.right cmc.left) (cmc.most cm.right cm.left))]
    refine ifF rfl ?_
    clear hc cmc s1 xc zc kc
    refine ⟨_, rfl, D2, _, _, _, rfl, rfl, SqL.of st.lo, rfl, _, rfl, D2, _, _, _, rfl, rfl, SqL.of st.lo, rfl, r1.x, r0.x, r1.z, r0.z, r1.k, r0.k, _, _, _, _, _, _, _, _, _, rfl, st.o1.lv, st.o0.lv, bd_a, fun xc zc kc G2 s2 hc arc => ?_⟩
    replace st := st.same s2
    refine ⟨_, rfl, ne_ask hc st.a ⟨_, rfl, ?_⟩⟩
    rw [ne_false (hc.2.uniq va (arc.least v1 v0 va (ar.right v0 v1 va) (ar.left v0 v1 va)) (ar.least v0 v1 hc.2 (arc.right v1 v0 hc.2) (arc.left v1 v0 hc.2)))]
    refine ifF rfl ?_
    clear hc arc s2 xc zc kc
    refine ⟨_, rfl, _, rfl, D2, _, _, _, rfl, rfl, SqL.of st.lo, rfl, xb, r0.x, zb, r0.z, kb, r0.k, _, _, _, _, _, _, _, _, _, rfl, st.b, st.o0.lv, bd_both, fun xc zc kc G3 s3 hc cmc => ?_⟩
    replace st := st.same s3
    refine ⟨_, rfl, ne_ask hc st.b ⟨_, rfl, ?_⟩⟩
    rw [ne_false (hc.2.uniq vb cmc.left (cmc.most (fun n hn => hn) cm.left))]
    refine ifF rfl ?_
    clear hc cmc s3 xc zc kc
    -- who lies within whom
    refine ⟨3, rfl, by decide, by decide, for_range (lo := 0) (n := 3) (fun i σ H' => ∃ t6 t7 : Option V, σ = [some (.ref a), some (.ref p), some (.ref D), some (.ref D2), some (.ref xb), some (.ref xa), t6, t7, none, none, none, none] ∧ LawSt K CL CS H' p c cells D D2 r0 r1 r2 xb zb kb xa za ka) ⟨none, none, rfl, st⟩ ?_ ?_⟩
    · clear st G1 G2 G3 H9
      rintro i σ H1 hi ⟨t6, t7, rfl, st⟩
      refine ⟨3, rfl, by decide, by decide, for_range (lo := 0) (n := 3) (fun j σ H' => ∃ t7 : Option V, σ = [some (.ref a), some (.ref p), some (.ref D), some (.ref D2), some (.ref xb), some (.ref xa), some (.int (0 + (i : Int))), t7, none, none, none, none] ∧ LawSt K CL CS H' p c cells D D2 r0 r1 r2 xb zb kb xa za ka) ⟨t7, rfl, st⟩ ?_ ?_⟩
      · clear st H1 t6 t7
        rintro j σ H1 hj ⟨t7, rfl, st⟩
        obtain ⟨ri, hri⟩ : ∃ r, [r0, r1, r2][i]? = some r := ⟨_, List.getElem?_eq_getElem hi⟩
        obtain ⟨rj, hrj⟩ : ∃ r, [r0, r1, r2][j]? = some r := ⟨_, List.getElem?_eq_getElem hj⟩
        have atL : ∀ {k : Nat} {r : Rw} {f : Rw → V}, [r0, r1, r2][k]? = some r → atI ([r0, r1, r2].map f) (0 + (k : Int)) = some (f r) := fun {k r f} h => by rw [Int.zero_add]; exact atI_nat (by rw [List.getElem?_map, h]; rfl)
        have oi := st.ok ri (List.mem_of_getElem? hri)
        have oj := st.ok rj (List.mem_of_getElem? hrj)
        refine ⟨_, rfl, _, rfl, D2, _, _, _, rfl, rfl, SqL.of st.lo, atL hri, _, rfl, _, rfl, D2, _, _, _, rfl, rfl, SqL.of st.lo, atL hrj, ri.x, .ref rj.x, ri.z, ri.k, _, _, _, rfl, oi.lv, .inl ⟨rj.x, rj.z, rj.k, _, _, _, rfl, oj.lv, by decide, by decide, fun H2 s2 => ?_⟩⟩
        replace st := st.same s2
        refine ⟨_, rfl, _, rfl, D, _, _, _, rfl, rfl, SqL.of st.sp, atL hri, _, rfl, _, rfl, D, _, _, _, rfl, rfl, SqL.of st.sp, atL hrj, ri.v, rj.v, ri.z, rj.z, ri.M, rj.M, rfl, oi.sp.same s2, oj.sp.same s2, oi.dr.ok, oj.dr.ok, fun H3 s3 => ?_⟩
        rw [lies_inn oi.lv.2 oj.lv.2 (by decide) oi.fl oj.fl]
        refine ⟨_, rfl, _, rfl, ?_⟩
        refine ifF rfl ?_
        exact ⟨_, rfl, st.same s3⟩
      · rintro σ H2 ⟨t7, rfl, st⟩
        exact ⟨_, _, rfl, st⟩
    clear st G1 G2 G3 H9
    rintro σ H1 ⟨t6, t7, rfl, st⟩
    refine ⟨_, rfl, _, rfl, D2, _, _, _, rfl, rfl, SqL.of st.lo, rfl, xb, .ref r0.x, zb, kb, _, _, _, rfl, st.b, .inl ⟨r0.x, r0.z, r0.k, _, _, _, rfl, st.o0.lv, by decide, by decide, fun H2 s2 => ?_⟩⟩
    rw [innB_iff.mpr cm.left]
    replace st := st.same s2
    refine ⟨true, true, rfl, rfl, _, rfl, ?_⟩
    refine ifF rfl ?_
    refine ⟨_, rfl, D2, _, _, _, rfl, rfl, SqL.of st.lo, rfl, _, rfl, r1.x, .ref xa, r1.z, r1.k, _, _, _, rfl, st.o1.lv, .inl ⟨xa, za, ka, _, _, _, rfl, st.a, by decide, by decide, fun H3 s3 => ?_⟩⟩
    rw [innB_iff.mpr (ar.right v0 v1 va)]
    replace st := st.same s3
    refine ⟨true, true, rfl, rfl, _, rfl, ?_⟩
    refine ifF rfl ?_
    clear s2 s3 H1 H2
    -- a third one
    refine ⟨fun σ' H' => σ' = [some (.ref a), some (.ref p), some (.ref D), some (.ref D2), some (.ref xb), some (.ref xa), t6, t7, some (.bl (innB za ka r2.z r2.k)), none, none, none] ∧ LawSt K CL CS H' p c cells D D2 r0 r1 r2 xb zb kb xa za ka, ?_, ?_⟩
    · rw [inn_ar ar v0 v1 v2 va]
      refine ⟨_, rfl, D, _, _, _, rfl, rfl, SqL.of st.sp, rfl, _, rfl, D, _, _, _, rfl, rfl, SqL.of st.sp, rfl, r0.v, r2.v, r0.z, r2.z, r0.M, r2.M, rfl, st.o0.sp, st.o2.sp, d0.ok, st.o2.dr.ok, fun H4 s4 => ?_⟩
      rw [lies_inn v0 v2 (by decide) st.o0.fl st.o2.fl]
      replace st := st.same s4
      refine ⟨_, rfl, ?_⟩
      cases e : innB r0.z r0.k r2.z r2.k with
      | false =>
        refine ifF rfl ?_
        exact ⟨rfl, st⟩
      | true =>
        refine ifT rfl ?_
        refine ⟨_, rfl, D, _, _, _, rfl, rfl, SqL.of st.sp, rfl, _, rfl, D, _, _, _, rfl, rfl, SqL.of st.sp, rfl, r1.v, r2.v, r1.z, r2.z, r1.M, r2.M, rfl, st.o1.sp, st.o2.sp, d1.ok, st.o2.dr.ok, fun H5 s5 => ?_⟩
        rw [lies_inn v1 v2 (by decide) st.o1.fl st.o2.fl]
        exact ⟨rfl, st.same s5⟩
    clear st H3
    rintro _ H1 ⟨rfl, st⟩
    refine ⟨_, rfl, _, rfl, D2, _, _, _, rfl, rfl, SqL.of st.lo, rfl, xa, .ref r2.x, za, ka, _, _, _, rfl, st.a, .inl ⟨r2.x, r2.z, r2.k, _, _, _, rfl, st.o2.lv, by decide, by decide, fun H2 s2 => ?_⟩⟩
    replace st := st.same s2
    refine ⟨_, rfl, _, rfl, _, rfl, ?_⟩
    refine ifF rfl ?_
    clear s2 H1
    -- what came of two, with the third one
    refine ⟨_, rfl, _, rfl, D, _, _, _, rfl, rfl, SqL.of st.sp, rfl, _, rfl, D, _, _, _, rfl, rfl, SqL.of st.sp, rfl, r0.v, r1.v, r0.z, r1.z, r0.M, r1.M, zb, kb, _, _, _, rfl, st.o0.sp, st.o1.sp, d0.ok, d1.ok, vb, by decide, cmM, fun v H6 s6 hs6 => ?_⟩
    replace st := st.same s6
    refine ⟨_, rfl, D2, _, _, _, rfl, rfl, SqL.of st.lo, rfl, _, rfl, D, _, _, _, rfl, rfl, SqL.of st.sp, rfl, xb, r2.x, v, r2.v, zb, r2.z, kb, r2.k, kb, r2.M, rfl, st.b, hs6, vb.spec (by decide), fun _ n => Iff.rfl, st.o2.lv, st.o2.sp, st.o2.dr, st.o2.ev, fun H7 s7 => ⟨_, rfl, ?_⟩⟩
    refine ifF rfl ?_
    replace st := st.same s7
    clear hs6 s6 s7 H2 H6 v
    refine ⟨_, rfl, _, rfl, D, _, _, _, rfl, rfl, SqL.of st.sp, rfl, _, rfl, D, _, _, _, rfl, rfl, SqL.of st.sp, rfl, r0.v, r1.v, r0.z, r1.z, r0.M, r1.M, rfl, st.o0.sp, st.o1.sp, d0.ok, d1.ok, fun v zd Md H8 s8 hs8 ed es ad => ?_⟩
    have ez : za = zd := ar.w.trans ed.symm
    subst ez
    replace st := st.same s8
    refine ⟨_, rfl, D2, _, _, _, rfl, rfl, SqL.of st.lo, rfl, _, rfl, D, _, _, _, rfl, rfl, SqL.of st.sp, rfl, xa, r2.x, v, r2.v, za, r2.z, ka, r2.k, Md, r2.M, rfl, st.a.mono (by decide) (by decide) (by decide), hs8, ad.ok va d0 d1, ar_spec ar m0 m1 rfl es, st.o2.lv, st.o2.sp, st.o2.dr, st.o2.ev, fun H9 s9 => ⟨_, rfl, ?_⟩⟩
    refine ifF rfl ?_
    replace st := st.same s9
    clear hs8 s8 s9 H7 H8 v ed es ad Md
    -- things of other kinds
    refine ⟨(by show 0 ≤ sizeLine; decide), fun t1 n1 => ?_⟩
    have u1 := same_new (o := .tup []) (same_refl H9) n1
    have f1 : upd H9 t1 (.tup []) t1 = some (.tup []) := upd_same
    have p1 := st.hand.fresh n1
    generalize upd H9 t1 (.tup []) = G1 at *
    replace st := st.same u1
    refine ⟨(by show 1 ≤ sizeLine; decide), fun t2 n2 => ?_⟩
    have u2 := same_new (o := .tup [.int 1]) (same_refl G1) n2
    generalize upd G1 t2 (.tup [.int 1]) = G2 at *
    replace st := st.same u2
    refine ⟨(by show 2 ≤ sizeLine; decide), fun t3 n3 => ?_⟩
    have u3 := same_new (o := .tup [.str "more", .ref t2]) (same_refl G2) n3
    have f3 : upd G2 t3 (.tup [.str "more", .ref t2]) t3 = some (.tup [.str "more", .ref t2]) := upd_same
    have p3 := st.hand.fresh n3
    generalize upd G2 t3 (.tup [.str "more", .ref t2]) = G3 at *
    replace st := st.same u3
    refine ⟨_, rfl, D2, _, _, _, rfl, rfl, SqL.of st.lo, rfl, (by show 1 ≤ sizeLine; decide), fun l1 n4 => ?_⟩
    have u4 := same_new (o := .lst [.ref r0.x]) (same_refl G3) n4
    have f4 : upd G3 l1 (.lst [.ref r0.x]) l1 = some (.lst [.ref r0.x]) := upd_same
    have p4 := st.hand.fresh n4
    generalize upd G3 l1 (.lst [.ref r0.x]) = G4 at *
    replace st := st.same u4
    intro d1' n5
    have u5 := same_new (o := .dK []) (same_refl G4) n5
    have f5 : upd G4 d1' (.dK []) d1' = some (.dK []) := upd_same
    have p5 := st.hand.fresh n5
    generalize upd G4 d1' (.dK []) = G5 at *
    replace st := st.same u5
    refine ⟨0, rfl, fun a6 x6 G6 u6 n6 f6 _ => ?_⟩
    replace f6 := f6 rfl
    have p6 := st.hand.fresh n6
    replace st := st.same u6
    refine ⟨1, rfl, fun a7 x7 G7 u7 n7 _ f7 => ?_⟩
    replace f7 := f7 (by decide)
    have p7 := st.hand.fresh n7
    replace st := st.same u7
    refine ⟨(by show 9 ≤ sizeLine; decide), fun th n8 => ?_⟩
    have u8 := same_new (o := .lst [.non, .str "free", .ref t1, .ref t3, .int 1, .ref l1, .ref d1', .ref a6, .ref a7]) (same_refl G7) n8
    have f8 : upd G7 th (.lst [.non, .str "free", .ref t1, .ref t3, .int 1, .ref l1, .ref d1', .ref a6, .ref a7]) th = some (.lst [.non, .str "free", .ref t1, .ref t3, .int 1, .ref l1, .ref d1', .ref a6, .ref a7]) := upd_same
    have p8 := st.hand.fresh n8
    generalize upd G7 th (.lst [.non, .str "free", .ref t1, .ref t3, .int 1, .ref l1, .ref d1', .ref a6, .ref a7]) = G8 at *
    replace st := st.same u8
    have g1 := u8 _ _ (u7 _ _ (u6 _ _ (u5 _ _ (u4 _ _ (u3 _ _ (u2 _ _ f1))))))
    have g3 := u8 _ _ (u7 _ _ (u6 _ _ (u5 _ _ (u4 _ _ f3))))
    have g4 := u8 _ _ (u7 _ _ (u6 _ _ (u5 _ _ f4)))
    have g5 := u8 _ _ (u7 _ _ (u6 _ _ f5))
    have g6 := u8 _ _ (u7 _ _ f6)
    have g7 := u8 _ _ f7
    refine ⟨_, rfl, D2, _, _, _, rfl, rfl, SqL.of st.lo, rfl, _, rfl, _, rfl, p, c, th, cells, _, rfl, st.hand, SqL.of f8, p8, (by show 0 < 9; decide), (by show 9 < 1000; decide), fun i u H' hi hA' off => ?_⟩
    obtain ⟨⟨i0, z0, s0, n0, _, hp⟩, _⟩ := st.hand
    have lv0 := st.o0.lv.off hp (fun v vs e => by have := (List.cons.inj e).1; cases v <;> cases this) off
    have mem := List.mem_of_getElem? hi
    have odd : ∃ tv, TyX K H' u tv ∧ PySem.W.kitOne K tv (.ref CL) = some false := by
      simp only [List.mem_cons, List.not_mem_nil, or_false] at mem
      rcases mem with rfl | rfl | rfl | rfl | rfl | rfl | rfl | rfl | rfl
      · exact ⟨_, .base .non, LK.no⟩
      · exact ⟨_, .base (.str _), LK.st⟩
      · exact ⟨_, .base (.tup ((off _ p1).trans g1)), LK.tu⟩
      · exact ⟨_, .base (.tup ((off _ p3).trans g3)), LK.tu⟩
      · exact ⟨_, .base (.int _), LK2.it⟩
      · exact ⟨_, .base (.lst ((off _ p4).trans g4)), LK2.li⟩
      · exact ⟨_, .base (.dK ((off _ p5).trans g5)), LK2.di⟩
      · exact ⟨_, .base (.lst ((off _ p6).trans g6)), LK2.li⟩
      · exact ⟨_, .base (.tup ((off _ p7).trans g7)), LK.tu⟩
    refine ⟨r0.x, u, r0.z, r0.k, _, _, _, rfl, lv0, .inr ⟨odd, fun H'' s'' => ?_⟩⟩
    refine ⟨false, false, rfl, rfl, ?_⟩
    exact kq H''
end
end K02

set_option Elab.async false
set_option linter.all false
set_option maxRecDepth 100000
set_option maxHeartbeats 5000000
namespace K02
open PySem L2
/-- a def of the text as the top has left it -/
def DefPack (K : PySem.W.Frag) (x : Str) (st : Stmt) (ps : List Str) : Prop := ∃ (f : Addr) (fd : FuncData), PySem.W.nsIn K mainGlobals x = some (some (.ref f)) ∧ Fun K x x st f fd ∧ Binds K fd ps []
theorem DefPack.fn {K : PySem.W.Frag} {h : Heap} {mg : Str → Option Value} {x : Str} {st : Stmt} {ps : List Str} (X : K.In h) (G : h.Ns mainGlobals mg) (d : DefPack K x st ps) : ∃ f fd, Fn K mg x st ps f fd := by
  obtain ⟨f, fd, a, F, b⟩ := d
  exact ⟨f, fd, F, b, PySem.W.mg_of X G a⟩
theorem def_mk {K : PySem.W.Frag} {x : Str} {st : Stmt} {ps : List Str} {f : Addr} {oc : Value} {od an : Option Addr} {osl : Array (Option Value)} {kV doc pm cdv ct : Value} (a : PySem.W.nsIn K mainGlobals x = some (some (.ref f)))
    (l : K.lookup f = some ⟨oc, od, .func (PySem.W.fnOf x x (defArgs st) (defBody st) (defScope st) .none kV doc pm an cdv ct), osl⟩) (c : PySem.W.codeIn K cdv x = true) (k : PySem.W.keepIn K (.ref f) = true)
    (h : ∀ (kV doc pm : Value) (an : Option Addr) (cdv ct : Value) (us : List Value), us.length = ps.length → bindArgs (PySem.W.fnOf x x (defArgs st) (defBody st) (defScope st) .none kV doc pm an cdv ct) ⟨us, []⟩ = pure (ps.zip us)) : DefPack K x st ps :=
  ⟨f, _, a, fun_mk l c k, (fun_mk l c k).binds h⟩
/-- an error class of the text as the top has left it -/
structure CF (K : PySem.W.Frag) (CE D : Addr) (nm : Str) : Prop where
  x : ∃ q N bs sn sub ab col dd k0 k1 k2 k3 k5, K.lookup D = some (excClassObj nm q D N bs [.ref CE, .type "ValueError", .type "Exception", .type "BaseException", .type "object"] true sn sub ab col dd k0 k1 k2 k3 k5 "ValueError.__new__")
  sa : PySem.W.findIn K (.ref D) "__setattr__" = some (some (.builtin "object.__setattr__"))
  ga : PySem.W.findIn K (.ref D) "__getattribute__" = some (some (.builtin "BaseException.__getattribute__"))
  gg : PySem.W.findIn K (.ref D) "__getattr__" = some none
  tyC : PySem.W.typeIn K (.ref D) = some (.type "type")
  kC : PySem.W.keepIn K (.ref D) = true
  haC : PySem.W.findIn K (.ref D) "__class__" = some (some (.builtin "object.__class__"))
theorem CF.cls {K : PySem.W.Frag} {CE C : Addr} {nm : Str} (h : CF K CE C nm) : ∃ cd, PySem.W.clsIn K C = some cd ∧ cd.name = nm ∧ cd.mro = [.ref C, .ref CE, .type "ValueError", .type "Exception", .type "BaseException", .type "object"] ∧ cd.hasDict = true := by
  obtain ⟨q, N, bs, sn, sub, ab, col, dd, k0, k1, k2, k3, k5, e⟩ := h.x
  refine ⟨_, by unfold PySem.W.clsIn; rw [e] <;> rfl, rfl, rfl, rfl⟩
theorem CF.ne {K : PySem.W.Frag} {CE C C' : Addr} {nm nm' : Str} (h : CF K CE C nm) (h' : CF K CE C' nm') (hn : nm ≠ nm') : C ≠ C' := fun z => by
  obtain ⟨cd, e, n, _⟩ := h.cls
  obtain ⟨cd', e', n', _⟩ := h'.cls
  rw [z, e'] at e
  cases e
  exact hn (n.symm.trans n')
theorem CF.mro {K : PySem.W.Frag} {CE C : Addr} {nm : Str} (h : CF K CE C nm) (b : Value) : PySem.W.mroIn K C b = some ([Value.ref C, .ref CE, .type "ValueError", .type "Exception", .type "BaseException", .type "object"].contains b) := by
  obtain ⟨cd, e, _, m, _⟩ := h.cls
  unfold PySem.W.mroIn
  rw [e, Option.bind_some, m]
  rfl
theorem CF.kitR {K : PySem.W.Frag} {CE C C' : Addr} {nm nm' : Str} (h : CF K CE C nm) (h' : CF K CE C' nm') : PySem.W.kitOne K (.ref C) (.ref C') = some (decide (C = C') || decide (C' = CE)) := by
  unfold PySem.W.kitOne
  by_cases e : C = C'
  · subst e
    rw [if_pos (beq_self_eq_true _), decide_eq_true rfl]
    rfl
  · have hbf : (Value.ref C == Value.ref C') = false := beq_eq_false_iff_ne.mpr fun z => e (Value.ref.inj z)
    rw [hbf, if_neg Bool.false_ne_true]
    obtain ⟨cd, ec, _⟩ := h'.cls
    show (if ((PySem.W.clsIn K C').isSome && PySem.W.typeIn K (.ref C') == some (.type "type")) = true then PySem.W.subIn K (.ref C) (.ref C') else none) = _
    rw [ec, h'.tyC, if_pos (by rfl)]
    show PySem.W.mroIn K C (.ref C') = _
    rw [h.mro]
    have e2 : ¬ C' = C := fun z => e z.symm
    by_cases e3 : C' = CE
    · subst e3; simp
    · simp [e, e2, e3]

theorem CF.errC {K : PySem.W.Frag} {CE C : Addr} {nm : Str} (h : CF K CE C nm) (hn : PySem.W.specialIn K (.builtin "object.__class__") "__get__" = some (some (.builtin "getset_descriptor.__get__"))) (ht : PySem.W.takesIn K (.builtin "object.__class__") = some true) : ErrC K C := by
  have exC : PySem.W.subIn K (.ref C) (.type "BaseException") = some true := (h.mro _).trans (by simp)
  have hd : PySem.W.hasDictIn K C = true := by
    obtain ⟨cd, e, _, _, d⟩ := h.cls
    unfold PySem.W.hasDictIn
    rw [e]
    exact d
  obtain ⟨q, N, bs, sn, sub, ab, col, dd, k0, k1, k2, k3, k5, e⟩ := h.x
  exact ⟨⟨⟨nm, q, N, bs, _, sn, sub, ab, col, dd, k0, k1, k2, k3, k5, e, (show PySem.HandSPX.refsVE [.type "ValueError", .type "Exception", .type "BaseException", .type "object"] = true by decide +kernel)⟩, h.sa, exC, h.tyC, h.kC⟩, ⟨h.ga, h.gg, exC, hd⟩, h.haC, ⟨hn, ht⟩, (h.mro _).trans (by simp)⟩

def ClsPack (K : PySem.W.Frag) (CE : Addr) (nm qual : Str) (st : Stmt) (ps : List Str) (fs : Option Str) : Prop := ∃ (C fI : Addr) (fd : FuncData), PySem.W.nsIn K mainGlobals nm = some (some (.ref C)) ∧ CF K CE C nm ∧ Fun K "__init__" qual st fI fd ∧ Binds K fd ps [] ∧
  PySem.W.findIn K (.ref C) "__init__" = some (some (.ref fI)) ∧ PySem.W.typeIn K (.ref fI) = some (.type "function") ∧ ∀ f, fs = some f → PySem.W.findIn K (.ref C) f = some none
theorem cls_mk {K : PySem.W.Frag} {CE C fI : Addr} {nm qual : Str} {st : Stmt} {ps : List Str} {fs : Option Str} {q : Str} {N : Addr} {bs : List Value} {sn : List Str} {sub : List Value} {ab : Bool} {col : Option Bool} {dd : Option Addr} {k0 k1 k2 k3 k5 : Option Value}
    {oc : Value} {od an : Option Addr} {osl : Array (Option Value)} {kV doc pm cdv ct : Value} (a : PySem.W.nsIn K mainGlobals nm = some (some (.ref C)))
    (x : K.lookup C = some (excClassObj nm q C N bs [.ref CE, .type "ValueError", .type "Exception", .type "BaseException", .type "object"] true sn sub ab col dd k0 k1 k2 k3 k5 "ValueError.__new__"))
    (sa : PySem.W.findIn K (.ref C) "__setattr__" = some (some (.builtin "object.__setattr__"))) (ga : PySem.W.findIn K (.ref C) "__getattribute__" = some (some (.builtin "BaseException.__getattribute__"))) (gg : PySem.W.findIn K (.ref C) "__getattr__" = some none)
    (ty : PySem.W.typeIn K (.ref C) = some (.type "type")) (kC : PySem.W.keepIn K (.ref C) = true) (ha : PySem.W.findIn K (.ref C) "__class__" = some (some (.builtin "object.__class__")))
    (i : PySem.W.findIn K (.ref C) "__init__" = some (some (.ref fI))) (t : PySem.W.typeIn K (.ref fI) = some (.type "function"))
    (l : K.lookup fI = some ⟨oc, od, .func (PySem.W.fnOf "__init__" qual (defArgs st) (defBody st) (defScope st) .none kV doc pm an cdv ct), osl⟩) (c : PySem.W.codeIn K cdv qual = true) (k : PySem.W.keepIn K (.ref fI) = true)
    (h : ∀ (kV doc pm : Value) (an : Option Addr) (cdv ct : Value) (us : List Value), us.length = ps.length → bindArgs (PySem.W.fnOf "__init__" qual (defArgs st) (defBody st) (defScope st) .none kV doc pm an cdv ct) ⟨us, []⟩ = pure (ps.zip us))
    (nf : ∀ f, fs = some f → PySem.W.findIn K (.ref C) f = some none) : ClsPack K CE nm qual st ps fs :=
  ⟨C, fI, _, a, ⟨⟨q, N, bs, sn, sub, ab, col, dd, k0, k1, k2, k3, k5, x⟩, sa, ga, gg, ty, kC, ha⟩, fun_mk l c k, (fun_mk l c k).binds h, i, t, nf⟩
/-- a method as the top has left it -/
def MethPack (K : PySem.W.Frag) (C : Addr) (nm qual : Str) (st : Stmt) (ps : List Str) : Prop := ∃ (f : Addr) (fd : FuncData), PySem.W.findIn K (.ref C) nm = some (some (.ref f)) ∧ PySem.W.isFn K (.ref f) = true ∧ PySem.W.keepIn K (.ref f) = true ∧ Fun K nm qual st f fd ∧ Binds K fd ps []
theorem meth_mk {K : PySem.W.Frag} {C f : Addr} {nm qual : Str} {st : Stmt} {ps : List Str} {oc : Value} {od an : Option Addr} {osl : Array (Option Value)} {kV doc pm cdv ct : Value}
    (i : PySem.W.findIn K (.ref C) nm = some (some (.ref f))) (n : PySem.W.isFn K (.ref f) = true) (l : K.lookup f = some ⟨oc, od, .func (PySem.W.fnOf nm qual (defArgs st) (defBody st) (defScope st) .none kV doc pm an cdv ct), osl⟩) (c : PySem.W.codeIn K cdv qual = true) (k : PySem.W.keepIn K (.ref f) = true)
    (h : ∀ (kV doc pm : Value) (an : Option Addr) (cdv ct : Value) (us : List Value), us.length = ps.length → bindArgs (PySem.W.fnOf nm qual (defArgs st) (defBody st) (defScope st) .none kV doc pm an cdv ct) ⟨us, []⟩ = pure (ps.zip us)) : MethPack K C nm qual st ps :=
  ⟨f, _, i, n, k, fun_mk l c k, (fun_mk l c k).binds h⟩
/-- Sums as the top has left it -/
structure SumsPack (K : PySem.W.Frag) (CS : Addr) : Prop where
  a : PySem.W.nsIn K mainGlobals "Sums" = some (some (.ref CS))
  cl : Cls K CS
  nL : NoAttr K CS "_least"
  nS : NoAttr K CS "step"
  nM : NoAttr K CS "makers"
  nF : NoAttr K CS "far"
  mks : PySem.W.makesIn K CS = true
  kc : PySem.W.keepIn K (.ref CS) = true
  m0 : MethPack K CS "__init__" "Sums.__init__" sSInit ["self", "numbers"]
  m1 : MethPack K CS "has" "Sums.has" sSHas ["self", "number"]
  m2 : MethPack K CS "_widen" "Sums._widen" sSWiden ["self", "maker"]
  m3 : MethPack K CS "_go_round" "Sums._go_round" sSRound ["self", "start", "maker", "length"]
theorem sums_mk {K : PySem.W.Frag} {CS : Addr} (a : PySem.W.nsIn K mainGlobals "Sums" = some (some (.ref CS))) (pg : PySem.W.plainGet K CS Str.empty = true) (hd : PySem.W.hasDictIn K CS = true) (po : PySem.W.plainOver K CS = true) (sa : PySem.W.findIn K (.ref CS) "__setattr__" = some (some (.builtin "object.__setattr__")))
    (n1 : PySem.W.findIn K (.ref CS) "_least" = some none) (n2 : PySem.W.findIn K (.ref CS) "step" = some none) (n3 : PySem.W.findIn K (.ref CS) "makers" = some none) (n4 : PySem.W.findIn K (.ref CS) "far" = some none) (mk : PySem.W.makesIn K CS = true) (kc : PySem.W.keepIn K (.ref CS) = true)
    (m0 : MethPack K CS "__init__" "Sums.__init__" sSInit ["self", "numbers"]) (m1 : MethPack K CS "has" "Sums.has" sSHas ["self", "number"]) (m2 : MethPack K CS "_widen" "Sums._widen" sSWiden ["self", "maker"]) (m3 : MethPack K CS "_go_round" "Sums._go_round" sSRound ["self", "start", "maker", "length"]) : ∃ CS, SumsPack K CS :=
  ⟨CS, a, ⟨pg, hd, po, sa⟩, n1, n2, n3, n4, mk, kc, m0, m1, m2, m3⟩
/-- Lot as the top has left it -/
structure LotPack (K : PySem.W.Frag) (CL aW : Addr) : Prop where
  aL : PySem.W.nsIn K mainGlobals "Lot" = some (some (.ref CL))
  cl : Cls K CL
  nW : NoAttr K CL "word"
  nM : NoAttr K CL "makers"
  nS : NoAttr K CL "_sums"
  aWn : PySem.W.nsIn K mainGlobals "WORDS" = some (some (.ref aW))
  words : ∀ H : Hp, SqT K H aW [.str "once", .str "loan", .str "free", .str "more"]
  ha : PySem.W.findIn K (.ref CL) "__class__" = some (some (.builtin "object.__class__"))
  ty : PySem.W.typeIn K (.ref CL) = some (.type "type")
  ne : PySem.W.findIn K (.ref CL) "__ne__" = some (some (.builtin "object.__ne__"))
  hm : PySem.W.mroIn K CL (.type "object") = some true
  hS : PySem.W.mroIn K CL (.type "str") = some false
  hT : PySem.W.mroIn K CL (.type "tuple") = some false
  hN : PySem.W.mroIn K CL (.type "NoneType") = some false
  mks : PySem.W.makesIn K CL = true
  kc : PySem.W.keepIn K (.ref CL) = true
  m0 : MethPack K CL "__init__" "Lot.__init__" sLInit ["self", "word", "makers"]
  m1 : MethPack K CL "_take" "Lot._take" sTake ["self", "sums"]
  m2 : MethPack K CL "__eq__" "Lot.__eq__" sLEq ["self", "other"]
  m3 : MethPack K CL "has" "Lot.has" sLHas ["self", "number"]
theorem lot_mk {K : PySem.W.Frag} {CL aW : Addr} {dW : Option Addr} {nW : Nat} {slW : Array (Option Value)} {u1 u2 u3 u4 : Tok}
    (aL : PySem.W.nsIn K mainGlobals "Lot" = some (some (.ref CL))) (pg : PySem.W.plainGet K CL Str.empty = true) (hd : PySem.W.hasDictIn K CL = true) (po : PySem.W.plainOver K CL = true) (sa : PySem.W.findIn K (.ref CL) "__setattr__" = some (some (.builtin "object.__setattr__")))
    (n1 : PySem.W.findIn K (.ref CL) "word" = some none) (n2 : PySem.W.findIn K (.ref CL) "makers" = some none) (n3 : PySem.W.findIn K (.ref CL) "_sums" = some none)
    (aw : PySem.W.nsIn K mainGlobals "WORDS" = some (some (.ref aW))) (lw : K.lookup aW = some ⟨.type "tuple", dW, .seq #[.str "once" u1, .str "loan" u2, .str "free" u3, .str "more" u4] nW, slW⟩)
    (ha : PySem.W.findIn K (.ref CL) "__class__" = some (some (.builtin "object.__class__"))) (ty : PySem.W.typeIn K (.ref CL) = some (.type "type")) (ne : PySem.W.findIn K (.ref CL) "__ne__" = some (some (.builtin "object.__ne__")))
    (hm : PySem.W.mroIn K CL (.type "object") = some true) (hS : PySem.W.mroIn K CL (.type "str") = some false) (hT : PySem.W.mroIn K CL (.type "tuple") = some false) (hN : PySem.W.mroIn K CL (.type "NoneType") = some false) (mk : PySem.W.makesIn K CL = true) (kc : PySem.W.keepIn K (.ref CL) = true)
    (m0 : MethPack K CL "__init__" "Lot.__init__" sLInit ["self", "word", "makers"]) (m1 : MethPack K CL "_take" "Lot._take" sTake ["self", "sums"]) (m2 : MethPack K CL "__eq__" "Lot.__eq__" sLEq ["self", "other"]) (m3 : MethPack K CL "has" "Lot.has" sLHas ["self", "number"]) :
    ∃ CL aW, LotPack K CL aW :=
  ⟨CL, aW, aL, ⟨pg, hd, po, sa⟩, n1, n2, n3, aw, fun H => .inr ⟨⟨.type "tuple", dW, .seq #[.str "once" u1, .str "loan" u2, .str "free" u3, .str "more" u4] nW, slW⟩, _, nW, lw, rfl, rfl, (by show 4 ≤ sizeLine; decide), .cons ⟨_, rfl⟩ (.cons ⟨_, rfl⟩ (.cons ⟨_, rfl⟩ (.cons ⟨_, rfl⟩ .nil)))⟩, ha, ty, ne, hm, hS, hT, hN, mk, kc, m0, m1, m2, m3⟩
theorem kit_cls_no {K : PySem.W.Frag} {CL : Addr} {T : String} (hd : PySem.W.hasDictIn K CL = true) (ty : PySem.W.typeIn K (.ref CL) = some (.type "type")) (sub : PySem.W.subIn K (.type T) (.ref CL) = some false) : PySem.W.kitOne K (.type T) (.ref CL) = some false := by
  unfold PySem.W.kitOne
  rw [show (Value.type T == Value.ref CL) = false from rfl, if_neg Bool.false_ne_true]
  obtain ⟨cd, hc, _⟩ := PySem.W.any_some hd
  show (if ((PySem.W.clsIn K CL).isSome && PySem.W.typeIn K (.ref CL) == some (.type "type")) = true then PySem.W.subIn K (.type T) (.ref CL) else none) = _
  rw [hc, ty, if_pos (by rfl)]
  exact sub
def LawPack (K : PySem.W.Frag) : Prop := ∃ (f : Addr) (fd : FuncData), PySem.W.nsIn K mainGlobals "law" = some (some (.ref f)) ∧ Fun K "law" "law" sLaw f fd ∧ Binds K fd ["_law_script"] [] ∧ ∀ (s : Shared) (v : Value), BindsTo s fd ⟨[v], []⟩ [("_law_script", v)]
theorem law_mk {K : PySem.W.Frag} {f : Addr} {oc : Value} {od an : Option Addr} {osl : Array (Option Value)} {kV doc pm cdv ct : Value} (a : PySem.W.nsIn K mainGlobals "law" = some (some (.ref f)))
    (l : K.lookup f = some ⟨oc, od, .func (PySem.W.fnOf "law" "law" (defArgs sLaw) (defBody sLaw) (defScope sLaw) .none kV doc pm an cdv ct), osl⟩) (c : PySem.W.codeIn K cdv "law" = true) (k : PySem.W.keepIn K (.ref f) = true) : LawPack K :=
  ⟨f, _, a, fun_mk l c k, (fun_mk l c k).binds (fun _ _ _ _ _ _ us hl => match us, hl with | [_], _ => rfl), fun s v => .of_eq rfl⟩
theorem all_mk {l : PySem.W.OpenLaw} {w : World} {K : PySem.W.Frag} {h : Heap} {mg : Str → Option Value} {fa CE : Addr} {v0 v1 v2 : Tok} (X : K.In h) (G : h.Ns mainGlobals mg) (hfa : mg "law" = some (.ref fa))
    {q : Str} {N : Addr} {bs : List Value} {sn : List Str} {sub : List Value} {ab : Bool} {col : Option Bool} {dd : Option Addr} {m0 m1 m2 m3 m5 : Option Value}
    (aE : PySem.W.nsIn K mainGlobals "CountsError" = some (some (.ref CE)))
    (xE : K.lookup CE = some (excClassObj "CountsError" q CE N bs [.type "ValueError", .type "Exception", .type "BaseException", .type "object"] true sn sub ab col dd m0 m1 m2 m3 m5 "ValueError.__new__"))
    (tE : PySem.W.typeIn K (.ref CE) = some (.type "type")) (sE : PySem.W.subIn K (.ref CE) (.type "BaseException") = some true) (hE : PySem.W.hasDictIn K CE = true)
    (hn : PySem.W.specialIn K (.builtin "object.__class__") "__get__" = some (some (.builtin "getset_descriptor.__get__"))) (ht : PySem.W.takesIn K (.builtin "object.__class__") = some true) (pB : ClsPack K CE "BadLot" "BadLot.__init__" sBadInit ["self", "part"] (some "part"))
    (gg : PySem.W.nsIn K mainGlobals "gcd" = some (some (.builtin "math.gcd"))) (gl : PySem.W.nsIn K mainGlobals "lcm" = some (some (.builtin "math.lcm")))
    (c0 : PySem.W.nsIn K mainGlobals "MOST_MAKERS" = some (some (.int 4 v0)))
    (c1 : PySem.W.nsIn K mainGlobals "GREATEST_MAKER" = some (some (.int 12 v1)))
    (c2 : PySem.W.nsIn K mainGlobals "GREATEST_NUMBER" = some (some (.int 10000 v2)))
    (d0 : DefPack K "_law_hand" sHand ["_law_script"])
    (d1 : DefPack K "_law_draw" sDraw ["_law_hand_here", "_law_many"])
    (d2 : DefPack K "_law_some" sSome ["_law_hand_here", "_law_things"])
    (d3 : DefPack K "_law_is" sIs ["_law_told", "_law_due"])
    (d4 : DefPack K "_law_deep" sDeep ["_law_kind"])
    (d5 : DefPack K "_law_flag" sFlag ["_law_told", "_law_due"])
    (d6 : DefPack K "_law_sums" sSums ["_law_makers", "_law_most"])
    (d7 : DefPack K "_law_told_numbers" sTold ["_law_spec", "_law_most"])
    (d8 : DefPack K "_law_least_makers" sLeast ["_law_flags"])
    (d9 : DefPack K "_law_lot_spec" sSpec ["_law_hand_here"])
    (d10 : DefPack K "_law_lot" sLot ["_law_spec"])
    (d11 : DefPack K "_law_due_common" sDueCm ["_law_one", "_law_other"])
    (d12 : DefPack K "_law_due_around" sDueAr ["_law_one", "_law_other"])
    (d13 : DefPack K "_law_of_numbers" sOfN ["_law_flags"])
    (d14 : DefPack K "_law_is_as" sIsAs ["_law_lot_here", "_law_spec"])
    (d15 : DefPack K "_law_lies" sLies ["_law_one", "_law_other"])
    (d16 : DefPack K "_law_deeper_right" sDeeper ["_law_lot_here", "_law_spec", "_law_other", "_law_more"])
    (d17 : DefPack K "is_integer" sInteger ["thing"])
    (d18 : DefPack K "is_integer_within" sWithin ["low", "high", "thing"])
    (d19 : DefPack K "_lesser" sLesser ["total", "other"])
    (d20 : DefPack K "_is_makers" sMk ["word", "thing"])
    (d21 : DefPack K "holds" sHolds ["lot", "number"])
    (d22 : DefPack K "shared_sums" sShared ["sums", "others"])
    (d23 : DefPack K "_more" sMore ["sums"])
    (d24 : DefPack K "is_within" sWithinL ["lot", "thing"])
    (d25 : DefPack K "common" sCommon ["lot", "other"])
    (d26 : DefPack K "around" sAround ["lot", "other"])
    (pS : ∃ CS, SumsPack K CS) (pL : ∃ CL aW, LotPack K CL aW) (pW : LawPack K)
    (z0 : PySem.W.nsIn K mainGlobals "abs" = some none) (z1 : PySem.W.nsIn K mainGlobals "int" = some none) (z2 : PySem.W.nsIn K mainGlobals "len" = some none) (z3 : PySem.W.nsIn K mainGlobals "isinstance" = some none) (z4 : PySem.W.nsIn K mainGlobals "all" = some none) (z5 : PySem.W.nsIn K mainGlobals "range" = some none) (z6 : PySem.W.nsIn K mainGlobals "tuple" = some none) (z7 : PySem.W.nsIn K mainGlobals "list" = some none) (z8 : PySem.W.nsIn K mainGlobals "dict" = some none) (z9 : PySem.W.nsIn K mainGlobals "bool" = some none) (z10 : PySem.W.nsIn K mainGlobals "str" = some none) (z11 : PySem.W.nsIn K mainGlobals "sorted" = some none) (z12 : PySem.W.nsIn K mainGlobals "max" = some none) (z13 : PySem.W.nsIn K mainGlobals "any" = some none) (z14 : PySem.W.nsIn K mainGlobals "zip" = some none) :
    ∃ fd : FuncData, (∀ (s : Shared) (v : Value), BindsTo s fd ⟨[v], []⟩ [("_law_script", v)]) ∧ ∀ base : Heap, K.In base → base.Ns mainGlobals mg → FnOk l.prog w K mg base CX0 12 fa fd ["_law_script"] (spLaw K) := by
  obtain ⟨fw, fdw, aw, Fw, bb, bw⟩ := pW
  have e := hfa.symm.trans (PySem.W.mg_of X G aw)
  cases e
  obtain ⟨CB, fB, fdB, aB, cB, FB, bB, iB, tB, nB⟩ := pB
  obtain ⟨g0, gd0, D0⟩ := d0.fn X G
  obtain ⟨g1, gd1, D1⟩ := d1.fn X G
  obtain ⟨g2, gd2, D2⟩ := d2.fn X G
  obtain ⟨g3, gd3, D3⟩ := d3.fn X G
  obtain ⟨g4, gd4, D4⟩ := d4.fn X G
  obtain ⟨g5, gd5, D5⟩ := d5.fn X G
  obtain ⟨g6, gd6, D6⟩ := d6.fn X G
  obtain ⟨g7, gd7, D7⟩ := d7.fn X G
  obtain ⟨g8, gd8, D8⟩ := d8.fn X G
  obtain ⟨g9, gd9, D9⟩ := d9.fn X G
  obtain ⟨g10, gd10, D10⟩ := d10.fn X G
  obtain ⟨g11, gd11, D11⟩ := d11.fn X G
  obtain ⟨g12, gd12, D12⟩ := d12.fn X G
  obtain ⟨g13, gd13, D13⟩ := d13.fn X G
  obtain ⟨g14, gd14, D14⟩ := d14.fn X G
  obtain ⟨g15, gd15, D15⟩ := d15.fn X G
  obtain ⟨g16, gd16, D16⟩ := d16.fn X G
  obtain ⟨g17, gd17, D17⟩ := d17.fn X G
  obtain ⟨g18, gd18, D18⟩ := d18.fn X G
  obtain ⟨g19, gd19, D19⟩ := d19.fn X G
  obtain ⟨g20, gd20, D20⟩ := d20.fn X G
  obtain ⟨g21, gd21, D21⟩ := d21.fn X G
  obtain ⟨g22, gd22, D22⟩ := d22.fn X G
  obtain ⟨g23, gd23, D23⟩ := d23.fn X G
  obtain ⟨g24, gd24, D24⟩ := d24.fn X G
  obtain ⟨g25, gd25, D25⟩ := d25.fn X G
  obtain ⟨g26, gd26, D26⟩ := d26.fn X G
  obtain ⟨CS, SP⟩ := pS
  obtain ⟨CL, aW, LP⟩ := pL
  obtain ⟨fS, fdS, iS, nS, kS, FS, bS⟩ := SP.m0
  obtain ⟨fH, fdH, iH, nH, kH, FH, bH⟩ := SP.m1
  obtain ⟨fW, fdW, iW, nW, kW, FW, bW⟩ := SP.m2
  obtain ⟨fR, fdR, iR, nR, kR, FR, bR⟩ := SP.m3
  obtain ⟨fI, fdI, iI, nI', kI, FI, bI⟩ := LP.m0
  obtain ⟨fT, fdT, iT, nT, kT, FT, bT⟩ := LP.m1
  obtain ⟨fE, fdE, iE, nE, kE, FE, bE⟩ := LP.m2
  obtain ⟨fLH, fdLH, iLH, nLH, kLH, FLH, bLH⟩ := LP.m3
  have hCE : CB ≠ CE := fun z => by
    obtain ⟨cd, e, nm, _⟩ := cB.cls
    unfold PySem.W.clsIn at e
    rw [z, xE] at e
    cases e
    exact absurd (show ("CountsError" : Str) = "BadLot" from nm) (by decide +kernel)
  have T : TxB mg := ⟨PySem.W.mg_none_of X G z0, PySem.W.mg_none_of X G z1, PySem.W.mg_none_of X G z2, PySem.W.mg_none_of X G z3, PySem.W.mg_none_of X G z4, PySem.W.mg_none_of X G z5⟩
  have T2 : TxD mg := ⟨PySem.W.mg_none_of X G z6, PySem.W.mg_none_of X G z7, PySem.W.mg_none_of X G z8, PySem.W.mg_none_of X G z9, PySem.W.mg_none_of X G z10, PySem.W.mg_none_of X G z11, PySem.W.mg_none_of X G z12, PySem.W.mg_none_of X G z13, PySem.W.mg_of X G gg⟩
  have TN : TxN mg := ⟨⟨_, PySem.W.mg_of X G c0⟩, ⟨_, PySem.W.mg_of X G c1⟩, ⟨_, PySem.W.mg_of X G c2⟩⟩
  have B : BadT K mg CB fB fdB := { err := cB.errC hn ht, no := nB _ rfl, m := PySem.W.mg_of X G aB, F := FB, b := bB, i := iB, t := tB }
  have Lo : LotT K mg CL aW fE := { cl := LP.cl, nW := LP.nW, nM := LP.nM, nS := LP.nS, mgL := PySem.W.mg_of X G LP.aL, mgW := PySem.W.mg_of X G LP.aWn, words := LP.words, ha := LP.ha, cg := hn, cTk := ht, ow := ⟨iE, nE, LP.ne, LP.hm, LP.hS, LP.hT, LP.hN⟩ }
  have LK : LotK K CL := { me := by unfold PySem.W.kitOne; rw [if_pos (beq_self_eq_true _)], st := kit_cls_no LP.cl.hd LP.ty (by rfl), tu := kit_cls_no LP.cl.hd LP.ty (by rfl), no := kit_cls_no LP.cl.hd LP.ty (by rfl) }
  have LK2 : LotK2 K CL := { it := kit_cls_no LP.cl.hd LP.ty (by rfl), li := kit_cls_no LP.cl.hd LP.ty (by rfl), di := kit_cls_no LP.cl.hd LP.ty (by rfl) }
  have Z : TxZ mg := ⟨PySem.W.mg_none_of X G z14⟩
  have LF : LotF K mg CL fI fdI := { M := ⟨LP.mks, iI, nI', LP.kc⟩, b := bI }
  have ST : SumT K CS := { cl := SP.cl, nL := SP.nL, nS := SP.nS, nM := SP.nM, nF := SP.nF }
  have SF : SumsF K mg CS fS fH fW fR fdS fdH fdW fdR := { M := ⟨SP.mks, iS, nS, SP.kc⟩, m := PySem.W.mg_of X G SP.a, F := FS, b := bS, FH := FH, bH := bH, mH := ⟨iH, nH, kH⟩, FW := FW, bW := bW, mW := ⟨iW, nW, kW⟩, FR := FR, bR := bR, mR := ⟨iR, nR, kR⟩, S := ST }
  refine ⟨fdw, bw, fun base _ _ => ?_⟩
  have GI : FnOk l.prog w K mg base (L2.CX l.prog w) 6 fI fdI ["self", "word", "makers"] (spLInit K CL CS CB) := ok_linit FI T T2 TN Lo D20 D18 D17 FT bT ⟨iT, nT, kT⟩ SF D19 B
  have GSI : FnOk l.prog w K mg base CX0 4 fS fdS ["self", "numbers"] (spSInit K CS) := ok_sinit SF.F SF.FH SF.bH SF.mH SF.FW SF.bW SF.mW SF.FR SF.bR SF.mR D19 T T2 SF.S
  have GMo := ok_more (base := base) (w := w) D23 GI Lo LF FT bT ⟨iT, nT, kT⟩ ST
  have GSh := ok_shared (base := base) (w := w) D22 SF GSI T T2 (PySem.W.mg_of X G gl)
  have GE := ok_leq (P := l.prog) (base := base) (w := w) (CS := CS) FE T Lo LK
  have GC := ok_cm (base := base) (w := w) D25 D23 GMo D22 GSh GI Lo LF GE bE
  have GA := ok_ar (base := base) (w := w) D26 D23 GMo SF GSI GI Lo LF GE bE
  have GW := ok_wt (base := base) (w := w) D24 D26 GA T Lo LK GE bE
  have GLo := ok_lot (base := base) (w := w) D10 GI Lo LF
  have GT := ok_toldN (P := l.prog) (base := base) (w := w) D7 D6 T T2
  have GFl := ok_flag (P := l.prog) (base := base) (w := w) D5 T T2
  have GHo := ok_holds (P := l.prog) (base := base) (w := w) D21 D18 D17 FLH bLH ⟨iLH, nLH, kLH⟩ FH bH ⟨iH, nH, kH⟩ T T2 TN Lo ST
  have GO := ok_ofn (P := l.prog) (base := base) (w := w) D13 D8 T T2
  have GDC := ok_dueCm (P := l.prog) (base := base) (w := w) D11 D13 GO D7 GT Z
  have GDA := ok_dueAr (P := l.prog) (base := base) (w := w) D12
  have GLi := ok_lies (P := l.prog) (base := base) (w := w) D15 D7 GT T Z
  have GIA := ok_isAs (P := l.prog) (base := base) (w := w) D14 D8 D7 GT D3 D5 D21 GHo Lo LK T T2
  have GDe := ok_deeper (base := base) (w := w) D16 D7 GT D25 GC D26 GA D24 GW D5 D21 GHo D14 GIA D12 GDA GE bE Lo T T2 Z
  exact ok_law ⟨Fw, bb, hfa⟩ T T2 Lo LK LK2 D0 (ok_hand D0.F T) D2 (ok_some D2.F T D1.F D1.b D1.m) D9 (ok_spec D9 D1 D2 T T2) D10 GLo D25 GC D26 GA D24 GW
    D14 GIA D11 GDC D12 GDA D15 GLi D5 GFl D16 GDe D4 (ok_deep D4 T) GE bE
theorem walk {l : PySem.W.OpenLaw} {q : Program} {loose : List Str} {XP : (Str → Option Value) → Heap → Prop} {YP : World → Heap → Prop} {d : DefRec} {K : Params → PySem.W.Frag} (hn : l.most = some 63) (hdf : d.params.defaults = [])
    (hY : ∀ (w : World) (h : Heap), YP w h → (K w.params).In h)
    (F : ∀ (w : World) (mg : Str → Option Value) (fa : Addr) (h : Heap), (K w.params).In h → h.Ns mainGlobals mg → mg d.name = some (.ref fa) →
      ∃ fd : FuncData, (∀ (s : Shared) (u : Value), BindsTo s fd ⟨[u], []⟩ [("_law_script", u)]) ∧ ∀ base : Heap, (K w.params).In base → base.Ns mainGlobals mg → FnOk l.prog w (K w.params) mg base CX0 12 fa fd ["_law_script"] (spLaw (K w.params))) :
    PySem.W.WalkO q loose XP YP l.row.toRowW d [] (fun f vs => PySem.call f vs) :=
  L2.walk_of (n := 63) (k := 12) (x := "_law_script") (CX := fun _ => CX0) (sp := fun w => spLaw (K w.params)) hn (by decide) hdf ⟨rfl, by decide, by decide⟩ hY F (fun _ _ a ns hl _ hS => ⟨a, ns, rfl, hS, hl, fun _ => rfl⟩) fun _ _ _ _ _ z => z
end K02

open PySem PySem.W PyProof.Rows
set_option Elab.async false
set_option maxRecDepth 100000 in
set_option maxHeartbeats 0 in
theorem PySem.Challenge.cw_usecounts_k02_whole_lots_in_common_and_a_holds : PySem.Challenge.rw_usecounts_k02_whole_lots_in_common_and_a.Holds := by
  w_on; o_law; k_head; (case hw => w_witness2)
  k_fill
  refine K02.walk (l := PySem.Challenge.rw_usecounts_k02_whole_lots_in_common_and_a) rfl rfl (fun w h Y => PySem.W.kIn_of Y) ?F
  case F =>
    intro w mg fa h KX G hmg
    refine' K02.all_mk KX G hmg ?aE ?xE ?tE ?sE ?hE ?hn ?ht ?pB ?gg ?gl ?c0 ?c1 ?c2 ?d0 ?d1 ?d2 ?d3 ?d4 ?d5 ?d6 ?d7 ?d8 ?d9 ?d10 ?d11 ?d12 ?d13 ?d14 ?d15 ?d16 ?d17 ?d18 ?d19 ?d20 ?d21 ?d22 ?d23 ?d24 ?d25 ?d26 ?pS ?pL ?pW ?z0 ?z1 ?z2 ?z3 ?z4 ?z5 ?z6 ?z7 ?z8 ?z9 ?z10 ?z11 ?z12 ?z13 ?z14
    (case aE => k_is)
    (case xE => k_is)
    (case tE => k_is)
    (case sE => k_is)
    (case hE => k_is)
    (case hn => k_is)
    (case ht => k_is)
    (case gg => k_is)
    (case gl => k_is)
    (case c0 => k_is)
    (case c1 => k_is)
    (case c2 => k_is)
    (case pB => (refine' K02.cls_mk ?pBa ?pBx ?pBsa ?pBga ?pBgg ?pBty ?pBkC ?pBha ?pBi ?pBt ?pBl ?pBc ?pBk ?pBh ?pBf; (case pBa => k_is); (case pBx => k_is); (case pBsa => k_is); (case pBga => k_is); (case pBgg => k_is); (case pBty => k_is); (case pBkC => k_is); (case pBha => k_is); (case pBi => k_is); (case pBt => k_is); (case pBl => k_is); (case pBc => k_is); (case pBk => k_is); (case pBh => exact fun _ _ _ _ _ _ us hl => match us, hl with | [_, _], _ => rfl); (case pBf => intro f hf; cases hf; k_is)))
    (case d0 => (refine' K02.def_mk ?d0a ?d0l ?d0c ?d0k ?d0h; (case d0a => k_is); (case d0l => k_is); (case d0c => k_is); (case d0k => k_is); (case d0h => exact fun _ _ _ _ _ _ us hl => match us, hl with | [_], _ => rfl)))
    (case d1 => (refine' K02.def_mk ?d1a ?d1l ?d1c ?d1k ?d1h; (case d1a => k_is); (case d1l => k_is); (case d1c => k_is); (case d1k => k_is); (case d1h => exact fun _ _ _ _ _ _ us hl => match us, hl with | [_, _], _ => rfl)))
    (case d2 => (refine' K02.def_mk ?d2a ?d2l ?d2c ?d2k ?d2h; (case d2a => k_is); (case d2l => k_is); (case d2c => k_is); (case d2k => k_is); (case d2h => exact fun _ _ _ _ _ _ us hl => match us, hl with | [_, _], _ => rfl)))
    (case d3 => (refine' K02.def_mk ?d3a ?d3l ?d3c ?d3k ?d3h; (case d3a => k_is); (case d3l => k_is); (case d3c => k_is); (case d3k => k_is); (case d3h => exact fun _ _ _ _ _ _ us hl => match us, hl with | [_, _], _ => rfl)))
    (case d4 => (refine' K02.def_mk ?d4a ?d4l ?d4c ?d4k ?d4h; (case d4a => k_is); (case d4l => k_is); (case d4c => k_is); (case d4k => k_is); (case d4h => exact fun _ _ _ _ _ _ us hl => match us, hl with | [_], _ => rfl)))
    (case d5 => (refine' K02.def_mk ?d5a ?d5l ?d5c ?d5k ?d5h; (case d5a => k_is); (case d5l => k_is); (case d5c => k_is); (case d5k => k_is); (case d5h => exact fun _ _ _ _ _ _ us hl => match us, hl with | [_, _], _ => rfl)))
    (case d6 => (refine' K02.def_mk ?d6a ?d6l ?d6c ?d6k ?d6h; (case d6a => k_is); (case d6l => k_is); (case d6c => k_is); (case d6k => k_is); (case d6h => exact fun _ _ _ _ _ _ us hl => match us, hl with | [_, _], _ => rfl)))
    (case d7 => (refine' K02.def_mk ?d7a ?d7l ?d7c ?d7k ?d7h; (case d7a => k_is); (case d7l => k_is); (case d7c => k_is); (case d7k => k_is); (case d7h => exact fun _ _ _ _ _ _ us hl => match us, hl with | [_, _], _ => rfl)))
    (case d8 => (refine' K02.def_mk ?d8a ?d8l ?d8c ?d8k ?d8h; (case d8a => k_is); (case d8l => k_is); (case d8c => k_is); (case d8k => k_is); (case d8h => exact fun _ _ _ _ _ _ us hl => match us, hl with | [_], _ => rfl)))
    (case d9 => (refine' K02.def_mk ?d9a ?d9l ?d9c ?d9k ?d9h; (case d9a => k_is); (case d9l => k_is); (case d9c => k_is); (case d9k => k_is); (case d9h => exact fun _ _ _ _ _ _ us hl => match us, hl with | [_], _ => rfl)))
    (case d10 => (refine' K02.def_mk ?d10a ?d10l ?d10c ?d10k ?d10h; (case d10a => k_is); (case d10l => k_is); (case d10c => k_is); (case d10k => k_is); (case d10h => exact fun _ _ _ _ _ _ us hl => match us, hl with | [_], _ => rfl)))
    (case d11 => (refine' K02.def_mk ?d11a ?d11l ?d11c ?d11k ?d11h; (case d11a => k_is); (case d11l => k_is); (case d11c => k_is); (case d11k => k_is); (case d11h => exact fun _ _ _ _ _ _ us hl => match us, hl with | [_, _], _ => rfl)))
    (case d12 => (refine' K02.def_mk ?d12a ?d12l ?d12c ?d12k ?d12h; (case d12a => k_is); (case d12l => k_is); (case d12c => k_is); (case d12k => k_is); (case d12h => exact fun _ _ _ _ _ _ us hl => match us, hl with | [_, _], _ => rfl)))
    (case d13 => (refine' K02.def_mk ?d13a ?d13l ?d13c ?d13k ?d13h; (case d13a => k_is); (case d13l => k_is); (case d13c => k_is); (case d13k => k_is); (case d13h => exact fun _ _ _ _ _ _ us hl => match us, hl with | [_], _ => rfl)))
    (case d14 => (refine' K02.def_mk ?d14a ?d14l ?d14c ?d14k ?d14h; (case d14a => k_is); (case d14l => k_is); (case d14c => k_is); (case d14k => k_is); (case d14h => exact fun _ _ _ _ _ _ us hl => match us, hl with | [_, _], _ => rfl)))
    (case d15 => (refine' K02.def_mk ?d15a ?d15l ?d15c ?d15k ?d15h; (case d15a => k_is); (case d15l => k_is); (case d15c => k_is); (case d15k => k_is); (case d15h => exact fun _ _ _ _ _ _ us hl => match us, hl with | [_, _], _ => rfl)))
    (case d16 => (refine' K02.def_mk ?d16a ?d16l ?d16c ?d16k ?d16h; (case d16a => k_is); (case d16l => k_is); (case d16c => k_is); (case d16k => k_is); (case d16h => exact fun _ _ _ _ _ _ us hl => match us, hl with | [_, _, _, _], _ => rfl)))
    (case d17 => (refine' K02.def_mk ?d17a ?d17l ?d17c ?d17k ?d17h; (case d17a => k_is); (case d17l => k_is); (case d17c => k_is); (case d17k => k_is); (case d17h => exact fun _ _ _ _ _ _ us hl => match us, hl with | [_], _ => rfl)))
    (case d18 => (refine' K02.def_mk ?d18a ?d18l ?d18c ?d18k ?d18h; (case d18a => k_is); (case d18l => k_is); (case d18c => k_is); (case d18k => k_is); (case d18h => exact fun _ _ _ _ _ _ us hl => match us, hl with | [_, _, _], _ => rfl)))
    (case d19 => (refine' K02.def_mk ?d19a ?d19l ?d19c ?d19k ?d19h; (case d19a => k_is); (case d19l => k_is); (case d19c => k_is); (case d19k => k_is); (case d19h => exact fun _ _ _ _ _ _ us hl => match us, hl with | [_, _], _ => rfl)))
    (case d20 => (refine' K02.def_mk ?d20a ?d20l ?d20c ?d20k ?d20h; (case d20a => k_is); (case d20l => k_is); (case d20c => k_is); (case d20k => k_is); (case d20h => exact fun _ _ _ _ _ _ us hl => match us, hl with | [_, _], _ => rfl)))
    (case d21 => (refine' K02.def_mk ?d21a ?d21l ?d21c ?d21k ?d21h; (case d21a => k_is); (case d21l => k_is); (case d21c => k_is); (case d21k => k_is); (case d21h => exact fun _ _ _ _ _ _ us hl => match us, hl with | [_, _], _ => rfl)))
    (case d22 => (refine' K02.def_mk ?d22a ?d22l ?d22c ?d22k ?d22h; (case d22a => k_is); (case d22l => k_is); (case d22c => k_is); (case d22k => k_is); (case d22h => exact fun _ _ _ _ _ _ us hl => match us, hl with | [_, _], _ => rfl)))
    (case d23 => (refine' K02.def_mk ?d23a ?d23l ?d23c ?d23k ?d23h; (case d23a => k_is); (case d23l => k_is); (case d23c => k_is); (case d23k => k_is); (case d23h => exact fun _ _ _ _ _ _ us hl => match us, hl with | [_], _ => rfl)))
    (case d24 => (refine' K02.def_mk ?d24a ?d24l ?d24c ?d24k ?d24h; (case d24a => k_is); (case d24l => k_is); (case d24c => k_is); (case d24k => k_is); (case d24h => exact fun _ _ _ _ _ _ us hl => match us, hl with | [_, _], _ => rfl)))
    (case d25 => (refine' K02.def_mk ?d25a ?d25l ?d25c ?d25k ?d25h; (case d25a => k_is); (case d25l => k_is); (case d25c => k_is); (case d25k => k_is); (case d25h => exact fun _ _ _ _ _ _ us hl => match us, hl with | [_, _], _ => rfl)))
    (case d26 => (refine' K02.def_mk ?d26a ?d26l ?d26c ?d26k ?d26h; (case d26a => k_is); (case d26l => k_is); (case d26c => k_is); (case d26k => k_is); (case d26h => exact fun _ _ _ _ _ _ us hl => match us, hl with | [_, _], _ => rfl)))
    (case pS => (refine' K02.sums_mk ?pSa ?pSpg ?pShd ?pSpo ?pSsa ?pSn1 ?pSn2 ?pSn3 ?pSn4 ?pSmk ?pSkc ?pSm0 ?pSm1 ?pSm2 ?pSm3; (case pSa => k_is); (case pSpg => k_is); (case pShd => k_is); (case pSpo => k_is); (case pSsa => k_is); (case pSn1 => k_is); (case pSn2 => k_is); (case pSn3 => k_is); (case pSn4 => k_is); (case pSmk => k_is); (case pSkc => k_is); (case pSm0 => (refine' K02.meth_mk ?pSm0i ?pSm0n ?pSm0l ?pSm0c ?pSm0k ?pSm0h; (case pSm0i => k_is); (case pSm0n => k_is); (case pSm0l => k_is); (case pSm0c => k_is); (case pSm0k => k_is); (case pSm0h => exact fun _ _ _ _ _ _ us hl => match us, hl with | [_, _], _ => rfl))); (case pSm1 => (refine' K02.meth_mk ?pSm1i ?pSm1n ?pSm1l ?pSm1c ?pSm1k ?pSm1h; (case pSm1i => k_is); (case pSm1n => k_is); (case pSm1l => k_is); (case pSm1c => k_is); (case pSm1k => k_is); (case pSm1h => exact fun _ _ _ _ _ _ us hl => match us, hl with | [_, _], _ => rfl))); (case pSm2 => (refine' K02.meth_mk ?pSm2i ?pSm2n ?pSm2l ?pSm2c ?pSm2k ?pSm2h; (case pSm2i => k_is); (case pSm2n => k_is); (case pSm2l => k_is); (case pSm2c => k_is); (case pSm2k => k_is); (case pSm2h => exact fun _ _ _ _ _ _ us hl => match us, hl with | [_, _], _ => rfl))); (case pSm3 => (refine' K02.meth_mk ?pSm3i ?pSm3n ?pSm3l ?pSm3c ?pSm3k ?pSm3h; (case pSm3i => k_is); (case pSm3n => k_is); (case pSm3l => k_is); (case pSm3c => k_is); (case pSm3k => k_is); (case pSm3h => exact fun _ _ _ _ _ _ us hl => match us, hl with | [_, _, _, _], _ => rfl)))))
    (case pL => (refine' K02.lot_mk ?pLaL ?pLpg ?pLhd ?pLpo ?pLsa ?pLn1 ?pLn2 ?pLn3 ?pLaw ?pLlw ?pLha ?pLty ?pLne ?pLhm ?pLhS ?pLhT ?pLhN ?pLmk ?pLkc ?pLm0 ?pLm1 ?pLm2 ?pLm3; (case pLaL => k_is); (case pLpg => k_is); (case pLhd => k_is); (case pLpo => k_is); (case pLsa => k_is); (case pLn1 => k_is); (case pLn2 => k_is); (case pLn3 => k_is); (case pLaw => k_is); (case pLlw => k_is); (case pLha => k_is); (case pLty => k_is); (case pLne => k_is); (case pLhm => k_is); (case pLhS => k_is); (case pLhT => k_is); (case pLhN => k_is); (case pLmk => k_is); (case pLkc => k_is); (case pLm0 => (refine' K02.meth_mk ?pLm0i ?pLm0n ?pLm0l ?pLm0c ?pLm0k ?pLm0h; (case pLm0i => k_is); (case pLm0n => k_is); (case pLm0l => k_is); (case pLm0c => k_is); (case pLm0k => k_is); (case pLm0h => exact fun _ _ _ _ _ _ us hl => match us, hl with | [_, _, _], _ => rfl))); (case pLm1 => (refine' K02.meth_mk ?pLm1i ?pLm1n ?pLm1l ?pLm1c ?pLm1k ?pLm1h; (case pLm1i => k_is); (case pLm1n => k_is); (case pLm1l => k_is); (case pLm1c => k_is); (case pLm1k => k_is); (case pLm1h => exact fun _ _ _ _ _ _ us hl => match us, hl with | [_, _], _ => rfl))); (case pLm2 => (refine' K02.meth_mk ?pLm2i ?pLm2n ?pLm2l ?pLm2c ?pLm2k ?pLm2h; (case pLm2i => k_is); (case pLm2n => k_is); (case pLm2l => k_is); (case pLm2c => k_is); (case pLm2k => k_is); (case pLm2h => exact fun _ _ _ _ _ _ us hl => match us, hl with | [_, _], _ => rfl))); (case pLm3 => (refine' K02.meth_mk ?pLm3i ?pLm3n ?pLm3l ?pLm3c ?pLm3k ?pLm3h; (case pLm3i => k_is); (case pLm3n => k_is); (case pLm3l => k_is); (case pLm3c => k_is); (case pLm3k => k_is); (case pLm3h => exact fun _ _ _ _ _ _ us hl => match us, hl with | [_, _], _ => rfl)))))
    (case pW => (refine' K02.law_mk ?pWa ?pWl ?pWc ?pWk; (case pWa => k_is); (case pWl => k_is); (case pWc => k_is); (case pWk => k_is)))
    (case z0 => k_is)
    (case z1 => k_is)
    (case z2 => k_is)
    (case z3 => k_is)
    (case z4 => k_is)
    (case z5 => k_is)
    (case z6 => k_is)
    (case z7 => k_is)
    (case z8 => k_is)
    (case z9 => k_is)
    (case z10 => k_is)
    (case z11 => k_is)
    (case z12 => k_is)
    (case z13 => k_is)
    (case z14 => k_is)
#print axioms PySem.Challenge.cw_usecounts_k02_whole_lots_in_common_and_a_holds
