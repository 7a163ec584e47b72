import PyProof.Rows.All
import Wide.All
import OpenK.AllK
import Wide.FinOn
import HandS.ForMost
import HandS.Exc
import HandS.TryOnly
import HandS.ExcOwn
import HandS.WordsExc
import HandS.IsInst
import HandS.ExcInit
import HandS.DeepEq
import HandS.Evl
import HandS.Walk
import HandS.Text
import HandS.Iter
import HandS.Rev
import HandS.CallLocal
import HandS.RevRange
import HandS.SetKeys
import HandS.Zip0
import PyProof.EnumMake
import HandS.DictComp
import KE.KDictPairs
import HandS.TupAny
import HandS.WordsDict
import HandS.SetFor
import HandS.Conv
import HandS.Style
import PyProof.ListStr
import HandS.Codes
import HandS.Set
import HandS.SetTxt0
import HandS.More
import HandS.Strs
import HandS.Finally
import PySem.Challenge.RW_usecounts_k09_whole_counts_of_names
set_option Elab.async false
set_option maxRecDepth 100000
namespace LG
open PySem L2
def top (i : Nat) : Stmt := PySem.Challenge.pw_usecounts_k09_whole_counts_of_names.main.body.getD i (.Pass ⟨0, 0, 0, 0⟩)
abbrev sHand : Stmt := top 28
abbrev sDraw : Stmt := top 29
abbrev sSome : Stmt := top 30

theorem yes_kept {A B : Hp → Prop} {σ : St} {H : Hp} (h : A H) : tYes σ H (fun b H3 => if b = true then A H3 else B H3) := by
  show (if true = true then A H else B H)
  rw [if_pos rfl]
  exact h
/-- the builtins that the text leaves alone -/
structure TxB (mg : Str → Option Value) : Prop where
  abs : mg "abs" = none
  int : mg "int" = none
  len : mg "len" = none
  isinstance : mg "isinstance" = none
  all : mg "all" = none
  range : mg "range" = none

/-- the hand of draws -/
structure HandAt (H : Hp) (p c : Addr) (cells : List Int) : Prop where
  ob : ∃ i z s n : Int, 0 ≤ i ∧ H p = some (.lst [.ref c, .int i, .int z, .int s, .int n])
  cl : H c = some (.lst (cells.map V.int))
theorem HandAt.ne {H : Hp} {p c : Addr} {cells : List Int} (h : HandAt H p c cells) : p ≠ c := by
  obtain ⟨⟨i, z, s, n, _, e⟩, k⟩ := h
  refine ne_of e k (fun z => ?_)
  cases cells with
  | nil => cases z
  | cons a l => cases z
theorem HandAt.put {H : Hp} {p c : Addr} {cells : List Int} (h : HandAt H p c cells) {i z s n : Int} (hi : 0 ≤ i) : HandAt (upd H p (.lst [.ref c, .int i, .int z, .int s, .int n])) p c cells :=
  ⟨⟨i, z, s, n, hi, upd_same⟩, by rw [upd_ne h.ne.symm]; exact h.cl⟩
theorem HandAt.keep {H H' : Hp} {p c : Addr} {cells : List Int} (h : HandAt H p c cells) (k : ∀ b, b ≠ p → H' b = H b) (e : H' p = H p) : HandAt H' p c cells := by
  obtain ⟨⟨i, z, s, n, hi, q⟩, l⟩ := id h
  exact ⟨⟨i, z, s, n, hi, by rw [e]; exact q⟩, by rw [k c h.ne.symm]; exact l⟩

def spHand (K : PySem.W.Frag) : Sp := fun vs H Q _ => ∃ (a : Addr) (ns : List Int), vs = [.ref a] ∧ SqL K H a (ns.map V.int) ∧ ns.length ≤ 1000 ∧
  ∀ (p c : Addr) (cells : List Int) (H' : Hp), Same H H' → H p = none → HandAt H' p c cells → Q (.ref p) H'
/-- a draw: some number below -/
def spDraw : Sp := fun vs H Q _ => ∃ (p c : Addr) (cells : List Int) (m : Int), vs = [.ref p, .int m] ∧ HandAt H p c cells ∧ 0 < m ∧ m < 1000000 ∧
  ∀ (r : Int) (H' : Hp), 0 ≤ r → r < m → HandAt H' p c cells → (∀ b, b ≠ p → H' b = H b) → Q (.int r) H'
def spSome (K : PySem.W.Frag) : Sp := fun vs H Q _ => ∃ (p c t : Addr) (cells : List Int) (xs : List V), vs = [.ref p, .ref t] ∧ HandAt H p c cells ∧ SqL K H t xs ∧ t ≠ p ∧ 0 < xs.length ∧ xs.length < 1000 ∧
  ∀ (k : Nat) (v : V) (H' : Hp), xs[k]? = some v → HandAt H' p c cells → (∀ b, b ≠ p → H' b = H b) → Q v H'

section
variable {P : Program} {w : World} {K : PySem.W.Frag} {mg : Str → Option Value} {base : Heap}
theorem scH : FnScope ["_law_script", "_law_cells", "_law_cell"] ["_law_script"] (defScope sHand) := ⟨rfl, rfl, rfl, by decide +kernel, rfl, by decide +kernel, by decide +kernel⟩
theorem ok_hand {f : Addr} {fd : FuncData} (F : Fun K "_law_hand" "_law_hand" sHand f fd) (T : TxB mg) : FnOk P w K mg base CX0 1 f fd ["_law_script"] (spHand K) := by
  refine F.ok scH (fun vs H Q E h => ?_) (fun cdv A outer s H vs Q E hr h => ?_)
  · obtain ⟨a, ns, rfl, _⟩ := h
    rfl
  · obtain ⟨a, ns, rfl, hS, hlen, k⟩ := h
    have hu := hu_of hr
    refine ⟨_, pss_cons (ps_setLc (i := 1) (own := [("_law_cell", 2)]) (g := gName 2) (tt := tYes) rfl scH.nd rfl rfl (sw_true rfl rfl rfl (by decide +kernel))
        (pi_list (pe_slice sl_list (pv 0) po_none (po_some pe_int))) (blkOk_by (N := ["_law_script", "_law_cells", "_law_cell"]) (sc := defScope sHand) (by decide +kernel))
        (fun _ _ _ _ _ => pg_name (i := 2) scH.nd rfl (Or.inl rfl)) (fun _ _ _ _ _ => pts_nil)
        (fun _ _ _ _ _ => pe_callB call_abs (by rfl) T.abs (by decide +kernel) (pa_cons (pe_callTy call_int1 (by rfl) T.int (by decide +kernel) (pa_cons (pv 2) pa_nil)) pa_nil)))
      (pss_one (ps_ret (pe_lst (pa_cons (pv 1) (pa_cons pe_int (pa_cons pe_int (pa_cons (pe_op op_add pe_int (pe_callB call_len (by rfl) T.len PySem.boot_len (pa_cons (pv 1) pa_nil))) (pa_cons pe_int pa_nil)))))))), ?_⟩
    refine ⟨_, rfl, 63, rfl, _, _, rfl, hS, ?_⟩
    intro sl hsl
    refine ⟨sl, rfl, ⟨_, SqL.of upd_same⟩, fun D hD => ?_⟩
    have hDs : D ≠ sl := fun e => by rw [e, upd_same] at hD; cases hD
    have hD0 : H D = none := by rw [upd_ne hDs] at hD; exact hD
    obtain ⟨zs, ez, hzl⟩ : ∃ zs : List Int, cutV (ns.map V.int) none (some 63) = zs.map V.int ∧ zs.length ≤ 1000 := by
      refine ⟨(ns.drop (HT.sIx (ns.map V.int).length 0 none)).take (HT.sIx (ns.map V.int).length (ns.map V.int).length (some 63) - HT.sIx (ns.map V.int).length 0 none), ?_, ?_⟩
      · unfold cutV
        rw [← List.map_drop, ← List.map_take]
      · rw [List.length_take, List.length_drop]; omega
    rw [ez]
    refine lc_list (K := K) (a := sl) (xs := zs.map V.int) (fun i H' => Same H H' ∧ H' sl = some (.lst (zs.map V.int)) ∧ ∃ cs : List Int, cs.length = i ∧ H' D = some (.lst (cs.map V.int)))
      ⟨fun b o e => ?_, ?_, [], rfl, upd_same⟩ (fun i H' _ p => SqL.of p.2.1) ?_ ?_
    · rw [upd_ne (ne_of_none e hD0), upd_ne (ne_of_none e hsl)]; exact e
    · rw [upd_ne hDs.symm, upd_same]
    · rintro i x H' hx ⟨h1, h2, cs, h3, h4⟩
      obtain ⟨z, rfl⟩ : ∃ z, x = V.int z := by
        rw [List.getElem?_map] at hx
        cases e : zs[i]? with
        | none => rw [e] at hx; cases hx
        | some z => rw [e] at hx; exact ⟨z, (Option.some.inj hx).symm⟩
      have hi : i < zs.length := by
        have := (List.getElem?_eq_some_iff.mp hx).1
        rwa [List.length_map] at this
      refine ⟨rfl, ?_⟩
      refine yes_kept ?_
      refine ⟨_, rfl, .inl ⟨_, rfl, _, rfl, cs.map V.int, h4, ?_, fun b o e => ?_, ?_, cs ++ [if z < 0 then -z else z], ?_, ?_⟩⟩
      · rw [List.length_map, h3]; exact small1000 (by omega)
      · rw [upd_ne (ne_of_none e hD0)]; exact h1 b o e
      · rw [upd_ne hDs.symm]; exact h2
      · rw [List.length_append, h3]; rfl
      · rw [upd_same, List.map_append]; rfl
    · rintro H' ⟨h1, h2, cs, h3, h4⟩
      refine ⟨_, rfl, _, rfl, _, _, rfl, .inl ⟨_, SqL.of h4, rfl⟩, _, _, rfl, rfl, (by show 5 ≤ sizeLine; decide), fun p hp => ?_⟩
      exact k p D cs _ (fun b o e => by rw [upd_ne (ne_of_none (h1 b o e) hp)]; exact h1 b o e) (by
        cases e : H p with
        | none => rfl
        | some o => have := h1 p o e; rw [hp] at this; cases this) ⟨⟨0, 0, _, 0, Int.le_refl _, upd_same⟩, by rw [upd_ne (ne_of_none h4 hp)]; exact h4⟩
theorem scD : FnScope ["_law_hand_here", "_law_many", "_law_cell", "_law_digit", "_law_number"] ["_law_hand_here", "_law_many"] (defScope sDraw) := ⟨rfl, rfl, rfl, by decide +kernel, rfl, by decide +kernel, by decide +kernel⟩
theorem ok_draw {f : Addr} {fd : FuncData} (F : Fun K "_law_draw" "_law_draw" sDraw f fd) (T : TxB mg) : FnOk P w K mg base CX0 1 f fd ["_law_hand_here", "_law_many"] spDraw := by
  refine F.ok scD (fun vs H Q E h => ?_) (fun cdv A outer s H vs Q E hr h => ?_)
  · obtain ⟨p, c, cells, m, rfl, _⟩ := h
    rfl
  · obtain ⟨p, c, cells, m, rfl, hA, hm, hm2, k⟩ := h
    have hu := hu_of hr
    have nd := scD.nd
    refine ⟨_, Evl.pss_cut (ps_if (PW.pt (pw_and (pt_cmpR op_eq (pe_ix ix_list (pv 0) pe_int (fun _ _ => rfl)) pe_int (nomark _))
          (pw_and1 (pt_cmpR op_lt (pe_ix ix_list (pv 0) pe_int (fun _ _ => rfl)) (pe_callB call_len (by rfl) T.len PySem.boot_len (pa_cons (pe_ix ix_list (pv 0) pe_int (fun _ _ => rfl)) pa_nil)) (nomark _)))))
        (pss_cons (ps_set (i := 2) nd rfl (Or.inl rfl) (pe_ix ix_list (pe_ix ix_list (pv 0) pe_int (fun _ _ => rfl)) (pe_ix ix_list (pv 0) pe_int (fun _ _ => rfl)) (fun _ _ => rfl)))
        (pss_cons (ps_asg (pe_op op_add (pe_ix ix_list (pv 0) pe_int (fun _ _ => rfl)) pe_int) (pg_sub (pv 0) pe_int set_list))
        (pss_cons (ps_asg (pe_op op_mod (pe_callTy call_int1 (by rfl) T.int (by decide +kernel) (pa_cons (pe_op op_add (pe_op op_add (pe_op op_mul (pe_ix ix_list (pv 0) pe_int (fun _ _ => rfl)) pe_int) (pv 2)) pe_int) pa_nil)) pe_int) (pg_sub (pv 0) pe_int set_list))
        (pss_one (ps_if (pt_cmpR op_ge (pv 2) (pe_op op_pow pe_int pe_int) (nomark _)) (pss_one (ps_asg (pv 2) (pg_sub (pv 0) pe_int set_list))) pss_nil)))))
        pss_nil)
      (pss_cons (ps_if (pt_cmpR op_gt (pe_ix ix_list (pv 0) pe_int (fun _ _ => rfl)) pe_int (nomark _))
        (pss_cons (ps_set (i := 3) nd rfl (Or.inl rfl) (pe_op op_mod (pe_callTy call_int1 (by rfl) T.int (by decide +kernel) (pa_cons (pe_ix ix_list (pv 0) pe_int (fun _ _ => rfl)) pa_nil)) (pv 1)))
        (pss_cons (ps_asg (pe_op op_fdivN (pe_ix ix_list (pv 0) pe_int (fun _ _ => rfl)) (pv 1)) (pg_sub (pv 0) pe_int set_list))
        (pss_one (ps_ret (pv 3))))) pss_nil)
      (pss_cons (ps_asg (pe_op op_add (pe_ix ix_list (pv 0) pe_int (fun _ _ => rfl)) pe_int) (pg_sub (pv 0) pe_int set_list))
      (pss_cons (ps_set (i := 4) nd rfl (Or.inl rfl) (pe_op op_mod (pe_callTy call_int1 (by rfl) T.int (by decide +kernel) (pa_cons (pe_op op_mul (pe_callTy call_int1 (by rfl) T.int (by decide +kernel) (pa_cons (pe_op op_add (pe_ix ix_list (pv 0) pe_int (fun _ _ => rfl)) (pe_op op_mul pe_int (pe_ix ix_list (pv 0) pe_int (fun _ _ => rfl)))) pa_nil)) pe_int) pa_nil)) pe_int))
      (pss_cons (ps_set (i := 4) nd rfl (Or.inl rfl) (pe_op op_mod (pe_callTy call_int1 (by rfl) T.int (by decide +kernel) (pa_cons (pe_op op_mul (pv 4) (pe_op op_add (pe_op op_fdiv (pv 4) pe_int) pe_int)) pa_nil)) pe_int))
      (pss_cons (ps_set (i := 4) nd rfl (Or.inl rfl) (pe_op op_mod (pe_callTy call_int1 (by rfl) T.int (by decide +kernel) (pa_cons (pe_op op_mul (pv 4) (pe_op op_add (pe_op op_fdiv (pv 4) pe_int) pe_int)) pa_nil)) pe_int))
      (pss_one (ps_ret (pe_op op_mod (pe_callTy call_int1 (by rfl) T.int (by decide +kernel) (pa_cons (pe_op op_fdiv (pv 4) pe_int) pa_nil)) (pv 1))))))))), ?_⟩
    obtain ⟨⟨i, z, s0, n, hi, hp⟩, hc⟩ := id hA
    have nep := hA.ne
    refine ⟨fun σ' H' => ∃ (i z s n : Int) (v : Option V), 0 ≤ i ∧ σ' = [some (.ref p), some (.int m), v, none, none] ∧ H' p = some (.lst [.ref c, .int i, .int z, .int s, .int n]) ∧ (∀ b, b ≠ p → H' b = H b), ?_, ?_⟩
    · -- hand[2] == 0 and hand[1] < len(hand[0])
      refine ⟨_, rfl, p, _, _, _, rfl, rfl, SqL.of hp, rfl, rfl, _, rfl, ?_⟩
      refine ite2 (fun _ => ?_) (fun _ => ?_)
      · refine ⟨_, rfl, p, _, _, _, rfl, rfl, SqL.of hp, rfl, _, rfl, p, _, _, _, rfl, rfl, SqL.of hp, rfl, _, _, rfl, .inl ⟨_, SqL.of hc, rfl⟩, _, _, rfl, rfl, _, rfl, ?_⟩
        refine ite2 (fun e1 => ?_) (fun _ => ?_)
        · have e2 : i < (cells.length : Int) := by
            have := of_decide_eq_true e1
            rw [List.length_map] at this
            exact this
          obtain ⟨j, rfl⟩ := Int.eq_ofNat_of_zero_le hi
          have hj : j < cells.length := by omega
          have hat : atI (cells.map V.int) (j : Int) = some (.int cells[j]) := atI_nat (by rw [List.getElem?_map, List.getElem?_eq_getElem hj]; rfl)
          refine ⟨_, rfl, p, _, _, _, rfl, rfl, SqL.of hp, rfl, _, rfl, p, _, _, _, rfl, rfl, SqL.of hp, rfl, c, _, _, _, rfl, rfl, SqL.of hc, hat, ?_⟩
          refine ⟨_, rfl, p, _, _, _, rfl, rfl, SqL.of hp, rfl, _, _, rfl, rfl, _, rfl, p, _, _, 1, rfl, rfl, hp, rfl, ?_⟩
          refine ⟨_, rfl, p, _, _, _, rfl, rfl, SqL.of upd_same, rfl, _, _, rfl, rfl, .inr ⟨by decide, by decide⟩, _, rfl, _, _, rfl, rfl, _, _, rfl, rfl, .inl ⟨_, rfl, _, _, rfl, rfl, (by show (0 : Int) < 2147483629; decide), _, rfl, p, _, _, 3, rfl, rfl, upd_same, rfl, ?_⟩⟩
          refine ⟨_, rfl, _, _, rfl, rfl, ⟨by decide, by decide, by decide⟩, _, _, rfl, rfl, _, rfl, ?_⟩
          refine ite2 (fun _ => ?_) (fun _ => ?_)
          · refine ⟨_, rfl, _, rfl, p, _, _, 2, rfl, rfl, upd_same, rfl, (j : Int) + 1, _, _, _, some (.int cells[j]), by omega, rfl, upd_same, fun b hb => by rw [upd_ne hb, upd_ne hb, upd_ne hb]⟩
          · exact ⟨(j : Int) + 1, _, _, _, some (.int cells[j]), by omega, rfl, upd_same, fun b hb => by rw [upd_ne hb, upd_ne hb]⟩
        · exact ⟨i, z, s0, n, none, hi, rfl, hp, fun _ _ => rfl⟩
      · exact ⟨i, z, s0, n, none, hi, rfl, hp, fun _ _ => rfl⟩
    · clear hi hp i z s0 n
      rintro _ H1 ⟨i, z, s0, n, v, hi, rfl, hp, kp⟩
      have hc1 : H1 c = some (.lst (cells.map V.int)) := by rw [kp c nep.symm]; exact hc
      have fin : ∀ (r : Int) (i z s n : Int) (H2 : Hp), 0 ≤ r → r < m → 0 ≤ i → H2 p = some (.lst [.ref c, .int i, .int z, .int s, .int n]) → (∀ b, b ≠ p → H2 b = H1 b) → Q (.int r) H2 :=
        fun r i z s n H2 h0 h1 hi h2 h3 => k r H2 h0 h1 ⟨⟨i, z, s, n, hi, h2⟩, by rw [h3 c nep.symm]; exact hc1⟩ fun b hb => (h3 b hb).trans (kp b hb)
      -- hand[2] > 0
      refine ⟨_, rfl, p, _, _, _, rfl, rfl, SqL.of hp, rfl, _, _, rfl, rfl, _, rfl, ?_⟩
      refine ite2 (fun _ => ?_) (fun _ => ?_)
      · refine ⟨_, rfl, p, _, _, _, rfl, rfl, SqL.of hp, rfl, .inl ⟨_, rfl, _, rfl, _, _, rfl, rfl, hm, ?_⟩⟩
        refine ⟨_, rfl, p, _, _, _, rfl, rfl, SqL.of hp, rfl, _, rfl, _, _, rfl, rfl, ⟨by omega, by omega⟩, _, rfl, p, _, _, 2, rfl, rfl, hp, rfl, _, rfl, ?_⟩
        exact fin _ i _ _ _ _ (Int.emod_nonneg _ (by omega)) (Int.emod_lt_of_pos _ hm) hi upd_same fun b hb => upd_ne hb
      · refine ⟨_, rfl, p, _, _, _, rfl, rfl, SqL.of hp, rfl, _, _, rfl, rfl, _, rfl, p, _, _, 4, rfl, rfl, hp, rfl, ?_⟩
        refine ⟨_, rfl, p, _, _, _, rfl, rfl, SqL.of upd_same, rfl, _, rfl, p, _, _, _, rfl, rfl, SqL.of upd_same, rfl, _, _, rfl, rfl, .inl ⟨by decide, by decide⟩, _, _, rfl, rfl, .inl ⟨_, rfl, _, _, rfl, rfl, .inr ⟨by decide, by decide⟩, .inl ⟨_, rfl, _, _, rfl, rfl, (by show (0 : Int) < 2147483647; decide), ?_⟩⟩⟩
        dsimp only
        generalize hn1 : ((s0 + 7919 * (n + 1)) * 48271) % 2147483647 = n1
        have b1 : 0 ≤ n1 := by rw [← hn1]; exact Int.emod_nonneg _ (by decide)
        have b2 : n1 < 2147483647 := by rw [← hn1]; exact Int.emod_lt_of_pos _ (by decide)
        clear hn1
        refine ⟨_, rfl, _, rfl, _, _, rfl, rfl, ⟨by decide, by decide⟩, _, _, rfl, rfl, _, _, rfl, rfl, .inl ⟨by omega, by omega⟩, .inl ⟨_, rfl, _, _, rfl, rfl, (by show (0 : Int) < 2147483647; decide), ?_⟩⟩
        dsimp only
        generalize hn2 : (n1 * (n1 / 1009 + 69621)) % 2147483647 = n2
        have b3 : 0 ≤ n2 := by rw [← hn2]; exact Int.emod_nonneg _ (by decide)
        have b4 : n2 < 2147483647 := by rw [← hn2]; exact Int.emod_lt_of_pos _ (by decide)
        clear hn2
        refine ⟨_, rfl, _, rfl, _, _, rfl, rfl, ⟨by decide, by decide⟩, _, _, rfl, rfl, _, _, rfl, rfl, .inl ⟨by omega, by omega⟩, .inl ⟨_, rfl, _, _, rfl, rfl, (by show (0 : Int) < 2147483399; decide), ?_⟩⟩
        refine ⟨_, rfl, _, _, rfl, rfl, ⟨by decide, by decide⟩, .inl ⟨_, rfl, _, rfl, _, _, rfl, rfl, hm, ?_⟩⟩
        exact fin _ i _ _ _ _ (Int.emod_nonneg _ (by omega)) (Int.emod_lt_of_pos _ hm) hi upd_same fun b hb => upd_ne hb
theorem scS : FnScope ["_law_hand_here", "_law_things"] ["_law_hand_here", "_law_things"] (defScope sSome) := ⟨rfl, rfl, rfl, by decide +kernel, rfl, by decide +kernel, by decide +kernel⟩
theorem ok_some {f fD : Addr} {fd fdD : FuncData} (F : Fun K "_law_some" "_law_some" sSome f fd) (T : TxB mg) (FD : Fun K "_law_draw" "_law_draw" sDraw fD fdD) (bD : Binds K fdD ["_law_hand_here", "_law_many"] []) (mD : mg "_law_draw" = some (.ref fD)) :
    FnOk P w K mg base CX0 2 f fd ["_law_hand_here", "_law_things"] (spSome K) := by
  have GD : FnOk P w K mg base CX0 1 fD fdD ["_law_hand_here", "_law_many"] spDraw := ok_draw FD T
  refine F.ok scS (fun vs H Q E h => ?_) (fun cdv A outer s H vs Q E hr h => ?_)
  · obtain ⟨p, c, t, cells, xs, rfl, _⟩ := h
    rfl
  · obtain ⟨p, c, t, cells, xs, rfl, hA, hT, hn, h0, h1, k⟩ := h
    refine ⟨_, pss_one (ps_ret (pe_ix ix_list (pv 1) (pe_call GD hr (by rfl) mD FD.kp bD .nil pass0 (pa_cons (pv 0) (pa_cons (pe_callB call_len (by rfl) T.len PySem.boot_len (pa_cons (pv 1) pa_nil)) pa_nil))) (fun _ _ => rfl))), ?_⟩
    refine ⟨_, rfl, _, rfl, _, rfl, _, _, rfl, .inl ⟨_, hT, rfl⟩, p, c, cells, _, rfl, hA, by omega, by omega, fun r H' h2 h3 hA' kp => ?_⟩
    obtain ⟨j, rfl⟩ := Int.eq_ofNat_of_zero_le h2
    have hj : j < xs.length := by omega
    have hT' : SqL K H' t xs := by
      rcases hT with q | q
      · exact .inl (by unfold Rd; rw [kp t hn]; exact q)
      · exact .inr q
    exact ⟨t, xs, _, _, rfl, rfl, hT', atI_nat (List.getElem?_eq_getElem hj), k j _ H' (List.getElem?_eq_getElem hj) hA' kp⟩
end
end LG

set_option Elab.async false
set_option linter.all false
set_option maxRecDepth 100000
set_option maxHeartbeats 2000000
namespace LG
open PySem L2
theorem tyx_same {K : PySem.W.Frag} {H H' : Hp} {v : V} {t : Value} (s : Same H H') (h : TyX K H v t) : TyX K H' v t := by
  cases h with
  | base b =>
    cases b with
    | non => exact .base .non
    | bl x => exact .base (.bl x)
    | int i => exact .base (.int i)
    | str x => exact .base (.str x)
    | flt x => exact .base (.flt x)
    | lst e => exact .base (.lst (s _ _ e))
    | frz e => exact .base (.frz (s _ _ e))
    | tup e => exact .base (.tup (s _ _ e))
    | dK e => exact .base (.dK (s _ _ e))
    | dT e => exact .base (.dT (s _ _ e))
    | ins e cl ha hn htk hm => exact .base (.ins (s _ _ e) cl ha hn htk hm)
  | byt b => exact .byt b
  | set e => exact .set (s _ _ e)
  | kList e c => exact .kList e c
  | kTuple e c => exact .kTuple e c
  | kDict e c => exact .kDict e c
  | fTuple e => exact .fTuple (s _ _ e)
  | fDict e => exact .fDict (s _ _ e)
theorem same_refl (H : Hp) : Same H H := fun _ _ e => e
theorem same_trans {H H' H'' : Hp} (a : Same H H') (b : Same H' H'') : Same H H'' := fun c o e => b c o (a c o e)
theorem same_new {H H' : Hp} {p : Addr} {o : HO} (s : Same H H') (hp : H' p = none) : Same H (upd H' p o) := fun b u e => by rw [upd_ne (ne_of_none (s b u e) hp)]; exact s b u e
theorem same_none {H H' : Hp} {p : Addr} (s : Same H H') (hp : H' p = none) : H p = none := by
  cases e : H p with
  | none => rfl
  | some o => have := s p o e; rw [hp] at this; cases this

structure Fn (K : PySem.W.Frag) (mg : Str → Option Value) (x : Str) (st : Stmt) (ps : List Str) (f : Addr) (fd : FuncData) : Prop where
  F : Fun K x x st f fd
  b : Binds K fd ps []
  m : mg x = some (.ref f)
theorem ifT {c : Bool} {A B : Prop} (hc : c = true) (h : A) : if c = true then A else B := by
  rw [if_pos hc]
  exact h
theorem ifF {c : Bool} {A B : Prop} (hc : c = false) (h : B) : if c = true then A else B := by
  rw [hc, if_neg Bool.false_ne_true]
  exact h
theorem del_same_of {H H' : Hp} {p : Addr} (s : Same H H') : Same (del H p) (del H' p) := fun b o e => by
  by_cases hb : b = p
  · rw [hb, del_same] at e; cases e
  · rw [del_ne hb] at e ⊢; exact s b o e
theorem del_off {H H' : Hp} {p : Addr} (k : ∀ b, b ≠ p → H' b = H b) : Same (del H p) (del H' p) := fun b o e => by
  by_cases hb : b = p
  · rw [hb, del_same] at e; cases e
  · rw [del_ne hb] at e ⊢; rw [k b hb]; exact e
theorem del_le {H : Hp} {p : Addr} : Same (del H p) H := fun b o e => by
  by_cases hb : b = p
  · rw [hb, del_same] at e; cases e
  · rw [del_ne hb] at e; exact e
theorem HandAt.same {H H' : Hp} {p c : Addr} {cells : List Int} (h : HandAt H p c cells) (s : Same H H') : HandAt H' p c cells := by
  obtain ⟨⟨i, z, s0, n, hi, e⟩, l⟩ := h
  exact ⟨⟨i, z, s0, n, hi, s _ _ e⟩, s _ _ l⟩
theorem HandAt.some {H : Hp} {p c : Addr} {cells : List Int} (h : HandAt H p c cells) : ∃ l, H p = .some (.lst l) := by
  obtain ⟨⟨i, z, s0, n, hi, e⟩, _⟩ := h
  exact ⟨_, e⟩
theorem HandAt.fresh {H : Hp} {p c q : Addr} {cells : List Int} (h : HandAt H p c cells) (hq : H q = none) : q ≠ p := by
  obtain ⟨l, e⟩ := h.some
  exact fun z => by rw [z, e] at hq; cases hq
theorem same_upd {G H' : Hp} {p D : Addr} {o : HO} (s : Same G (del H' p)) (hd : G D = none) : Same G (del (upd H' D o) p) := fun b u e => by
  have nb : b ≠ D := ne_of_none e hd
  have h := s b u e
  by_cases hb : b = p
  · rw [hb, del_same] at h; cases h
  · rw [del_ne hb] at h ⊢
    rw [upd_ne nb]
    exact h
theorem HandAt.upd {H : Hp} {p c D : Addr} {cells : List Int} {o : HO} (h : HandAt H p c cells) (h1 : D ≠ p) (h2 : D ≠ c) : HandAt (upd H D o) p c cells := by
  obtain ⟨⟨i, z, s0, n, hi, e⟩, l⟩ := h
  exact ⟨⟨i, z, s0, n, hi, by rw [upd_ne h1.symm]; exact e⟩, by rw [upd_ne h2.symm]; exact l⟩

theorem seqIx {i : Int} {n : Nat} (h0 : 0 ≤ i) (h : i < (n : Int)) : seqIndex? i n = some i.toNat := by
  unfold seqIndex?
  simp
  omega
/-- so long a list has room -/
theorem room2 {n : Nat} (h : n ≤ 3000000) : n < sizeLine := Nat.lt_of_le_of_lt h (by decide)
theorem big2 {n : Nat} (h : n ≤ 3000000) : n ≤ sizeLine := Nat.le_of_lt (room2 h)
/-- further names of the text -/
structure TxD (mg : Str → Option Value) : Prop where
  tuple : mg "tuple" = none
  list : mg "list" = none
  dict : mg "dict" = none
  bool : mg "bool" = none
  str : mg "str" = none
  sorted : mg "sorted" = none
  max : mg "max" = none
  any : mg "any" = none
  reversed : mg "reversed" = none
  set : mg "set" = none
  enumerate : mg "enumerate" = none
  sum : mg "sum" = none
end LG

set_option Elab.async false
set_option linter.all false
set_option maxRecDepth 100000
set_option maxHeartbeats 2000000
namespace LG
open PySem L2
abbrev sInteger : Stmt := top 1
abbrev sWithin : Stmt := top 2
abbrev sPair : Stmt := top 3
abbrev sLetter : Stmt := top 9
abbrev sAny : Stmt := top 10
structure TxK (mg : Str → Option Value) : Prop extends TxD mg where
  last : ∃ u, mg "LAST_LETTER" = some (.int 25 u)
/-! ### things as data: an int, a truth value, what is neither nor a tuple, a tuple of another length, a pair -/
inductive Th where
  | int (i : Int) | bl (b : Bool) | non | tup | pr (l r : Th)
namespace Th
def size : Th → Nat
  | .pr l r => l.size + r.size + 1
  | _ => 1
def letter : Th → Bool
  | .int i => decide (0 ≤ i) && decide (i ≤ 25)
  | _ => false
/-- a kind of any size -/
def any : Th → Bool
  | .pr l r => l.any && r.any
  | t => t.letter
/-- a kind nested at most so deep -/
def ok : Nat → Th → Bool
  | 0, t => t.letter
  | m + 1, .pr l r => ok m l && ok m r
  | _ + 1, t => t.letter
def letters : Th → Nat
  | .pr l r => l.letters + r.letters
  | .int _ => 1
  | _ => 0
def isKind (t : Th) : Bool := t.ok 30 && decide (t.letters ≤ 60)
theorem ok_pr {m : Nat} {l r : Th} : ok (m + 1) (.pr l r) = (ok m l && ok m r) := rfl
theorem ok_of_letter {m : Nat} {t : Th} (h : t.letter = true) : t.ok m = true ∧ t.letters = 1 := by
  cases t with
  | int i => cases m <;> exact ⟨h, rfl⟩
  | bl b => cases h
  | non => cases h
  | tup => cases h
  | pr l r => cases h
theorem size_pos (t : Th) : 0 < t.size := by cases t <;> simp [size]
end Th
/-- the judging of what waits: (thing, how deep) -/
def jud (c : Nat) (ws : List (Th × Nat)) : Bool := ws.all (fun w => w.1.ok (30 - w.2)) && decide (c + (ws.map (·.1.letters)).sum ≤ 60)
theorem jud_letter {c : Nat} {ws : List (Th × Nat)} {t : Th} {d : Nat} (h : t.letter = true) : jud c (ws ++ [(t, d)]) = jud (c + 1) ws := by
  unfold jud
  have e := Th.ok_of_letter (m := 30 - d) h
  simp only [List.all_append, List.all_cons, List.all_nil, List.map_append, List.map_cons, List.map_nil, List.sum_append, List.sum_cons, List.sum_nil, e.1, e.2, Bool.and_true]
  have q : c + ((ws.map (·.1.letters)).sum + (1 + 0)) = c + 1 + (ws.map (·.1.letters)).sum := by omega
  rw [q]
theorem jud_pair {c : Nat} {ws : List (Th × Nat)} {l r : Th} {d : Nat} (h : d < 30) : jud c (ws ++ [(.pr l r, d)]) = jud c (ws ++ [(l, d + 1), (r, d + 1)]) := by
  unfold jud
  have e : 30 - d = (30 - (d + 1)) + 1 := by omega
  have q : c + ((ws.map (·.1.letters)).sum + (l.letters + r.letters + 0)) = c + ((ws.map (·.1.letters)).sum + (l.letters + (r.letters + 0))) := by omega
  simp only [List.all_append, List.all_cons, List.all_nil, List.map_append, List.map_cons, List.map_nil, List.sum_append, List.sum_cons, List.sum_nil, Bool.and_true, e, Th.ok_pr, Th.letters, q]
theorem jud_bad {c : Nat} {ws : List (Th × Nat)} {t : Th} {d : Nat} (h1 : t.letter = false) (h2 : ∀ l r, t = .pr l r → ¬ d < 30) : jud c (ws ++ [(t, d)]) = false := by
  unfold jud
  have e : t.ok (30 - d) = false := by
    cases t with
    | pr l r =>
      have := h2 l r rfl
      have e : 30 - d = 0 := by omega
      rw [e]; rfl
    | int i => cases h3 : 30 - d <;> exact h1
    | bl b => cases h3 : 30 - d <;> rfl
    | non => cases h3 : 30 - d <;> rfl
    | tup => cases h3 : 30 - d <;> rfl
  simp [e]
theorem jud_many {c : Nat} {ws : List (Th × Nat)} (h : ¬ c ≤ 60) : jud c ws = false := by
  unfold jud
  rw [Bool.and_eq_false_iff]; exact .inr (decide_eq_false (by omega))
theorem jud_nil {c : Nat} : jud c [] = decide (c ≤ 60) := by simp [jud]
theorem jud_one {t : Th} : jud 0 [(t, 0)] = t.isKind := by simp [jud, Th.isKind]
def NonAt (K : PySem.W.Frag) (H : Hp) (v : V) : Prop := ∃ tv, TyX K H v tv ∧ PySem.W.kitOne K tv (.type "int") = some false ∧ PySem.W.kitOne K tv (.type "tuple") = some false
def ThAt (K : PySem.W.Frag) (H : Hp) : Th → V → Prop
  | .int i, v => v = .int i
  | .bl b, v => v = .bl b
  | .non, v => NonAt K H v
  | .tup, v => ∃ a xs, v = .ref a ∧ H a = some (.tup xs) ∧ xs.length ≠ 2
  | .pr l r, v => ∃ a x y, v = .ref a ∧ H a = some (.tup [x, y]) ∧ ThAt K H l x ∧ ThAt K H r y
theorem ThAt.same {K : PySem.W.Frag} {H H' : Hp} (s : Same H H') : ∀ {t : Th} {v : V}, ThAt K H t v → ThAt K H' t v
  | .int _, _, h => h
  | .bl _, _, h => h
  | .non, _, ⟨tv, h1, h2⟩ => ⟨tv, tyx_same s h1, h2⟩
  | .tup, _, ⟨a, xs, e, h, l⟩ => ⟨a, xs, e, s _ _ h, l⟩
  | .pr _ _, _, ⟨a, x, y, e, h, hl, hr⟩ => ⟨a, x, y, e, s _ _ h, hl.same s, hr.same s⟩
def Th.isI : Th → Bool
  | .int _ => true
  | .bl _ => true
  | _ => false
def Th.isB : Th → Bool
  | .bl _ => true
  | _ => false
def Th.isT : Th → Bool
  | .tup => true
  | .pr _ _ => true
  | _ => false
/-- its type, as isinstance asks it -/
theorem ThAt.ty {K : PySem.W.Frag} {H : Hp} {t : Th} {v : V} (h : ThAt K H t v) : ∃ tv, TyX K H v tv ∧ PySem.W.kitOne K tv (.type "int") = some t.isI ∧ (t.isI = true → PySem.W.kitOne K tv (.type "bool") = some t.isB) ∧ PySem.W.kitOne K tv (.type "tuple") = some t.isT := by
  cases t with
  | int i =>
    have e : v = .int i := h
    subst e
    exact ⟨_, .base (.int i), kit_ty (r := true) (by decide +kernel), fun _ => kit_ty (r := false) (by decide +kernel), kit_ty (r := false) (by decide +kernel)⟩
  | bl b =>
    have e : v = .bl b := h
    subst e
    exact ⟨_, .base (.bl b), kit_ty (r := true) (by decide +kernel), fun _ => kit_ty (r := true) (by decide +kernel), kit_ty (r := false) (by decide +kernel)⟩
  | non =>
    obtain ⟨tv, h1, h2, h3⟩ := h
    exact ⟨tv, h1, h2, fun z => (by cases z), h3⟩
  | tup =>
    obtain ⟨a, xs, rfl, h, l⟩ := h
    exact ⟨_, .base (.tup h), kit_ty (r := false) (by decide +kernel), fun z => (by cases z), kit_ty (r := true) (by decide +kernel)⟩
  | pr l r =>
    obtain ⟨a, x, y, rfl, h, _⟩ := h
    exact ⟨_, .base (.tup h), kit_ty (r := false) (by decide +kernel), fun z => (by cases z), kit_ty (r := true) (by decide +kernel)⟩
def Th.isInt : Th → Bool
  | .int _ => true
  | _ => false
def Th.isPr : Th → Bool
  | .pr _ _ => true
  | _ => false
theorem letter_int {t : Th} (h : t.isInt = false) : t.letter = false := by
  cases t <;> first | rfl | cases h
def spInteger (K : PySem.W.Frag) : Sp := fun vs H Q _ => ∃ (v : V) (t : Th), vs = [v] ∧ ThAt K H t v ∧ Q (.bl t.isInt) H
def spWithin (K : PySem.W.Frag) : Sp := fun vs H Q _ => ∃ (v : V) (t : Th), vs = [.int 0, .int 25, v] ∧ ThAt K H t v ∧ Q (.bl t.letter) H
def spPair (K : PySem.W.Frag) : Sp := fun vs H Q _ => ∃ (v : V) (t : Th), vs = [v] ∧ ThAt K H t v ∧ Q (.bl t.isPr) H
def spLetter (K : PySem.W.Frag) : Sp := fun vs H Q _ => ∃ (v : V) (t : Th), vs = [v] ∧ ThAt K H t v ∧ Q (.bl t.letter) H
section
variable {P : Program} {w : World} {K : PySem.W.Frag} {mg : Str → Option Value} {base : Heap}
theorem scInteger : FnScope ["thing"] ["thing"] (defScope sInteger) := ⟨rfl, rfl, rfl, by decide +kernel, rfl, by decide +kernel, by decide +kernel⟩
theorem ok_integer {f : Addr} {fd : FuncData} (F : Fn K mg "is_integer" sInteger ["thing"] f fd) (T : TxB mg) (T2 : TxK mg) : FnOk P w K mg base CX0 1 f fd ["thing"] (spInteger K) := by
  refine F.F.ok scInteger (fun vs H Q E h => ?_) (fun cdv A outer s H vs Q E hr h => ?_)
  · obtain ⟨v, t, rfl, _⟩ := h
    rfl
  · obtain ⟨v, t, rfl, hv, k⟩ := h
    obtain ⟨tv, ty, k1, k2, k3⟩ := hv.ty
    refine ⟨_, pss_one (ps_ret (pe_and (pe_callB call_isi (by rfl) T.isinstance (by decide +kernel) (pa_cons (pv 0) (pa_cons (pe_bltn (v := .ty "int") (by rfl) T.int (by decide +kernel) rfl) pa_nil)))
      (pe_one (pe_not (pe_callB call_isi (by rfl) T.isinstance (by decide +kernel) (pa_cons (pv 0) (pa_cons (pe_bltn (v := .ty "bool") (by rfl) T2.bool (by decide +kernel) rfl) pa_nil))))))), ?_⟩
    refine ⟨_, rfl, _, _, _, _, _, rfl, .ty _, ty, k1, _, rfl, ?_⟩
    refine ite2 (fun c => ?_) (fun c => ?_)
    · refine ⟨_, rfl, _, _, _, _, _, rfl, .ty _, ty, k2 c, _, rfl, ?_⟩
      have e : t.isInt = !t.isB := by cases t <;> first | rfl | cases c
      rw [← e]
      exact k
    · have e : t.isInt = false := by cases t <;> first | rfl | exact absurd rfl c
      rw [← e]
      exact k
theorem scWithin : FnScope ["low", "high", "thing"] ["low", "high", "thing"] (defScope sWithin) := ⟨rfl, rfl, rfl, by decide +kernel, rfl, by decide +kernel, by decide +kernel⟩
theorem ok_within {f f1 : Addr} {fd fd1 : FuncData} (F : Fn K mg "is_integer_within" sWithin ["low", "high", "thing"] f fd) (N1 : Fn K mg "is_integer" sInteger ["thing"] f1 fd1) (T : TxB mg) (T2 : TxK mg) : FnOk P w K mg base CX0 2 f fd ["low", "high", "thing"] (spWithin K) := by
  have G1 : FnOk P w K mg base CX0 1 f1 fd1 ["thing"] (spInteger K) := ok_integer N1 T T2
  refine F.F.ok scWithin (fun vs H Q E h => ?_) (fun cdv A outer s H vs Q E hr h => ?_)
  · obtain ⟨v, t, rfl, _⟩ := h
    rfl
  · obtain ⟨v, t, rfl, hv, k⟩ := h
    refine ⟨_, pss_one (ps_ret (pe_and (pe_call G1 hr (by rfl) N1.m N1.F.kp N1.b .nil pass0 (pa_cons (pv 2) pa_nil)) (pe_one (pe_chain op_le op_le (pv 0) (pv 2) (pv 1))))), ?_⟩
    refine ⟨_, rfl, v, t, rfl, hv, _, rfl, ?_⟩
    refine ite2 (fun c => ?_) (fun c => ?_)
    · obtain ⟨i, rfl⟩ : ∃ i, t = .int i := by cases t <;> first | exact ⟨_, rfl⟩ | cases c
      obtain rfl : v = .int i := hv
      refine ⟨_, rfl, _, rfl, _, _, rfl, rfl, _, rfl, ?_⟩
      refine ite2 (fun c2 => ?_) (fun c2 => ?_)
      · refine ⟨_, rfl, _, _, rfl, rfl, ?_⟩
        have e : Th.letter (.int i) = decide (i ≤ 25) := by show (decide (0 ≤ i) && decide (i ≤ 25)) = _; rw [c2, Bool.true_and]
        rw [e] at k
        exact k
      · have e : Th.letter (.int i) = false := by show (decide (0 ≤ i) && decide (i ≤ 25)) = _; rw [Bool.eq_false_iff.mpr c2, Bool.false_and]
        rw [e] at k
        exact k
    · rw [letter_int (Bool.eq_false_iff.mpr c)] at k
      exact k
theorem scPair : FnScope ["thing"] ["thing"] (defScope sPair) := ⟨rfl, rfl, rfl, by decide +kernel, rfl, by decide +kernel, by decide +kernel⟩
theorem ok_pair {f : Addr} {fd : FuncData} (F : Fn K mg "is_pair" sPair ["thing"] f fd) (T : TxB mg) (T2 : TxK mg) : FnOk P w K mg base CX0 1 f fd ["thing"] (spPair K) := by
  refine F.F.ok scPair (fun vs H Q E h => ?_) (fun cdv A outer s H vs Q E hr h => ?_)
  · obtain ⟨v, t, rfl, _⟩ := h
    rfl
  · obtain ⟨v, t, rfl, hv, k⟩ := h
    obtain ⟨tv, ty, k1, k2, k3⟩ := hv.ty
    refine ⟨_, pss_one (ps_ret (pe_and (pe_callB call_isi (by rfl) T.isinstance (by decide +kernel) (pa_cons (pv 0) (pa_cons (pe_bltn (v := .ty "tuple") (by rfl) T2.tuple (by decide +kernel) rfl) pa_nil)))
      (pe_one (pe_cmpR op_eq (pe_callB call_len (by rfl) T.len PySem.boot_len (pa_cons (pv 0) pa_nil)) pe_int (nomark _))))), ?_⟩
    refine ⟨_, rfl, _, _, _, _, _, rfl, .ty _, ty, k3, _, rfl, ?_⟩
    refine ite2 (fun c => ?_) (fun c => ?_)
    · cases t with
      | int i => cases c
      | bl b => cases c
      | non => cases c
      | tup =>
        obtain ⟨a, xs, rfl, h, l⟩ := hv
        refine ⟨_, rfl, _, _, rfl, .inr ⟨xs, SqT.of h, rfl⟩, rfl, ?_⟩
        rw [decide_eq_false (fun z => l (by have := V.int.inj z; omega))]
        exact k
      | pr l r =>
        obtain ⟨a, x, y, rfl, h, _⟩ := hv
        exact ⟨_, rfl, _, _, rfl, .inr ⟨_, SqT.of h, rfl⟩, rfl, k⟩
    · have e : t.isPr = false := by cases t <;> first | rfl | exact absurd rfl c
      rw [e] at k
      exact k
theorem scLetter : FnScope ["thing"] ["thing"] (defScope sLetter) := ⟨rfl, rfl, rfl, by decide +kernel, rfl, by decide +kernel, by decide +kernel⟩
theorem ok_letter {f f1 f2 : Addr} {fd fd1 fd2 : FuncData} (F : Fn K mg "is_letter" sLetter ["thing"] f fd) (N2 : Fn K mg "is_integer_within" sWithin ["low", "high", "thing"] f2 fd2) (N1 : Fn K mg "is_integer" sInteger ["thing"] f1 fd1) (T : TxB mg) (T2 : TxK mg) : FnOk P w K mg base CX0 3 f fd ["thing"] (spLetter K) := by
  have G2 : FnOk P w K mg base CX0 2 f2 fd2 ["low", "high", "thing"] (spWithin K) := ok_within N2 N1 T T2
  obtain ⟨u, hu⟩ := T2.last
  refine F.F.ok scLetter (fun vs H Q E h => ?_) (fun cdv A outer s H vs Q E hr h => ?_)
  · obtain ⟨v, t, rfl, _⟩ := h
    rfl
  · obtain ⟨v, t, rfl, hv, k⟩ := h
    refine ⟨_, pss_one (ps_ret (pe_call G2 hr (by rfl) N2.m N2.F.kp N2.b .nil pass0 (pa_cons pe_int (pa_cons (pe_glob (v := .int 25) (by rfl) hu ⟨_, rfl⟩) (pa_cons (pv 0) pa_nil))))), ?_⟩
    exact ⟨_, rfl, v, t, rfl, hv, k⟩
end
theorem nil_or_snoc {α : Type} (l : List α) : l = [] ∨ ∃ l' x, l = l' ++ [x] := by
  rcases List.eq_nil_or_concat l with h | ⟨l', x, h⟩
  · exact .inl h
  · exact .inr ⟨l', x, by rw [h, List.concat_eq_append]⟩
def psz (ws : List (Th × V)) : Nat := (ws.map (·.1.size)).sum
def pany (ws : List (Th × V)) : Bool := ws.all (·.1.any)
/-- between two turns of is_kind_of_any_size -/
def AW (K : PySem.W.Frag) (H : Hp) (t : Th) (v : V) (wl : Addr) : Nat → St → Hp → Prop := fun m σ H' => ∃ (ws : List (Th × V)) (p2 : Option V), m = psz ws ∧ σ = [some v, some (.ref wl), p2] ∧ Same H H' ∧
  H' wl = some (.lst (ws.map (·.2))) ∧ (∀ s ∈ ws, ThAt K H s.1 s.2) ∧ pany ws = t.any ∧ psz ws ≤ t.size
theorem len_psz : ∀ ws : List (Th × V), ws.length ≤ psz ws
  | [] => Nat.le_refl _
  | s :: ws => by
    have h := len_psz ws
    have p := s.1.size_pos
    simp only [psz, List.map_cons, List.sum_cons, List.length_cons] at *
    omega
def spAny (K : PySem.W.Frag) : Sp := fun vs H Q _ => ∃ (v : V) (t : Th), vs = [v] ∧ ThAt K H t v ∧ t.size ≤ 10000 ∧ ∀ H', Same H H' → Q (.bl t.any) H'
section
variable {P : Program} {w : World} {K : PySem.W.Frag} {mg : Str → Option Value} {base : Heap}
theorem scAny : FnScope ["thing", "waiting", "part"] ["thing"] (defScope sAny) := ⟨rfl, rfl, rfl, by decide +kernel, rfl, by decide +kernel, by decide +kernel⟩
theorem ok_any {f fL f1 f2 fP : Addr} {fd fdL fd1 fd2 fdP : FuncData} (F : Fn K mg "is_kind_of_any_size" sAny ["thing"] f fd) (NL : Fn K mg "is_letter" sLetter ["thing"] fL fdL) (N2 : Fn K mg "is_integer_within" sWithin ["low", "high", "thing"] f2 fd2) (N1 : Fn K mg "is_integer" sInteger ["thing"] f1 fd1)
    (NP : Fn K mg "is_pair" sPair ["thing"] fP fdP) (T : TxB mg) (T2 : TxK mg) : FnOk P w K mg base CX0 4 f fd ["thing"] (spAny K) := by
  have GL : FnOk P w K mg base CX0 3 fL fdL ["thing"] (spLetter K) := ok_letter NL N2 N1 T T2
  have GP : FnOk P w K mg base CX0 1 fP fdP ["thing"] (spPair K) := ok_pair NP T T2
  refine F.F.ok scAny (fun vs H Q E h => ?_) (fun cdv A outer s H vs Q E hr h => ?_)
  · obtain ⟨v, t, rfl, _⟩ := h
    rfl
  · obtain ⟨v, t, rfl, hv, hz, k⟩ := h
    have nd := scAny.nd
    have hr1 := hr.mono (show 1 ≤ 3 by decide)
    refine ⟨_, pss_cons (ps_set (i := 1) nd rfl (Or.inl rfl) (pe_lst (pa_cons (pv 0) pa_nil)))
      (pss_cons (ps_while PassesOwn.never (pt_truth (pv 1) (by intro _; rfl))
        (pss_cons (ps_set (i := 2) nd rfl (Or.inl rfl) (pe_bm0 PySem.F.plainAttrs_list PySem.F.slot_list_pop PySem.F.type_list_pop mt_pop (pv 1)))
        (pss_one (ps_if (pt_val (pe_call GP hr1 (by rfl) NP.m NP.F.kp NP.b .nil pass0 (pa_cons (pv 2) pa_nil)))
          (pss_one (ps_expr (pe_bm PySem.F.plainAttrs_list PySem.F.slot_list_extend PySem.F.type_list_extend mt_extend (pv 1) (pa_cons (pe_lst (pa_cons (pe_ix ix_tup (pv 2) pe_int (fun _ _ => rfl)) (pa_cons (pe_ix ix_tup (pv 2) pe_int (fun _ _ => rfl)) pa_nil))) pa_nil))))
          (pss_one (ps_if (pt_not (pt_val (pe_call GL hr (by rfl) NL.m NL.F.kp NL.b .nil pass0 (pa_cons (pv 2) pa_nil)))) (pss_one (ps_ret pe_bl)) pss_nil))))))
      (pss_one (ps_ret pe_bl))), ?_⟩
    refine ⟨_, rfl, (by show 1 ≤ sizeLine; decide), fun wl hw => ?_⟩
    refine ⟨AW K H t v wl, ⟨_, [(t, v)], none, rfl, rfl, same_new (same_refl H) hw, upd_same, fun s hs => ?_, (by simp [pany]), (by simp [psz])⟩, ?_⟩
    · rw [List.mem_singleton] at hs
      subst hs
      exact hv
    · rintro m σ H' ⟨ws, p2, rfl, rfl, hs, hwl, hws, hj, hz'⟩
      refine ⟨_, rfl, _, .inl ⟨_, SqL.of hwl, rfl⟩, ?_⟩
      rcases nil_or_snoc ws with rfl | ⟨ws', s1, rfl⟩
      · refine ifF rfl ?_
        have e := k H' hs
        rw [← hj] at e
        exact e
      · rw [List.map_append] at hwl
        refine ifT (by simp) ?_
        have t2 := hws s1 (List.mem_append_right _ List.mem_cons_self)
        refine ⟨fun σ'' H'' => ∃ m', m' < psz (ws' ++ [s1]) ∧ AW K H t v wl m' σ'' H'', fun σ'' H'' z => z, ?_⟩
        refine ⟨_, rfl, .inl ⟨rfl, _, SqL.of hwl⟩, wl, _, s1.2, rfl, rfl, hwl, (by simp), ?_⟩
        have dl : (List.map (fun x : Th × V => x.2) ws' ++ List.map (fun x : Th × V => x.2) [s1]).dropLast = List.map (fun x : Th × V => x.2) ws' := by simp
        rw [dl]
        generalize hG : upd H' wl (.lst (List.map (fun x : Th × V => x.2) ws')) = H1
        have g1 : H1 wl = some (.lst (List.map (fun x : Th × V => x.2) ws')) := by rw [← hG]; exact upd_same
        have g3 : Same H H1 := fun b o e => by rw [← hG, upd_ne (ne_of_none e hw)]; exact hs b o e
        have hsz : psz (ws' ++ [s1]) = psz ws' + s1.1.size := by simp [psz]
        have hp := s1.1.size_pos
        have hj2 : (pany ws' && s1.1.any) = t.any := by rw [← hj]; simp [pany]
        clear hG
        refine ⟨_, rfl, s1.2, s1.1, rfl, t2.same g3, _, rfl, ?_⟩
        refine ite2 (fun cP => ?_) (fun cP => ?_)
        · obtain ⟨l, r, et⟩ : ∃ l r, s1.1 = .pr l r := by
            cases e : s1.1 <;> rw [e] at cP <;> first | exact ⟨_, _, rfl⟩ | cases cP
          rw [et] at t2 hj2 hsz
          obtain ⟨pa, x, y, ev, hpa, tl, tr⟩ := t2
          have hp1 := g3 _ _ hpa
          refine ⟨_, rfl, .inl ⟨rfl, _, SqL.of g1⟩, ?_⟩
          refine ⟨_, rfl, pa, _, _, x, ev, rfl, SqT.of hp1, rfl, _, rfl, pa, _, _, y, ev, rfl, SqT.of hp1, rfl, (by show 2 ≤ sizeLine; decide), fun l2 hl2 => ?_⟩
          have a3 := same_new (o := .lst [x, y]) (same_refl H1) hl2
          have lw := len_psz ws'
          have e1 : (Th.pr l r).size = l.size + r.size + 1 := rfl
          refine ⟨wl, l2, _, _, rfl, rfl, a3 _ _ g1, upd_same, (by rw [List.length_map]; show ws'.length + 2 ≤ sizeLine; exact Nat.le_of_lt (Nat.lt_of_le_of_lt (m := 20000) (by omega) (by decide))), ?_⟩
          refine ⟨psz ws' + (l.size + r.size), by omega, ws' ++ [(l, x), (r, y)], _, by simp [psz], rfl, fun b o e => ?_, ?_, fun s hs' => ?_, ?_, by simp only [psz, List.map_append, List.map_cons, List.map_nil, List.sum_append, List.sum_cons, List.sum_nil] at *; omega⟩
          · rw [upd_ne (ne_of_none e hw)]; exact a3 _ _ (g3 _ _ e)
          · rw [upd_same]; simp
          · rcases List.mem_append.mp hs' with hs1 | hs1
            · exact hws s (List.mem_append_left _ hs1)
            · simp only [List.mem_cons, List.not_mem_nil, or_false] at hs1
              rcases hs1 with rfl | rfl
              · exact tl
              · exact tr
          · rw [← hj2]
            simp [pany, Th.any]
        · refine ⟨_, rfl, s1.2, s1.1, rfl, t2.same g3, _, rfl, ?_⟩
          have anyL : s1.1.any = s1.1.letter := by
            cases e : s1.1 <;> first | rfl | (exfalso; rw [e] at cP; exact cP rfl)
          rw [anyL] at hj2
          refine ite2 (fun cL => ?_) (fun cL => ?_)
          · have e2 : s1.1.letter = false := by simpa using cL
            rw [e2, Bool.and_false] at hj2
            have e := k H1 g3
            rw [← hj2] at e
            exact e
          · have e2 : s1.1.letter = true := by simpa using cL
            rw [e2, Bool.and_true] at hj2
            exact ⟨psz ws', by omega, ws', _, rfl, rfl, g3, g1, fun s h => hws s (List.mem_append_left _ h), hj2, by omega⟩
end
end LG

set_option Elab.async false
set_option linter.all false
set_option maxRecDepth 100000
set_option maxHeartbeats 2000000
namespace LG
open PySem L2
abbrev sName : Stmt := top 14
def letters : Str := "abcdefghijklmnopqrstuvwxyz"
def nameB (z : Str) : Bool := decide (1 ≤ z.length) && decide (z.length ≤ 8) && z.cps.toList.all fun c => decide (c ∈ letters.cps.toList)
/-- a text, or what is none -/
def StAt (K : PySem.W.Frag) (H : Hp) : Option Str → V → Prop
  | some z, v => v = .str z ∧ z.length ≤ 1000000
  | none, v => ∃ tv, TyX K H v tv ∧ PySem.W.kitOne K tv (.type "str") = some false
theorem StAt.same {K : PySem.W.Frag} {H H' : Hp} {o : Option Str} {v : V} (h : StAt K H o v) (s : Same H H') : StAt K H' o v := by
  cases o with
  | some z => exact h
  | none =>
    obtain ⟨tv, a, b⟩ := h
    exact ⟨tv, tyx_same s a, b⟩
theorem StAt.ty {K : PySem.W.Frag} {H : Hp} {o : Option Str} {v : V} (h : StAt K H o v) : ∃ tv, TyX K H v tv ∧ PySem.W.kitOne K tv (.type "str") = some o.isSome := by
  cases o with
  | some z =>
    obtain ⟨e, _⟩ := h
    subst e
    exact ⟨_, .base (.str z), kit_ty (r := true) (by decide +kernel)⟩
  | none => exact h
def nmB : Option Str → Bool
  | some z => nameB z
  | none => false
/-- names of the module -/
structure TxN (mg : Str → Option Value) : Prop where
  let_ : ∃ u, mg "NAME_LETTERS" = some (.str letters u)
  long : ∃ u, mg "LONGEST_NAME" = some (.int 8 u)
def spName (K : PySem.W.Frag) : Sp := fun vs H Q _ => ∃ (v : V) (o : Option Str), vs = [v] ∧ StAt K H o v ∧ ∀ H', Same H H' → Q (.bl (nmB o)) H'
section
variable {P : Program} {w : World} {K : PySem.W.Frag} {mg : Str → Option Value} {base : Heap}
theorem scName : FnScope ["thing", "sign"] ["thing"] (defScope sName) := ⟨rfl, rfl, rfl, by decide +kernel, rfl, by decide +kernel, by decide +kernel⟩
theorem ok_name {f : Addr} {fd : FuncData} (F : Fn K mg "is_name" sName ["thing"] f fd) (T : TxB mg) (T2 : TxD mg) (TN : TxN mg) : FnOk P w K mg base CX0 1 f fd ["thing"] (spName K) := by
  obtain ⟨uL, hL⟩ := TN.let_
  obtain ⟨u8, h8⟩ := TN.long
  refine F.F.ok scName (fun vs H Q E h => ?_) (fun cdv A outer s H vs Q E hr h => ?_)
  · obtain ⟨_, _, rfl, _⟩ := h
    rfl
  · obtain ⟨v, o, rfl, hv, kq⟩ := h
    have nd := scName.nd
    refine ⟨_, pss_cons (ps_if (PW.pt (pw_or (pt_not (pt_val (pe_callB call_isi (by rfl) T.isinstance (by decide +kernel) (pa_cons (pv 0) (pa_cons (pe_bltn (v := .ty "str") (by rfl) T2.str (by decide +kernel) rfl) pa_nil)))))
        (pw_or1 (pt_not (pt_chain op_le op_le pe_int (pe_callB call_len_str (by rfl) T.len PySem.boot_len (pa_cons (pv 0) pa_nil)) (pe_glob (v := .int 8) (by rfl) h8 ⟨_, rfl⟩)))))) (pss_one (ps_ret pe_bl)) pss_nil)
      (pss_one (ps_ret (pe_callB (cr_all rfl) (by rfl) T.all (by decide +kernel) (pa_cons (pe_lc (own := [("sign", 1)]) (g := gName 1) (tt := tYes) rfl nd (pi_str (pv 0))
        (blkOk_by (N := ["thing", "sign"]) (sc := defScope sName) (by decide +kernel)) (fun _ _ _ _ _ => pg_name (i := 1) nd rfl (Or.inl rfl)) (fun _ _ _ _ _ => pts_nil)
        (fun _ _ _ _ _ => pe_cmpR op_in_sign (pv 1) (pe_glob (v := .str letters) (by rfl) hL ⟨_, rfl⟩) (by rfl))) pa_nil)))), ?_⟩
    obtain ⟨tv, ty, kt⟩ := hv.ty
    refine ⟨_, rfl, _, _, _, _, _, rfl, .ty _, ty, kt, _, rfl, ?_⟩
    cases o with
    | none =>
      refine ifT rfl ?_
      exact kq H (same_refl H)
    | some z =>
      refine ifF rfl ?_
      obtain ⟨rfl, hz⟩ := hv
      have e : nmB (some z) = (decide (1 ≤ z.length) && decide (z.length ≤ 8) && z.cps.toList.all fun c => decide (c ∈ letters.cps.toList)) := rfl
      refine ⟨_, rfl, z, rfl, big2 (by omega), _, _, rfl, rfl, _, rfl, ?_⟩
      refine ite2 (fun d1 => ?_) (fun d1 => ?_)
      · have d1' : 1 ≤ z.length := by have := of_decide_eq_true d1; omega
        refine ⟨_, _, rfl, rfl, _, rfl, ?_⟩
        refine ite2 (fun d2 => ?_) (fun d2 => ?_)
        · have d2' : ¬ z.length ≤ 8 := fun q => by
            rw [decide_eq_true (show (z.length : Int) ≤ 8 by omega)] at d2
            cases d2
          have k2 := kq H (same_refl H)
          rw [e, decide_eq_false d2', Bool.and_false, Bool.false_and] at k2
          exact k2
        · have d2' : z.length ≤ 8 := by
            refine Classical.byContradiction fun q => d2 ?_
            rw [decide_eq_false (show ¬ (z.length : Int) ≤ 8 by omega)]; rfl
          refine ⟨_, rfl, z, rfl, fun D hD => ?_⟩
          have zs : z.cps.size ≤ 8 := d2'
          refine lc_it walk_str (fun i H' => Same H H' ∧ H' D = some (.lst (((z.cps.toList.take i).map fun c => decide (c ∈ letters.cps.toList)).map V.bl))) ⟨same_new (same_refl H) hD, upd_same⟩ (fun _ _ _ _ => trivial) ?_ ?_
          · rintro i _ H' _ hi ⟨h1, h2⟩ ⟨rfl, c, hc, rfl⟩
            refine ⟨rfl, ?_⟩
            refine yes_kept ?_
            refine ⟨_, rfl, c, letters, rfl, rfl, ?_⟩
            refine ⟨_, h2, (by rw [List.length_map, List.length_map, List.length_take]; exact room2 (by omega)), fun b u e => by rw [upd_ne (ne_of_none e hD)]; exact h1 b u e, ?_⟩
            have hc' : z.cps.toList[i]? = some c := by rw [Array.getElem?_toList]; exact hc
            rw [upd_same, List.take_add_one, hc', List.map_append, List.map_append]; rfl
          · rintro H' ⟨h1, h2⟩
            rw [List.take_of_length_le (by rw [Array.length_toList]; exact Nat.le_refl _)] at h2
            refine ⟨D, _, rfl, SqL.of h2, ?_⟩
            have k2 := kq H' h1
            rw [e, decide_eq_true d1', decide_eq_true d2', Bool.and_self, Bool.true_and] at k2
            rw [List.all_map]
            exact k2
      · have d1' : ¬ 1 ≤ z.length := fun q => d1 (decide_eq_true (by omega))
        refine ⟨_, rfl, ?_⟩
        refine ifT rfl ?_
        have k2 := kq H (same_refl H)
        rw [e, decide_eq_false d1', Bool.false_and, Bool.false_and] at k2
        exact k2
end
end LG

set_option Elab.async false
set_option linter.all false
set_option maxRecDepth 100000
set_option maxHeartbeats 4100000
namespace LG
open PySem L2
abbrev sIsTake : Stmt := top 17
abbrev sMade : Stmt := top 18
abbrev sFit : Stmt := top 19
theorem ite_via {c : Bool} {X Y : Prop} (h : c = true → Y → X) (y : Y) : if c = true then X else Y := by
  by_cases e : c = true
  · rw [if_pos e]; exact h e y
  · rw [if_neg e]; exact y
/-! ### words as data: a text; a pair; what is neither -/
inductive Wd where
  | st (z : Str)
  | pr (o : Option Str) (t : Th)
  | no
def WdAt (K : PySem.W.Frag) (H : Hp) : Wd → V → Prop
  | .st z, v => v = .str z ∧ z.length ≤ 1000000
  | .pr o t, v => ∃ a x y, v = .ref a ∧ H a = some (.tup [x, y]) ∧ StAt K H o x ∧ (∃ tx, ThAt K H tx x) ∧ ThAt K H t y ∧ t.size ≤ 10000
  | .no, v => (∃ tv, TyX K H v tv ∧ PySem.W.kitOne K tv (.type "str") = some false) ∧ ∃ t, ThAt K H t v ∧ t.isPr = false
theorem WdAt.same {K : PySem.W.Frag} {H H' : Hp} (s : Same H H') : ∀ {w : Wd} {v : V}, WdAt K H w v → WdAt K H' w v
  | .st _, _, h => h
  | .pr _ _, _, ⟨a, x, y, e, h, h1, ⟨tx, h0⟩, h2, h3⟩ => ⟨a, x, y, e, s _ _ h, h1.same s, ⟨tx, h0.same s⟩, h2.same s, h3⟩
  | .no, _, ⟨⟨tv, a, b⟩, t, h, p⟩ => ⟨⟨tv, tyx_same s a, b⟩, t, h.same s, p⟩
/-- a word as a text asks it -/
def Wd.text : Wd → Option Str
  | .st z => some z
  | _ => none
def Wd.thing : Wd → Bool
  | .pr _ _ => true
  | _ => false
theorem WdAt.st {K : PySem.W.Frag} {H : Hp} {w : Wd} {v : V} (h : WdAt K H w v) : StAt K H w.text v := by
  cases w with
  | st z => exact h
  | pr o t =>
    obtain ⟨a, x, y, rfl, ha, _⟩ := h
    exact ⟨_, .base (.tup ha), kit_ty (r := false) (by decide +kernel)⟩
  | no => exact h.1
theorem WdAt.th {K : PySem.W.Frag} {H : Hp} {w : Wd} {v : V} (h : WdAt K H w v) : ∃ t, ThAt K H t v ∧ t.isPr = w.thing := by
  cases w with
  | st z =>
    obtain ⟨rfl, _⟩ := h
    exact ⟨.non, ⟨_, .base (.str z), kit_ty (r := false) (by decide +kernel), kit_ty (r := false) (by decide +kernel)⟩, rfl⟩
  | pr o t =>
    obtain ⟨a, x, y, rfl, ha, _, ⟨tx, hx⟩, ht, _⟩ := h
    exact ⟨.pr tx t, ⟨a, x, y, rfl, ha, hx, ht⟩, rfl⟩
  | no =>
    obtain ⟨_, t, ht, p⟩ := h
    exact ⟨t, ht, p⟩
theorem WdAt.ty {K : PySem.W.Frag} {H : Hp} {w : Wd} {v : V} (h : WdAt K H w v) : ∃ tv, TyX K H v tv ∧ PySem.W.kitOne K tv (.type "str") = some w.text.isSome := h.st.ty
/-! ### what a word is in a program; how many parts words make, from behind -/
def Wd.use : Wd → Bool
  | .st z => decide (z = "@")
  | _ => false
def Wd.name : Wd → Bool
  | .st z => nameB z
  | _ => false
def Wd.take (fit : Th → Bool) : Wd → Bool
  | .pr (some z) t => nameB z && fit t
  | _ => false
def stepC (fit : Th → Bool) (w : Wd) (m : Nat) : Option Nat := if w.use = true then (if m < 2 then none else some (m - 1)) else if w.name = true then some (m + 1) else if decide (m < 1) || !w.take fit then none else some m
def cntC (fit : Th → Bool) : List Wd → Option Nat
  | [] => some 0
  | w :: r => (cntC fit r).bind (stepC fit w)
def progB (fit : Th → Bool) (ws : List Wd) : Bool := decide (cntC fit ws = some 1)
theorem cnt_le {fit : Th → Bool} : ∀ {ws : List Wd} {m : Nat}, cntC fit ws = some m → m ≤ ws.length
  | [], m, h => by cases h; exact Nat.le_refl _
  | w :: r, m, h => by
    cases e : cntC fit r with
    | none => rw [cntC, e] at h; cases h
    | some k =>
      have := cnt_le e
      rw [cntC, e] at h
      have h : stepC fit w k = some m := h
      rw [List.length_cons]
      unfold stepC at h
      split at h
      · split at h
        · cases h
        · cases h; omega
      · split at h
        · cases h; omega
        · split at h
          · cases h
          · cases h; omega
/-- words, one by one -/
def WdsAt (K : PySem.W.Frag) (H : Hp) (ws : List Wd) (vs : List V) : Prop := vs.length = ws.length ∧ ∀ (i : Nat) w v, ws[i]? = some w → vs[i]? = some v → WdAt K H w v
theorem WdsAt.same {K : PySem.W.Frag} {H H' : Hp} {ws : List Wd} {vs : List V} (h : WdsAt K H ws vs) (s : Same H H') : WdsAt K H' ws vs := ⟨h.1, fun i w v a b => (h.2 i w v a b).same s⟩
/-- a program's words at a tuple -/
def PgAt (K : PySem.W.Frag) (H : Hp) (ws : List Wd) (v : V) : Prop := ∃ a vs, v = .ref a ∧ H a = some (.tup vs) ∧ WdsAt K H ws vs ∧ ws.length ≤ 1000000
theorem PgAt.same {K : PySem.W.Frag} {H H' : Hp} {ws : List Wd} {v : V} (h : PgAt K H ws v) (s : Same H H') : PgAt K H' ws v := by
  obtain ⟨a, vs, e, ha, hw, l⟩ := h
  exact ⟨a, vs, e, s _ _ ha, hw.same s, l⟩
def spIsTake (K : PySem.W.Frag) : Sp := fun vs H Q _ => ∃ (v : V) (w : Wd), vs = [v] ∧ WdAt K H w v ∧ w ≠ .no ∧ Q (.bl w.thing) H
def spFitF (K : PySem.W.Frag) (fit : Th → Bool) : Sp := fun vs H Q _ => ∃ (v : V) (t : Th), vs = [v] ∧ ThAt K H t v ∧ t.size ≤ 10000 ∧ ∀ H', Same H H' → Q (.bl (fit t)) H'
def spFit (K : PySem.W.Frag) (g : Addr) (fit : Th → Bool) : Sp := fun vs H Q _ => ∃ (v : V) (w : Wd), vs = [v, .ref g] ∧ WdAt K H w v ∧ ∀ H', Same H H' → Q (.bl (w.take fit)) H'
def spMade (K : PySem.W.Frag) (g : Addr) (fit : Th → Bool) : Sp := fun vs H Q _ => ∃ (v : V) (ws : List Wd), vs = [v, .ref g] ∧ PgAt K H ws v ∧ ∀ H', Same H H' → Q (.bl (progB fit ws)) H'
section
variable {P : Program} {w : World} {K : PySem.W.Frag} {mg : Str → Option Value} {base : Heap}
theorem scIsTake : FnScope ["word"] ["word"] (defScope sIsTake) := ⟨rfl, rfl, rfl, by decide +kernel, rfl, by decide +kernel, by decide +kernel⟩
theorem ok_isTake {f : Addr} {fd : FuncData} (F : Fn K mg "is_take" sIsTake ["word"] f fd) (T : TxB mg) (T2 : TxD mg) : FnOk P w K mg base CX0 1 f fd ["word"] (spIsTake K) := by
  refine F.F.ok scIsTake (fun vs H Q E h => ?_) (fun cdv A outer s H vs Q E hr h => ?_)
  · obtain ⟨_, _, rfl, _⟩ := h
    rfl
  · obtain ⟨v, w, rfl, hv, hn, kq⟩ := h
    refine ⟨_, pss_one (ps_ret (pe_callB call_isi (by rfl) T.isinstance (by decide +kernel) (pa_cons (pv 0) (pa_cons (pe_bltn (v := .ty "tuple") (by rfl) T2.tuple (by decide +kernel) rfl) pa_nil)))), ?_⟩
    obtain ⟨tv, ty, kt⟩ : ∃ tv, TyX K H v tv ∧ PySem.W.kitOne K tv (.type "tuple") = some w.thing := by
      cases w with
      | st z =>
        obtain ⟨rfl, _⟩ := hv
        exact ⟨_, .base (.str z), kit_ty (r := false) (by decide +kernel)⟩
      | pr o t =>
        obtain ⟨a, x, y, rfl, ha, _⟩ := hv
        exact ⟨_, .base (.tup ha), kit_ty (r := true) (by decide +kernel)⟩
      | no => exact absurd rfl hn
    exact ⟨_, rfl, _, _, _, _, _, rfl, .ty _, ty, kt, kq⟩
theorem scFit : FnScope ["word", "is_fit"] ["word", "is_fit"] (defScope sFit) := ⟨rfl, rfl, rfl, by decide +kernel, rfl, by decide +kernel, by decide +kernel⟩
theorem ok_fit {f fP fN g : Addr} {fd fdP fdN gd : FuncData} {n : Nat} {fit : Th → Bool} (F : Fn K mg "_is_fit_take" sFit ["word", "is_fit"] f fd) (NP : Fn K mg "is_pair" sPair ["thing"] fP fdP) (NN : Fn K mg "is_name" sName ["thing"] fN fdN)
    (GG : FnOk P w K mg base CX0 n g gd ["thing"] (spFitF K fit)) (kG : PySem.W.keepIn K (.ref g) = true) (bG : Binds K gd ["thing"] []) (hn : 1 ≤ n) (T : TxB mg) (T2 : TxK mg) (TN : TxN mg) : FnOk P w K mg base CX0 (n + 1) f fd ["word", "is_fit"] (spFit K g fit) := by
  have GP : FnOk P w K mg base CX0 1 fP fdP ["thing"] (spPair K) := ok_pair NP T T2
  have GN : FnOk P w K mg base CX0 1 fN fdN ["thing"] (spName K) := ok_name NN T T2.toTxD TN
  refine F.F.ok scFit (fun vs H Q E h => ?_) (fun cdv A outer s H vs Q E hr h => ?_)
  · obtain ⟨_, _, rfl, _⟩ := h
    rfl
  · obtain ⟨v, w, rfl, hv, kq⟩ := h
    have hr1 := hr.mono hn
    refine ⟨_, pss_one (ps_ret (pe_and (pe_call GP hr1 (by rfl) NP.m NP.F.kp NP.b .nil pass0 (pa_cons (pv 0) pa_nil)) (pe_and (pe_call GN hr1 (by rfl) NN.m NN.F.kp NN.b .nil pass0 (pa_cons (pe_ix ix_tup (pv 0) pe_int (fun _ _ => rfl)) pa_nil))
      (pe_one (pe_callL (i := 1) GG hr rfl (.inl rfl) kG bG .nil pass0 (pa_cons (pe_ix ix_tup (pv 0) pe_int (fun _ _ => rfl)) pa_nil)))))), ?_⟩
    obtain ⟨t, ht, pt⟩ := hv.th
    refine ⟨_, rfl, v, t, rfl, ht, _, rfl, ?_⟩
    rw [pt]
    have s0 := same_refl H
    cases w with
    | st z => exact iteF (kq H s0)
    | no => exact iteF (kq H s0)
    | pr o tk =>
      refine iteT ?_
      obtain ⟨a, x, y, rfl, ha, hx, _, hy, hz⟩ := hv
      refine ⟨_, rfl, a, _, _, _, rfl, rfl, SqT.of ha, rfl, x, o, rfl, hx, fun H1 s1 => ⟨_, rfl, ?_⟩⟩
      cases o with
      | none => exact iteF (kq H1 s1)
      | some z =>
        have e : (Wd.pr (some z) tk).take fit = (nameB z && fit tk) := rfl
        refine ite2 (fun c => ?_) (fun c => ?_)
        · have c : nameB z = true := c
          rw [e, c, Bool.true_and] at kq
          exact ⟨rfl, _, rfl, a, _, _, _, rfl, rfl, SqT.of (s1 _ _ ha), rfl, y, tk, rfl, hy.same s1, hz, fun H2 s2 => kq H2 (same_trans s1 s2)⟩
        · have c : nameB z = false := Bool.eq_false_iff.mpr c
          rw [e, c, Bool.false_and] at kq
          exact kq H1 s1
theorem scMade : FnScope ["thing", "is_fit", "many", "word"] ["thing", "is_fit"] (defScope sMade) := ⟨rfl, rfl, rfl, by decide +kernel, rfl, by decide +kernel, by decide +kernel⟩
theorem ok_made {f fF fP fN g : Addr} {fd fdF fdP fdN gd : FuncData} {n : Nat} {fit : Th → Bool} (F : Fn K mg "is_made_of_words" sMade ["thing", "is_fit"] f fd) (NF : Fn K mg "_is_fit_take" sFit ["word", "is_fit"] fF fdF) (NP : Fn K mg "is_pair" sPair ["thing"] fP fdP) (NN : Fn K mg "is_name" sName ["thing"] fN fdN)
    (GG : FnOk P w K mg base CX0 n g gd ["thing"] (spFitF K fit)) (kG : PySem.W.keepIn K (.ref g) = true) (bG : Binds K gd ["thing"] []) (hn : 1 ≤ n) (hu : ∃ u, mg "USE" = some (.str "@" u)) (T : TxB mg) (T2 : TxK mg) (TN : TxN mg) : FnOk P w K mg base CX0 (n + 2) f fd ["thing", "is_fit"] (spMade K g fit) := by
  have GF : FnOk P w K mg base CX0 (n + 1) fF fdF ["word", "is_fit"] (spFit K g fit) := ok_fit NF NP NN GG kG bG hn T T2 TN
  have GN : FnOk P w K mg base CX0 1 fN fdN ["thing"] (spName K) := ok_name NN T T2.toTxD TN
  obtain ⟨uU, hU⟩ := hu
  refine F.F.ok scMade (fun vs H Q E h => ?_) (fun cdv A outer s H vs Q E hr h => ?_)
  · obtain ⟨_, _, rfl, _⟩ := h
    rfl
  · obtain ⟨v, ws, rfl, hv, kq⟩ := h
    have nd := scMade.nd
    have hr1 := hr.mono (show 1 ≤ n + 1 by omega)
    refine ⟨_, pss_cons (ps_if (pt_not (pt_val (pe_callB call_isi (by rfl) T.isinstance (by decide +kernel) (pa_cons (pv 0) (pa_cons (pe_bltn (v := .ty "tuple") (by rfl) T2.tuple (by decide +kernel) rfl) pa_nil))))) (pss_one (ps_ret pe_bl)) pss_nil)
      (pss_cons (ps_set (i := 2) nd rfl (Or.inl rfl) pe_int)
      (pss_cons (ps_for PassesOwn.never rfl (RT.pi_revA (by rfl) T2.reversed (pv 0)) (pg_name (i := 3) nd rfl (Or.inl rfl))
        (pss_one (ps_if (PW.pt (pw_and (pt_val (pe_callB call_isi (by rfl) T.isinstance (by decide +kernel) (pa_cons (pv 3) (pa_cons (pe_bltn (v := .ty "str") (by rfl) T2.str (by decide +kernel) rfl) pa_nil)))) (pw_and1 (pt_cmpR op_eq (pv 3) (pe_glob (v := .str "@") (by rfl) hU ⟨_, rfl⟩) (nomark _)))))
          (pss_cons (ps_if (pt_cmpR op_lt (pv 2) pe_int (nomark _)) (pss_one (ps_ret pe_bl)) pss_nil) (pss_one (ps_aug (i := 2) nd rfl (.inl rfl) pe_int ip_sub)))
          (pss_one (ps_if (pt_val (pe_call GN hr1 (by rfl) NN.m NN.F.kp NN.b .nil pass0 (pa_cons (pv 3) pa_nil))) (pss_one (ps_aug (i := 2) nd rfl (.inl rfl) pe_int ip_add))
            (pss_one (ps_if (PW.pt (pw_or (pt_cmpR op_lt (pv 2) pe_int (nomark _)) (pw_or1 (pt_not (pt_val (pe_call GF hr (by rfl) NF.m NF.F.kp NF.b .nil pass0 (pa_cons (pv 3) (pa_cons (pv 1) pa_nil)))))))) (pss_one (ps_ret pe_bl)) pss_nil)))))))
      (pss_one (ps_ret (pe_cmpR op_eq (pv 2) pe_int (nomark _)))))), ?_⟩
    obtain ⟨a, vs, rfl, ha, hw, hl⟩ := hv
    have lv := hw.1
    refine ⟨_, rfl, _, _, _, _, _, rfl, .ty _, .base (.tup ha), kit_ty (r := true) (by decide +kernel), _, rfl, ?_⟩
    refine ifF rfl ?_
    refine ⟨_, rfl, a, _, rfl, .inr ⟨SqT.of ha, ?_⟩⟩
    have walk_revT : Walk (RT.ItvT K a vs.length) vs.length (fun H => SqT K H a vs) (fun i H x H' => H' = H ∧ vs[vs.length - 1 - i]? = some x) :=
      ⟨fun i H hi h => ⟨hi, vs, vs[vs.length - 1 - i], h, List.getElem?_eq_getElem (by omega)⟩, fun H _ => Nat.le_refl _, fun i H x H' _ h y => ⟨y.1, y.2 vs h⟩⟩
    -- none from behind: no program
    have bad : ∀ i, i ≤ ws.length → cntC fit (ws.drop (ws.length - i)) = none → cntC fit ws = none := fun i => by
      intro hi h
      have key : ∀ k, k ≤ ws.length → cntC fit (ws.drop k) = none → cntC fit ws = none := by
        intro k
        induction k with
        | zero => intro _ h; rwa [List.drop_zero] at h
        | succ k ih =>
          intro hk h
          refine ih (by omega) ?_
          rw [List.drop_eq_getElem_cons (by omega), cntC, h]; rfl
      exact key _ (by omega) h
    refine for_it walk_revT (fun i σ H' => ∃ (m : Nat) (t3 : Option V), σ = [some (.ref a), some (.ref g), some (.int (m : Int)), t3] ∧ Same H H' ∧ cntC fit (ws.drop (ws.length - i)) = some m) ⟨0, none, rfl, same_refl H, by rw [Nat.sub_zero, List.drop_length]; rfl⟩ (fun i σ H' _ ⟨_, _, _, s, _⟩ => SqT.of (s _ _ ha)) ?_ ?_
    · rintro i x σ H0 H1 hi ⟨m, t3, rfl, s1, hm⟩ ⟨rfl, hx⟩
      have hj : ws.length - 1 - i < ws.length := by omega
      have hwj : ws[ws.length - 1 - i]? = some ws[ws.length - 1 - i] := List.getElem?_eq_getElem hj
      rw [lv] at hx
      have wd := (hw.2 _ _ _ hwj hx).same s1
      generalize ws[ws.length - 1 - i] = wj at hwj wd
      have nx : cntC fit (ws.drop (ws.length - (i + 1))) = stepC fit wj m := by
        have e1 : ws.length - (i + 1) = ws.length - 1 - i := by omega
        have e2 : ws.length - 1 - i + 1 = ws.length - i := by omega
        rw [e1, List.drop_eq_getElem_cons hj, e2, cntC, hm]
        rw [List.getElem?_eq_getElem hj] at hwj
        rw [Option.some.inj hwj]; rfl
      have ml := cnt_le hm
      rw [List.length_drop] at ml
      have dead : stepC fit wj m = none → progB fit ws = false := fun e => by
        unfold progB
        rw [bad (i + 1) (by omega) (nx.trans e)]
        exact decide_eq_false (fun z => by cases z)
      obtain ⟨tv, ty, kt⟩ := wd.ty
      by_cases hU' : wj.use = true
      · obtain ⟨z, rfl⟩ : ∃ z, wj = .st z := by
          cases wj with
          | st z => exact ⟨z, rfl⟩
          | pr o t => cases hU'
          | no => cases hU'
        obtain rfl : z = "@" := of_decide_eq_true hU'
        obtain ⟨rfl, _⟩ := wd
        refine ⟨_, rfl, _, _, _, _, _, rfl, .ty _, ty, kt, _, rfl, ?_⟩
        refine ifT rfl ?_
        refine ⟨_, rfl, rfl, _, rfl, ?_⟩
        refine ifT (decide_eq_true rfl) ?_
        refine ⟨_, rfl, _, _, rfl, rfl, _, rfl, ?_⟩
        have st : stepC fit (.st "@") m = if m < 2 then none else some (m - 1) := rfl
        refine ite2 (fun c => ?_) (fun c => ?_)
        · have c2 : m < 2 := by have := of_decide_eq_true c; omega
          rw [if_pos c2] at st
          have k2 := kq H1 s1
          rw [dead st] at k2
          exact k2
        · have c2 : ¬ m < 2 := fun q => c (decide_eq_true (by omega))
          rw [if_neg c2] at st
          refine ⟨_, rfl, _, _, rfl, rfl, m - 1, some (.str "@"), ?_, s1, nx.trans st⟩
          show [some (V.ref a), some (V.ref g), some (V.int ((m : Int) - 1)), some (.str "@")] = _
          rw [show (m : Int) - 1 = ((m - 1 : Nat) : Int) by omega]
      · have nu : wj.use = false := Bool.eq_false_iff.mpr hU'
        refine ⟨_, rfl, _, _, _, _, _, rfl, .ty _, ty, kt, _, rfl, ?_⟩
        refine ite_via (fun c y => ?_) ?_
        · cases wj with
          | st z =>
            obtain ⟨rfl, _⟩ := wd
            refine ⟨_, rfl, rfl, _, rfl, ?_⟩
            refine ifF (decide_eq_false fun e => ?_) y
            have : (Wd.st z).use = true := decide_eq_true (V.str.inj e)
            rw [nu] at this; cases this
          | pr o t => cases c
          | no => cases c
        · have st : stepC fit wj m = if wj.name = true then some (m + 1) else if decide (m < 1) || !wj.take fit then none else some m := by
            unfold stepC
            rw [nu, if_neg Bool.false_ne_true]
          refine ⟨_, rfl, x, wj.text, rfl, wd.st, fun H2 s2 => ⟨_, rfl, ?_⟩⟩
          have s12 := same_trans s1 s2
          have en : nmB wj.text = wj.name := by cases wj <;> rfl
          rw [en]
          refine ite2 (fun c => ?_) (fun c => ?_)
          · rw [if_pos c] at st
            exact ⟨_, rfl, _, _, rfl, rfl, m + 1, some x, rfl, s12, nx.trans st⟩
          · rw [if_neg c] at st
            refine ⟨_, rfl, _, _, rfl, rfl, _, rfl, ?_⟩
            refine ite2 (fun d => ?_) (fun d => ?_)
            · have d2 : decide (m < 1) = true := decide_eq_true (by have := of_decide_eq_true d; omega)
              rw [d2, Bool.true_or, if_pos rfl] at st
              have k2 := kq H2 s12
              rw [dead st] at k2
              exact k2
            · have d2 : decide (m < 1) = false := decide_eq_false fun q => d (decide_eq_true (by omega))
              rw [d2, Bool.false_or] at st
              refine ⟨_, rfl, _, rfl, x, wj, rfl, wd.same s2, fun H3 s3 => ⟨_, rfl, ?_⟩⟩
              have s13 := same_trans s12 s3
              refine ite2 (fun e => ?_) (fun e => ?_)
              · rw [if_pos e] at st
                have k2 := kq H3 s13
                rw [dead st] at k2
                exact k2
              · rw [if_neg e] at st
                exact ⟨m, _, rfl, s13, nx.trans st⟩
    · rintro σ H1 ⟨m, t3, rfl, s1, hm⟩
      rw [lv, Nat.sub_self, List.drop_zero] at hm
      refine ⟨_, rfl, rfl, ?_⟩
      have e : progB fit ws = decide (V.int (m : Int) = V.int 1) := by
        unfold progB
        rw [hm, Bool.eq_iff_iff, decide_eq_true_eq, decide_eq_true_eq]
        exact ⟨fun h => by rw [Option.some.inj h]; rfl, fun h => by have := V.int.inj h; congr 1; omega⟩
      have k2 := kq H1 s1
      rw [e] at k2
      exact k2
end
end LG

set_option Elab.async false
set_option linter.all false
set_option maxRecDepth 100000
namespace LG
open PySem L2
/-! ### where parts end: mathematics alone -/
/-- the lengths of the parts that words make, one behind another -/
def pend : List Wd → Option (List Nat)
  | [] => some []
  | w :: r => match pend r with
    | none => none
    | some l => if w.use = true then (match l with
        | a :: b :: l' => some ((a + b + 1) :: l')
        | _ => none)
      else if w.thing = true then (match l with
        | a :: l' => some ((a + 1) :: l')
        | _ => none)
      else some (1 :: l)
theorem pend_use {w : Wd} {r : List Wd} {x : List Nat} (h : pend (w :: r) = some x) (u : w.use = true) : ∃ a b l, pend r = some (a :: b :: l) ∧ x = (a + b + 1) :: l := by
  unfold pend at h
  cases e : pend r with
  | none => (rw [e] at h; cases h)
  | some l =>
    rw [e] at h
    simp only [u, if_true] at h
    match l, h with
    | a :: b :: l', h => cases h; exact ⟨a, b, l', rfl, rfl⟩
theorem pend_take {w : Wd} {r : List Wd} {x : List Nat} (h : pend (w :: r) = some x) (u : w.use = false) (t : w.thing = true) : ∃ a l, pend r = some (a :: l) ∧ x = (a + 1) :: l := by
  unfold pend at h
  cases e : pend r with
  | none => (rw [e] at h; cases h)
  | some l =>
    rw [e] at h
    simp only [u, t, if_true, Bool.false_eq_true, if_false] at h
    match l, h with
    | a :: l', h => cases h; exact ⟨a, l', rfl, rfl⟩
theorem pend_name {w : Wd} {r : List Wd} {x : List Nat} (h : pend (w :: r) = some x) (u : w.use = false) (t : w.thing = false) : ∃ l, pend r = some l ∧ x = 1 :: l := by
  unfold pend at h
  cases e : pend r with
  | none => (rw [e] at h; cases h)
  | some l =>
    rw [e] at h
    simp only [u, t, Bool.false_eq_true, if_false] at h
    cases h; exact ⟨l, rfl, rfl⟩
theorem pend_tail {w : Wd} {r : List Wd} {x : List Nat} (h : pend (w :: r) = some x) : ∃ l, pend r = some l := by
  cases u : w.use with
  | true => obtain ⟨a, b, l, e, _⟩ := pend_use h u; exact ⟨_, e⟩
  | false =>
    cases t : w.thing with
    | true => obtain ⟨a, l, e, _⟩ := pend_take h u t; exact ⟨_, e⟩
    | false => obtain ⟨l, e, _⟩ := pend_name h u t; exact ⟨_, e⟩
theorem use_thing {w : Wd} (h : w.use = true) : w.thing = false := by cases w <;> first | rfl | cases h
theorem name_thing {w : Wd} (h : w.name = true) : w.thing = false := by cases w <;> first | rfl | cases h
theorem take_thing {fit : Th → Bool} {w : Wd} (h : w.take fit = true) : w.thing = true := by cases w <;> first | rfl | cases h
theorem cnt_pend {fit : Th → Bool} : ∀ {ws : List Wd} {m : Nat}, cntC fit ws = some m → ∃ l, pend ws = some l ∧ l.length = m ∧ l.sum = ws.length
  | [], m, h => by cases h; exact ⟨[], rfl, rfl, rfl⟩
  | w :: r, m, h => by
    cases e : cntC fit r with
    | none => rw [cntC, e] at h; cases h
    | some k =>
      obtain ⟨l, e1, e2, e3⟩ := cnt_pend e
      rw [cntC, e] at h
      have h : stepC fit w k = some m := h
      unfold stepC at h
      unfold pend
      rw [e1]
      by_cases u : w.use = true
      · rw [if_pos u] at h
        simp only [u, if_true]
        by_cases k2 : k < 2
        · rw [if_pos k2] at h; cases h
        · rw [if_neg k2] at h
          cases h
          match l, e2, e3 with
          | a :: b :: l', e2, e3 =>
            refine ⟨_, rfl, ?_, ?_⟩
            · simp only [List.length_cons] at e2 ⊢; omega
            · simp only [List.sum_cons, List.length_cons] at e3 ⊢; omega
          | [], e2, _ => simp at e2; omega
          | [a], e2, _ => simp at e2; omega
      · rw [if_neg u] at h
        have u : w.use = false := Bool.eq_false_iff.mpr u
        by_cases nm : w.name = true
        · rw [if_pos nm] at h
          cases h
          simp only [u, name_thing nm, Bool.false_eq_true, if_false]
          exact ⟨_, rfl, by rw [List.length_cons, e2], by rw [List.sum_cons, List.length_cons, e3]; omega⟩
        · rw [if_neg nm] at h
          by_cases bad : (decide (k < 1) || !w.take fit) = true
          · rw [if_pos bad] at h; cases h
          · rw [if_neg bad] at h
            cases h
            have tk : w.take fit = true := by
              cases q : w.take fit with
              | true => rfl
              | false => rw [q] at bad; simp at bad
            have k1 : ¬ m < 1 := fun q => bad (by rw [decide_eq_true q]; rfl)
            simp only [u, take_thing tk, if_true, Bool.false_eq_true, if_false]
            match l, e2, e3 with
            | a :: l', e2, e3 =>
              refine ⟨_, rfl, ?_, ?_⟩
              · simpa using e2
              · simp only [List.sum_cons, List.length_cons] at e3 ⊢; omega
            | [], e2, _ => simp at e2; omega
theorem pend_drop : ∀ {ws : List Wd} {x : List Nat}, pend ws = some x → ∀ i, ∃ l, pend (ws.drop i) = some l
  | ws, x, h, 0 => ⟨x, h⟩
  | [], x, h, i + 1 => ⟨[], rfl⟩
  | w :: r, x, h, i + 1 => by
    obtain ⟨l, e⟩ := pend_tail h
    exact pend_drop e i
theorem pend_sum : ∀ {ws : List Wd} {x : List Nat}, pend ws = some x → x.sum = ws.length
  | [], x, h => by cases h; rfl
  | w :: r, x, h => by
    cases u : w.use with
    | true => obtain ⟨a, b, l, e, rfl⟩ := pend_use h u; have := pend_sum e; simp only [List.sum_cons, List.length_cons] at this ⊢; omega
    | false =>
      cases t : w.thing with
      | true => obtain ⟨a, l, e, rfl⟩ := pend_take h u t; have := pend_sum e; simp only [List.sum_cons, List.length_cons] at this ⊢; omega
      | false => obtain ⟨l, e, rfl⟩ := pend_name h u t; have := pend_sum e; simp only [List.sum_cons, List.length_cons] at this ⊢; omega
theorem pend_pos : ∀ {ws : List Wd} {x : List Nat}, pend ws = some x → ∀ a ∈ x, 0 < a
  | [], x, h, a, ha => by cases h; cases ha
  | w :: r, x, h, a, ha => by
    cases u : w.use with
    | true =>
      obtain ⟨a', b, l, e, rfl⟩ := pend_use h u
      rcases List.mem_cons.mp ha with q | q
      · omega
      · exact pend_pos e a (List.mem_cons_of_mem _ (List.mem_cons_of_mem _ q))
    | false =>
      cases t : w.thing with
      | true =>
        obtain ⟨a', l, e, rfl⟩ := pend_take h u t
        rcases List.mem_cons.mp ha with q | q
        · omega
        · exact pend_pos e a (List.mem_cons_of_mem _ q)
      | false =>
        obtain ⟨l, e, rfl⟩ := pend_name h u t
        rcases List.mem_cons.mp ha with q | q
        · omega
        · exact pend_pos e a q
/-- behind the first part -/
theorem pend_skip : ∀ (n : Nat) {ws : List Wd} {a : Nat} {l : List Nat}, ws.length ≤ n → pend ws = some (a :: l) → pend (ws.drop a) = some l
  | _, [], a, l, _, h => by cases h
  | 0, w :: r, a, l, hn, _ => by simp at hn
  | n + 1, w :: r, a, l, hn, h => by
    rw [List.length_cons] at hn
    cases u : w.use with
    | true =>
      obtain ⟨a', b, l', e, q⟩ := pend_use h u
      cases q
      have h1 := pend_skip n (by omega) e
      have h2 := pend_skip n (by rw [List.length_drop]; omega) h1
      rw [List.drop_drop] at h2
      show pend ((w :: r).drop (a' + b + 1)) = _
      rw [List.drop_succ_cons]
      exact h2
    | false =>
      cases t : w.thing with
      | true =>
        obtain ⟨a', l', e, q⟩ := pend_take h u t
        cases q
        show pend ((w :: r).drop (a' + 1)) = _
        rw [List.drop_succ_cons]
        exact pend_skip n (by omega) e
      | false =>
        obtain ⟨l', e, q⟩ := pend_name h u t
        cases q
        exact e
/-- what begins within the first part ends there -/
theorem pend_nest : ∀ (n : Nat) {ws : List Wd} {a : Nat} {l : List Nat}, ws.length ≤ n → pend ws = some (a :: l) → ∀ j, j < a → ∃ b l', pend (ws.drop j) = some (b :: l') ∧ j + b ≤ a
  | _, [], a, l, _, h => by cases h
  | 0, w :: r, a, l, hn, _ => by simp at hn
  | n + 1, w :: r, a, l, hn, h => by
    intro j hj
    rw [List.length_cons] at hn
    cases j with
    | zero => exact ⟨a, l, h, by omega⟩
    | succ j =>
      rw [List.drop_succ_cons]
      cases u : w.use with
      | true =>
        obtain ⟨a', b, l', e, q⟩ := pend_use h u
        cases q
        by_cases c : j < a'
        · obtain ⟨b', l'', e1, e2⟩ := pend_nest n (by omega) e j c
          exact ⟨b', l'', e1, by omega⟩
        · have h1 := pend_skip n (by omega) e
          obtain ⟨b', l'', e1, e2⟩ := pend_nest n (by rw [List.length_drop]; omega) h1 (j - a') (by omega)
          rw [List.drop_drop, show a' + (j - a') = j by omega] at e1
          exact ⟨b', l'', e1, by omega⟩
      | false =>
        cases t : w.thing with
        | true =>
          obtain ⟨a', l', e, q⟩ := pend_take h u t
          cases q
          obtain ⟨b', l'', e1, e2⟩ := pend_nest n (by omega) e j (by omega)
          exact ⟨b', l'', e1, by omega⟩
        | false =>
          obtain ⟨l', e, q⟩ := pend_name h u t
          cases q
          omega
/-- words that make just one part -/
def Whole (ws : List Wd) : Prop := pend ws = some [ws.length]
theorem whole_of {fit : Th → Bool} {ws : List Wd} (h : progB fit ws = true) : Whole ws := by
  obtain ⟨l, e1, e2, e3⟩ := cnt_pend (of_decide_eq_true h)
  match l, e2, e3 with
  | [a], _, e3 =>
    have : a = ws.length := by simpa using e3
    subst this
    exact e1
/-- the place behind the part at a place -/
def ofE (ws : List Wd) (i : Nat) : Nat := i + ((pend (ws.drop i)).getD []).headD 0
theorem ofE_eq {ws : List Wd} {i a : Nat} {l : List Nat} (h : pend (ws.drop i) = some (a :: l)) : ofE ws i = i + a := by unfold ofE; rw [h]; rfl
section
variable {ws : List Wd}
theorem Whole.at (h : Whole ws) {i : Nat} (hi : i < ws.length) : ∃ a l, pend (ws.drop i) = some (a :: l) ∧ 0 < a ∧ i + a ≤ ws.length ∧ ofE ws i = i + a := by
  obtain ⟨b, l, e, le⟩ := pend_nest _ (Nat.le_refl _) h i hi
  exact ⟨b, l, e, pend_pos e b List.mem_cons_self, le, ofE_eq e⟩
theorem Whole.lt (h : Whole ws) {i : Nat} (hi : i < ws.length) : i < ofE ws i ∧ ofE ws i ≤ ws.length := by
  obtain ⟨a, l, _, a0, le, e⟩ := h.at hi
  omega
theorem Whole.nest (h : Whole ws) {i j : Nat} (hi : i < ws.length) (hij : i ≤ j) (hj : j < ofE ws i) : ofE ws j ≤ ofE ws i := by
  obtain ⟨a, l, e, a0, le, ee⟩ := h.at hi
  obtain ⟨b, l', e1, e2⟩ := pend_nest _ (Nat.le_refl _) e (j - i) (by omega)
  rw [List.drop_drop, show i + (j - i) = j by omega] at e1
  rw [ofE_eq e1, ee]
  omega
theorem Whole.drop_cons (hi : i < ws.length) : ws.drop i = ws[i] :: ws.drop (i + 1) := List.drop_eq_getElem_cons hi
theorem Whole.name (h : Whole ws) {i : Nat} {w : Wd} (hw : ws[i]? = some w) (u : w.use = false) (t : w.thing = false) : ofE ws i = i + 1 := by
  have hi := (List.getElem?_eq_some_iff.mp hw).1
  have ew := (List.getElem?_eq_some_iff.mp hw).2
  obtain ⟨a, l, e, _, _, ee⟩ := h.at hi
  have e' := e
  rw [List.drop_eq_getElem_cons hi, ew] at e'
  obtain ⟨l', _, q⟩ := pend_name e' u t
  cases q
  exact ee
theorem Whole.take (h : Whole ws) {i : Nat} {w : Wd} (hw : ws[i]? = some w) (t : w.thing = true) : i + 1 < ws.length ∧ ofE ws i = ofE ws (i + 1) := by
  have hi := (List.getElem?_eq_some_iff.mp hw).1
  have ew := (List.getElem?_eq_some_iff.mp hw).2
  have u : w.use = false := by cases w <;> first | rfl | cases t
  obtain ⟨a, l, e, _, le, ee⟩ := h.at hi
  have e' := e
  rw [List.drop_eq_getElem_cons hi, ew] at e'
  obtain ⟨a', l', e1, q⟩ := pend_take e' u t
  cases q
  have := pend_pos e1 a' List.mem_cons_self
  rw [ofE_eq e1, ee]
  omega
theorem Whole.use (h : Whole ws) {i : Nat} {w : Wd} (hw : ws[i]? = some w) (u : w.use = true) : i + 1 < ws.length ∧ ofE ws (i + 1) < ws.length ∧ ofE ws i = ofE ws (ofE ws (i + 1)) := by
  have hi := (List.getElem?_eq_some_iff.mp hw).1
  have ew := (List.getElem?_eq_some_iff.mp hw).2
  obtain ⟨a, l, e, _, le, ee⟩ := h.at hi
  have e' := e
  rw [List.drop_eq_getElem_cons hi, ew] at e'
  obtain ⟨a', b, l', e1, q⟩ := pend_use e' u
  cases q
  have p1 := pend_pos e1 a' List.mem_cons_self
  have p2 := pend_pos e1 b (List.mem_cons_of_mem _ List.mem_cons_self)
  have e2 := pend_skip _ (Nat.le_refl _) e1
  rw [List.drop_drop] at e2
  rw [ofE_eq e1, ofE_eq e2, ee]
  omega
end
/-- the ends of the parts that wait, the next one first -/
def stk : Nat → List Nat → List Nat
  | _, [] => []
  | i, a :: l => (i + a) :: stk (i + a) l
end LG

set_option Elab.async false
set_option linter.all false
set_option maxRecDepth 100000
namespace LG
open PySem L2
/-- a text against a text or a tuple -/
def eqW (K : PySem.W.Frag) (x y : V) (H : Hp) (b : Bool) : Prop := (∃ i j, x = .str i ∧ y = .str j ∧ b = decide (V.str i = V.str j)) ∨ (∃ a l j, x = .ref a ∧ SqT K H a l ∧ y = .str j ∧ b = false) ∨ (∃ a l j, y = .ref a ∧ SqT K H a l ∧ x = .str j ∧ b = false)
def rEqW (K : PySem.W.Frag) : R2 := fun x y H Q => ∃ b, eqW K x y H b ∧ Q (.bl b) H
def rNeW (K : PySem.W.Frag) : R2 := fun x y H Q => ∃ b, eqW K x y H b ∧ Q (.bl (!b)) H
section
variable {X : Cx}
theorem op_eqW (hu : X.A.units < cLine) : OpR X (compareOp .Eq) (rEqW X.K) := by
  (intro pins s σ H x y v u Q I rx ry h)
  obtain ⟨b, h, q⟩ := h
  rcases h with ⟨i, j, rfl, rfl, rfl⟩ | ⟨a, l, j, rfl, hs, rfl, rfl⟩ | ⟨a, l, j, rfl, hs, rfl, rfl⟩
  · exact op_eq pins s σ H _ _ v u Q I rx ry ⟨rfl, q⟩
  · (cases (show v = Value.ref a from rx))
    obtain ⟨t', rfl⟩ := ry
    obtain ⟨its, _, p, _⟩ := I.tuple hs
    exact SeqAt.RcAt.tuple_str j t' p hu _ _ _ _ ⟨.bl false, H, I, rfl, q⟩
  · cases (show u = Value.ref a from ry)
    obtain ⟨t', rfl⟩ := rx
    obtain ⟨its, _, p, _⟩ := I.tuple hs
    exact SeqAt.RcAt.str_tuple j t' p hu _ _ _ _ ⟨.bl false, H, I, rfl, q⟩
theorem op_neW (hu : X.A.units < cLine) : OpR X (compareOp .NotEq) (rNeW X.K) := by
  (intro pins s σ H x y v u Q I rx ry h)
  obtain ⟨b, h, q⟩ := h
  rcases h with ⟨i, j, rfl, rfl, rfl⟩ | ⟨a, l, j, rfl, hs, rfl, rfl⟩ | ⟨a, l, j, rfl, hs, rfl, rfl⟩
  · exact op_ne pins s σ H _ _ v u Q I rx ry ⟨rfl, q⟩
  · (cases (show v = Value.ref a from rx))
    obtain ⟨t', rfl⟩ := ry
    obtain ⟨its, _, p, _⟩ := I.tuple hs
    exact SeqAt.RcNeAt.tuple_str j t' p hu _ _ _ _ ⟨.bl true, H, I, rfl, q⟩
  · cases (show u = Value.ref a from ry)
    obtain ⟨t', rfl⟩ := rx
    obtain ⟨its, _, p, _⟩ := I.tuple hs
    exact SeqAt.RcNeAt.str_tuple j t' p hu _ _ _ _ ⟨.bl true, H, I, rfl, q⟩
end
theorem WdAt.eqUse {K : PySem.W.Frag} {H : Hp} {w : Wd} {v : V} (h : WdAt K H w v) (hw : w ≠ .no) : eqW K v (.str "@") H w.use := by
  cases w with
  | st z => obtain ⟨rfl, _⟩ := h; exact .inl ⟨z, _, rfl, rfl, by unfold Wd.use; rw [Bool.eq_iff_iff]; simp⟩
  | pr o t => obtain ⟨a, x, y, rfl, ha, _⟩ := h; exact .inr (.inl ⟨a, _, _, rfl, SqT.of ha, rfl, rfl⟩)
  | no => exact absurd rfl hw
end LG

set_option Elab.async false
set_option linter.all false
set_option maxRecDepth 100000
set_option maxHeartbeats 4100000
namespace LG
open PySem L2
abbrev sEnds : Stmt := top 22
/-- the places behind parts, as far as they are told from behind -/
def enL (ws : List Wd) (k : Nat) : List V := (List.range ws.length).map fun j => V.int (if k ≤ j then (ofE ws j : Int) else 0)
theorem enL_len {ws : List Wd} {k : Nat} : (enL ws k).length = ws.length := by unfold enL; rw [List.length_map, List.length_range]
theorem enL_get {ws : List Wd} {k j : Nat} (h : j < ws.length) (hk : k ≤ j) : (enL ws k)[j]? = some (V.int (ofE ws j : Int)) := by
  unfold enL
  rw [List.getElem?_map, List.getElem?_range h, Option.map_some, if_pos hk]
theorem enL_top {ws : List Wd} : List.replicate ws.length (V.int 0) = enL ws ws.length := by
  unfold enL
  apply List.ext_getElem?
  intro j
  by_cases h : j < ws.length
  · rw [List.getElem?_replicate, if_pos h, List.getElem?_map, List.getElem?_range h, Option.map_some, if_neg (by omega)]
  · rw [List.getElem?_eq_none (by rw [List.length_replicate]; omega), List.getElem?_eq_none (by rw [List.length_map, List.length_range]; omega)]
theorem enL_set {ws : List Wd} {k : Nat} (h : k < ws.length) : (enL ws (k + 1)).set k (V.int (ofE ws k : Int)) = enL ws k := by
  unfold enL
  apply List.ext_getElem?
  intro j
  by_cases hj : j < ws.length
  · rw [List.getElem?_map, List.getElem?_range hj, Option.map_some]
    by_cases e : k = j
    · subst e
      rw [List.getElem?_set_self (by rw [List.length_map, List.length_range]; exact h), if_pos (Nat.le_refl _)]
    · rw [List.getElem?_set_ne e, List.getElem?_map, List.getElem?_range hj, Option.map_some]
      by_cases q : k + 1 ≤ j
      · rw [if_pos q, if_pos (by omega)]
      · rw [if_neg q, if_neg (by omega)]
  · rw [List.getElem?_eq_none (by rw [List.length_set, List.length_map, List.length_range]; omega), List.getElem?_eq_none (by rw [List.length_map, List.length_range]; omega)]
/-- words one of which is none -/
def Wds (ws : List Wd) : Prop := ∀ w ∈ ws, w ≠ .no
theorem words_of {fit : Th → Bool} : ∀ {ws : List Wd} {m : Nat}, cntC fit ws = some m → Wds ws
  | [], _, _ => fun w h => by cases h
  | w :: r, m, h => by
    cases e : cntC fit r with
    | none => rw [cntC, e] at h; cases h
    | some k =>
      rw [cntC, e] at h
      have h : stepC fit w k = some m := h
      intro x hx
      obtain rfl | hx := List.mem_cons.mp hx
      · rintro rfl
        unfold stepC at h
        rw [if_neg (by intro z; cases z), if_neg (by intro z; cases z), if_pos (by show (_ || !false) = true; rw [Bool.not_false, Bool.or_true])] at h
        cases h
      · exact words_of e x hx
def spEnds (K : PySem.W.Frag) : Sp := fun vs H Q _ => ∃ (v : V) (ws : List Wd), vs = [v] ∧ PgAt K H ws v ∧ Wds ws ∧ Whole ws ∧ ∀ l H', H l = none → Same H H' → H' l = some (.lst (enL ws 0)) → Q (.ref l) H'
section
variable {P : Program} {w : World} {K : PySem.W.Frag} {mg : Str → Option Value} {base : Heap}
theorem scEnds : FnScope ["words", "ends", "place"] ["words"] (defScope sEnds) := ⟨rfl, rfl, rfl, by decide +kernel, rfl, by decide +kernel, by decide +kernel⟩
theorem ok_ends {f fT : Addr} {fd fdT : FuncData} (F : Fn K mg "ends_of_parts" sEnds ["words"] f fd) (NT : Fn K mg "is_take" sIsTake ["word"] fT fdT) (hu : ∃ u, mg "USE" = some (.str "@" u)) (T : TxB mg) (T2 : TxK mg) : FnOk P w K mg base CX0 2 f fd ["words"] (spEnds K) := by
  have GT : FnOk P w K mg base CX0 1 fT fdT ["word"] (spIsTake K) := ok_isTake NT T T2.toTxD
  obtain ⟨uU, hU⟩ := hu
  refine F.F.ok scEnds (fun vs H Q E h => ?_) (fun cdv A outer s H vs Q E hr h => ?_)
  · obtain ⟨_, _, rfl, _⟩ := h
    rfl
  · obtain ⟨v, ws, rfl, hv, hn, wh, kq⟩ := h
    have nd := scEnds.nd
    have hr1 := hr
    refine ⟨_, pss_cons (ps_set (i := 1) nd rfl (Or.inl rfl) (pe_op op_rep (pe_lst (pa_cons pe_int pa_nil)) (pe_callB call_len_seq (by rfl) T.len PySem.boot_len (pa_cons (pv 0) pa_nil))))
      (pss_cons (ps_for PassesOwn.never rfl (pi_revR (by rfl) T2.reversed (prg_1 (by rfl) T.range (pe_callB call_len_seq (by rfl) T.len PySem.boot_len (pa_cons (pv 0) pa_nil)))) (pg_name (i := 2) nd rfl (Or.inl rfl))
        (pss_one (ps_if (pt_cmpR (op_eqW (Nat.lt_of_le_of_lt (Nat.le_add_right _ 64) hr.units)) (pe_ix ix_tup (pv 0) (pv 2) (fun _ _ => rfl)) (pe_glob (v := .str "@") (by rfl) hU ⟨_, rfl⟩) (nomark _))
          (pss_one (ps_asg (pe_ix ix_list (pv 1) (pe_ix ix_list (pv 1) (pe_op op_add (pv 2) pe_int) (fun _ _ => rfl)) (fun _ _ => rfl)) (pg_sub (pv 1) (pv 2) set_list)))
          (pss_one (ps_if (pt_val (pe_call GT hr1 (by rfl) NT.m NT.F.kp NT.b .nil pass0 (pa_cons (pe_ix ix_tup (pv 0) (pv 2) (fun _ _ => rfl)) pa_nil)))
            (pss_one (ps_asg (pe_ix ix_list (pv 1) (pe_op op_add (pv 2) pe_int) (fun _ _ => rfl)) (pg_sub (pv 1) (pv 2) set_list)))
            (pss_one (ps_asg (pe_op op_add (pv 2) pe_int) (pg_sub (pv 1) (pv 2) set_list))))))))
      (pss_one (ps_ret (pv 1)))), ?_⟩
    obtain ⟨a, vs, rfl, ha, hw, hl⟩ := hv
    have lv := hw.1
    refine ⟨(by show 1 ≤ sizeLine; decide), fun p hp => ?_⟩
    have np : a ≠ p := ne_of_none ha hp
    have ha1 : upd H p (.lst [V.int 0]) a = some (.tup vs) := by rw [upd_ne np]; exact ha
    refine ⟨_, rfl, _, _, rfl, .inr (SqT.of ha1), p, _, _, rfl, rfl, upd_same, by omega, by have := line63; omega, (by show 1 * _ ≤ sizeLine; rw [Nat.one_mul, lv]; exact big2 (by omega)), fun l hl0 => ?_⟩
    have npl : p ≠ l := ne_of_none upd_same hl0
    have hln : H l = none := by rwa [upd_ne npl.symm] at hl0
    have nal : a ≠ l := ne_of_none ha hln
    have e0 : (List.replicate ((vs.length : Int)).toNat [V.int 0]).flatten = enL ws ws.length := by
      rw [← enL_top, lv]
      show (List.replicate ws.length [V.int 0]).flatten = _
      rw [List.flatten_replicate_singleton]
    rw [e0]
    generalize hG : upd (upd H p _) l _ = G
    have sG : Same H G := by rw [← hG]; exact same_new (same_new (same_refl H) hp) hl0
    have gl : G l = some (.lst (enL ws ws.length)) := by rw [← hG]; exact upd_same
    clear hG hl0 ha1
    refine ⟨_, rfl, _, _, rfl, .inr (SqT.of (sG _ _ ha)), _, rfl, by omega, by omega, by omega, by have := hw.1; omega, ?_⟩
    have en : ((vs.length : Int) - 0).toNat = ws.length := by omega
    rw [en]
    refine for_rangeC (fun i σ H' => ∃ t2, σ = [some (.ref a), some (.ref l), t2] ∧ Same H (del H' l) ∧ H' a = some (.tup vs) ∧ H' l = some (.lst (enL ws (ws.length - i)))) ⟨none, rfl, ?_, sG _ _ ha, by rw [Nat.sub_zero]; exact gl⟩ ?_ ?_
    · exact fun b o e => by rw [del_ne (ne_of_none e hln)]; exact sG b o e
    · rintro i σ H1 hi ⟨t2, rfl, s1, ha1, hl1⟩
      have hj : ws.length - 1 - i < ws.length := by omega
      have ep : (0 : Int) + (ws.length : Int) - 1 + (i : Nat) * (-1) = ((ws.length - 1 - i : Nat) : Int) := by omega
      rw [ep]
      obtain ⟨wj, hwj⟩ : ∃ wj, ws[ws.length - 1 - i]? = some wj := ⟨_, List.getElem?_eq_getElem hj⟩
      obtain ⟨vj, hvj⟩ : ∃ vj, vs[ws.length - 1 - i]? = some vj := ⟨_, List.getElem?_eq_getElem (by omega)⟩
      have wd := (hw.2 _ _ _ hwj hvj).same (same_trans s1 del_le)
      have nn := hn wj (List.mem_of_getElem? hwj)
      have ek : ws.length - i = ws.length - 1 - i + 1 := by omega
      have ek2 : ws.length - (i + 1) = ws.length - 1 - i := by omega
      generalize hpl : ws.length - 1 - i = pl at hj hwj hvj ek ek2
      rw [ek] at hl1
      have fin : ∀ H2 : Hp, Same H1 H2 → ∃ t2, [some (V.ref a), some (V.ref l), some (V.int (pl : Int))] = [some (V.ref a), some (V.ref l), t2] ∧ Same H (del (upd H2 l (.lst ((enL ws (pl + 1)).set pl (V.int (ofE ws pl : Int))))) l) ∧ upd H2 l (.lst ((enL ws (pl + 1)).set pl (V.int (ofE ws pl : Int)))) a = some (.tup vs) ∧ upd H2 l (.lst ((enL ws (pl + 1)).set pl (V.int (ofE ws pl : Int)))) l = some (.lst (enL ws (ws.length - (i + 1)))) := fun H2 s2 => by
        refine ⟨_, rfl, fun b o e => ?_, by rw [upd_ne nal]; exact s2 _ _ ha1, by rw [upd_same, enL_set hj, ek2]⟩
        have nb := ne_of_none e hln
        have := s1 b o e
        rw [del_ne nb] at this
        rw [del_ne nb, upd_ne nb]
        exact s2 _ _ this
      refine ⟨_, rfl, _, rfl, a, _, _, _, rfl, rfl, SqT.of ha1, atI_nat hvj, wj.use, wd.eqUse nn, _, rfl, ?_⟩
      refine ite2 (fun u => ?_) (fun u => ?_)
      · obtain ⟨b1, b2, b3⟩ := wh.use hwj u
        refine ⟨_, rfl, _, rfl, _, rfl, _, _, rfl, rfl, l, _, _, _, rfl, rfl, SqL.of hl1, atI_nat (enL_get b1 (Nat.le_refl _)), l, _, _, _, rfl, rfl, SqL.of hl1, atI_nat (enL_get b2 ?_), ?_⟩
        · exact Nat.le_of_lt (wh.lt b1).1
        · rw [← b3]
          exact ⟨_, rfl, _, rfl, l, _, _, pl, rfl, rfl, hl1, Evl.ixN_nat (by rw [enL_len]; exact hj), fin H1 (same_refl H1)⟩
      · have u : wj.use = false := Bool.eq_false_iff.mpr u
        refine ⟨_, rfl, _, rfl, a, _, _, _, rfl, rfl, SqT.of ha1, atI_nat hvj, vj, wj, rfl, wd, nn, _, rfl, ?_⟩
        refine ite2 (fun t => ?_) (fun t => ?_)
        · obtain ⟨b1, b2⟩ := wh.take hwj t
          refine ⟨_, rfl, _, rfl, _, _, rfl, rfl, l, _, _, _, rfl, rfl, SqL.of hl1, atI_nat (enL_get b1 (Nat.le_refl _)), ?_⟩
          rw [← b2]
          exact ⟨_, rfl, _, rfl, l, _, _, pl, rfl, rfl, hl1, Evl.ixN_nat (by rw [enL_len]; exact hj), fin H1 (same_refl H1)⟩
        · have b := wh.name hwj u (Bool.eq_false_iff.mpr t)
          refine ⟨_, rfl, _, _, rfl, rfl, _, rfl, _, rfl, l, _, _, pl, rfl, rfl, hl1, Evl.ixN_nat (by rw [enL_len]; exact hj), ?_⟩
          have := fin H1 (same_refl H1)
          rw [b] at this
          exact this
    · rintro σ H1 ⟨t2, rfl, s1, ha1, hl1⟩
      rw [Nat.sub_self] at hl1
      exact ⟨_, rfl, kq l H1 hln (same_trans s1 del_le) hl1⟩
end
end LG

set_option Elab.async false
set_option linter.all false
set_option maxRecDepth 100000
namespace LG
open PySem L2
/-! ### to which take a name belongs: mathematics alone -/
/-- a word of a program -/
def Wok : Wd → Prop
  | .st z => z = "@" ∨ nameB z = true
  | .pr (some z) _ => nameB z = true
  | _ => False
theorem Wok.no {w : Wd} (h : Wok w) : w ≠ .no := by rintro rfl; exact h
def Woks (ws : List Wd) : Prop := ∀ w ∈ ws, Wok w
theorem Woks.wds {ws : List Wd} (h : Woks ws) : Wds ws := fun w hw => (h w hw).no
theorem woks_of {fit : Th → Bool} : ∀ {ws : List Wd} {m : Nat}, cntC fit ws = some m → Woks ws
  | [], _, _ => fun w h => by cases h
  | w :: r, m, h => by
    cases e : cntC fit r with
    | none => rw [cntC, e] at h; cases h
    | some k =>
      rw [cntC, e] at h
      have h : stepC fit w k = some m := h
      intro x hx
      obtain rfl | hx := List.mem_cons.mp hx
      · unfold stepC at h
        by_cases u : x.use = true
        · cases x with
          | st z => exact .inl (of_decide_eq_true u)
          | pr o t => cases u
          | no => cases u
        · rw [if_neg u] at h
          by_cases n : x.name = true
          · cases x with
            | st z => exact .inr n
            | pr o t => cases n
            | no => cases n
          · rw [if_neg n] at h
            by_cases b : (decide (k < 1) || !x.take fit) = true
            · rw [if_pos b] at h; cases h
            · have tk : x.take fit = true := by
                cases q : x.take fit with
                | true => rfl
                | false => rw [q] at b; simp at b
              cases x with
              | st z => cases tk
              | no => cases tk
              | pr o t =>
                cases o with
                | none => cases tk
                | some z => exact (Bool.and_eq_true_iff.mp tk).1
      · exact woks_of e x hx
theorem name_at : nameB "@" = false := by decide +kernel
def isT (ws : List Wd) (t : Nat) : Bool := match ws[t]? with
  | some w => w.thing
  | none => false
def nmOf (ws : List Wd) (t : Nat) : Option Str := match ws[t]? with
  | some (.pr o _) => o
  | _ => none
/-- the takes in whose bodies a place stands -/
def arnd (ws : List Wd) (p : Nat) : List Nat := (List.range p).filter fun t => isT ws t && decide (p < ofE ws t)
def arPre (ws : List Wd) (p : Nat) : List Nat := (List.range p).filter fun t => isT ws t && decide (p ≤ ofE ws t)
def byNm (ws : List Wd) (z : Str) (L : List Nat) : List Nat := L.filter fun t => decide (nmOf ws t = some z)
/-- the place of the take to which the name at a place belongs -/
def own (ws : List Wd) (p : Nat) : Option Nat := match ws[p]? with
  | some (.st z) => (byNm ws z (arnd ws p)).getLast?
  | _ => none
theorem isT_lt {ws : List Wd} {t : Nat} (h : isT ws t = true) : t < ws.length := by
  unfold isT at h
  cases e : ws[t]? with
  | none => (rw [e] at h; cases h)
  | some w => exact (List.getElem?_eq_some_iff.mp e).1
theorem isT_pr {ws : List Wd} (hk : Woks ws) {t : Nat} (h : isT ws t = true) : ∃ z k, ws[t]? = some (.pr (some z) k) ∧ nameB z = true ∧ nmOf ws t = some z := by
  unfold isT at h
  unfold nmOf
  cases e : ws[t]? with
  | none => (rw [e] at h; cases h)
  | some w =>
    rw [e] at h
    have ok := hk w (List.mem_of_getElem? e)
    cases w with
    | st z => cases h
    | no => cases h
    | pr o k =>
      cases o with
      | none => exact absurd ok id
      | some z => exact ⟨z, k, rfl, ok, rfl⟩
theorem arPre_zero {ws : List Wd} : arPre ws 0 = [] := rfl
theorem mem_arPre {ws : List Wd} {p t : Nat} : t ∈ arPre ws p ↔ t < p ∧ isT ws t = true ∧ p ≤ ofE ws t := by
  unfold arPre
  rw [List.mem_filter, List.mem_range, Bool.and_eq_true, decide_eq_true_eq]
theorem mem_arnd {ws : List Wd} {p t : Nat} : t ∈ arnd ws p ↔ t < p ∧ isT ws t = true ∧ p < ofE ws t := by
  unfold arnd
  rw [List.mem_filter, List.mem_range, Bool.and_eq_true, decide_eq_true_eq]
theorem arnd_pre {ws : List Wd} {p : Nat} : arnd ws p = (arPre ws p).filter fun t => decide (p < ofE ws t) := by
  unfold arnd arPre
  rw [List.filter_filter]
  congr 1
  funext t
  rw [Bool.eq_iff_iff]
  (simp only [Bool.and_eq_true, decide_eq_true_eq])
  constructor
  · rintro ⟨a, b⟩; exact ⟨b, a, by omega⟩
  · rintro ⟨a, b, c⟩; exact ⟨b, a⟩
theorem arPre_succ {ws : List Wd} (wh : Whole ws) {p : Nat} (hp : p < ws.length) : arPre ws (p + 1) = if isT ws p = true then arnd ws p ++ [p] else arnd ws p := by
  have e : (List.range p).filter (fun t => isT ws t && decide (p + 1 ≤ ofE ws t)) = arnd ws p := by
    unfold arnd
    rfl
  unfold arPre
  rw [List.range_succ, List.filter_append, e]
  have q := (wh.lt hp).1
  by_cases t : isT ws p = true
  · rw [if_pos t]
    simp [t]
    omega
  · rw [if_neg t]
    simp [t]
theorem arPre_lt {ws : List Wd} {p : Nat} : (arPre ws p).Pairwise (· < ·) := List.Pairwise.sublist List.filter_sublist List.pairwise_lt_range
theorem arnd_lt {ws : List Wd} {p : Nat} : (arnd ws p).Pairwise (· < ·) := List.Pairwise.sublist List.filter_sublist List.pairwise_lt_range
theorem pop_done {ws : List Wd} (wh : Whole ws) {p : Nat} {L S : List Nat} (h : L ++ S = arPre ws p) (hS : ∀ t ∈ S, ofE ws t = p) (hL : ∀ t, L.getLast? = some t → ofE ws t ≠ p) : L = arnd ws p := by
  rw [arnd_pre, ← h, List.filter_append]
  have e1 : S.filter (fun t => decide (p < ofE ws t)) = [] := by
    rw [List.filter_eq_nil_iff]
    intro t ht
    rw [hS t ht]; simp
  have e2 : L.filter (fun t => decide (p < ofE ws t)) = L := by
    rw [List.filter_eq_self]
    intro t ht
    apply decide_eq_true
    have mt := mem_arPre.mp (show t ∈ arPre ws p by rw [← h]; exact List.mem_append_left _ ht)
    rcases nil_or_snoc L with rfl | ⟨L', u, rfl⟩
    · cases ht
    · have hu := hL u (by simp)
      have mu := mem_arPre.mp (show u ∈ arPre ws p by rw [← h]; simp)
      have srt := arPre_lt (ws := ws) (p := p)
      rw [← h] at srt
      have tu : t ≤ u := by
        rcases List.mem_append.mp ht with q | q
        · have := (List.pairwise_append.mp (List.pairwise_append.mp srt).1).2.2 t q u List.mem_cons_self
          omega
        · rw [List.mem_singleton] at q; omega
      by_cases c : ofE ws t = p
      · have := wh.nest (isT_lt mt.2.1) tu (by omega)
        omega
      · omega
  rw [e1, e2, List.append_nil]
theorem byNm_snoc {ws : List Wd} {z : Str} {L : List Nat} {t : Nat} : byNm ws z (L ++ [t]) = if nmOf ws t = some z then byNm ws z L ++ [t] else byNm ws z L := by
  unfold byNm
  rw [List.filter_append]
  by_cases e : nmOf ws t = some z
  · rw [if_pos e]; simp [e]
  · rw [if_neg e]; simp [e]
theorem own_some {ws : List Wd} {p t : Nat} (h : own ws p = some t) : ∃ z, ws[p]? = some (.st z) ∧ nmOf ws t = some z ∧ t < p ∧ isT ws t = true ∧ p < ofE ws t := by
  unfold own at h
  cases e : ws[p]? with
  | none => (rw [e] at h; cases h)
  | some w =>
    rw [e] at h
    cases w with
    | pr o k => cases h
    | no => cases h
    | st z =>
      have h : (byNm ws z (arnd ws p)).getLast? = some t := h
      have m := List.mem_of_getLast? h
      unfold byNm at m
      rw [List.mem_filter, decide_eq_true_eq] at m
      exact ⟨z, rfl, m.2, mem_arnd.mp m.1⟩
theorem own_use {ws : List Wd} (hk : Woks ws) {p : Nat} (h : ws[p]? = some (.st "@")) : own ws p = none := by
  cases e : own ws p with
  | none => rfl
  | some t =>
    obtain ⟨z, e1, e2, _, e3, _⟩ := own_some e
    rw [h] at e1
    cases e1
    obtain ⟨z', k, _, n, e4⟩ := isT_pr hk e3
    rw [e2] at e4
    cases e4
    rw [name_at] at n; cases n
end LG

set_option Elab.async false
set_option linter.all false
set_option maxRecDepth 100000
set_option maxHeartbeats 8100000
namespace LG
open PySem L2
abbrev sTakers : Stmt := top 24
/-- the takers, as far as they are told from ahead -/
def tkL (ws : List Wd) (k : Nat) : List V := (List.range ws.length).map fun j => if j < k then (match own ws j with
  | some t => V.int (t : Int)
  | none => V.non) else V.non
theorem tkL_len {ws : List Wd} {k : Nat} : (tkL ws k).length = ws.length := by unfold tkL; rw [List.length_map, List.length_range]
def tkV (ws : List Wd) (j : Nat) : V := match own ws j with
  | some t => V.int (t : Int)
  | none => V.non
theorem tkL_get {ws : List Wd} {k j : Nat} (h : j < ws.length) (hk : j < k) : (tkL ws k)[j]? = some (tkV ws j) := by
  unfold tkL
  rw [List.getElem?_map, List.getElem?_range h, Option.map_some, if_pos hk]; rfl
theorem tkL_zero {ws : List Wd} : List.replicate ws.length V.non = tkL ws 0 := by
  unfold tkL
  apply List.ext_getElem?
  intro j
  by_cases h : j < ws.length
  · rw [List.getElem?_replicate, if_pos h, List.getElem?_map, List.getElem?_range h, Option.map_some, if_neg (by omega)]
  · rw [List.getElem?_eq_none (by rw [List.length_replicate]; omega), List.getElem?_eq_none (by rw [List.length_map, List.length_range]; omega)]
theorem tkL_set {ws : List Wd} {k : Nat} (h : k < ws.length) : (tkL ws k).set k (tkV ws k) = tkL ws (k + 1) := by
  unfold tkL
  apply List.ext_getElem?
  intro j
  by_cases hj : j < ws.length
  · rw [List.getElem?_map, List.getElem?_range hj, Option.map_some]
    by_cases e : k = j
    · subst e
      rw [List.getElem?_set_self (by rw [List.length_map, List.length_range]; exact h), if_pos (Nat.lt_succ_self _)]; rfl
    · rw [List.getElem?_set_ne e, List.getElem?_map, List.getElem?_range hj, Option.map_some]
      by_cases q : j < k
      · rw [if_pos q, if_pos (by omega)]
      · rw [if_neg q, if_neg (by omega)]
  · rw [List.getElem?_eq_none (by rw [List.length_set, List.length_map, List.length_range]; omega), List.getElem?_eq_none (by rw [List.length_map, List.length_range]; omega)]
theorem tkL_skip {ws : List Wd} {k : Nat} (h : own ws k = none) : tkL ws k = tkL ws (k + 1) := by
  unfold tkL
  apply List.map_congr_left
  intro j _
  by_cases e : j = k
  · subst e
    rw [if_neg (Nat.lt_irrefl _), if_pos (Nat.lt_succ_self _), h]
  · by_cases q : j < k
    · rw [if_pos q, if_pos (by omega)]
    · rw [if_neg q, if_neg (by omega)]
/-- the dict from names to lists of places -/
def byD (H0 H : Hp) (ws : List Wd) (d tk ar : Addr) (L : List Nat) (m : Nat) : Prop := ∃ kvs : List (Key × V), H d = some (.dK kvs) ∧ kvs.length ≤ m ∧
  (∀ z, match valV kvs (.inr z) with
    | none => byNm ws z L = []
    | some v => ∃ l, v = .ref l ∧ H l = some (.lst ((byNm ws z L).map fun t : Nat => V.int (t : Int))) ∧ H0 l = none ∧ l ≠ tk ∧ l ≠ ar) ∧
  ∀ z z' v, valV kvs (.inr z) = some v → valV kvs (.inr z') = some v → z = z'
theorem byD.other {H0 H : Hp} {ws : List Wd} {d tk ar c : Addr} {L : List Nat} {m : Nat} {o : HO} (h : byD H0 H ws d tk ar L m) (hd : c ≠ d) (hc : c = tk ∨ c = ar ∨ H c = none) : byD H0 (upd H c o) ws d tk ar L m := by
  obtain ⟨kvs, e, l, h1, h2⟩ := h
  refine ⟨kvs, by rw [upd_ne hd.symm]; exact e, l, fun z => ?_, h2⟩
  have := h1 z
  cases q : valV kvs (.inr z) with
  | none => rw [q] at this; exact this
  | some v =>
    rw [q] at this
    obtain ⟨x, ev, hx, hx0, n1, n2⟩ := this
    refine ⟨x, ev, ?_, hx0, n1, n2⟩
    have : c ≠ x := by
      rintro rfl
      rcases hc with rfl | rfl | hc
      · exact n1 rfl
      · exact n2 rfl
      · rw [hx] at hc; cases hc
    rw [upd_ne this.symm]; exact hx
/-- the list of one name is another one -/
theorem byD.put {H0 H : Hp} {ws : List Wd} {d tk ar l : Addr} {L L' : List Nat} {m : Nat} {z : Str} {kvs : List (Key × V)} (hd : H d = some (.dK kvs)) (hm : kvs.length ≤ m) (h1 : ∀ z, match valV kvs (.inr z) with
    | none => byNm ws z L = []
    | some v => ∃ l, v = .ref l ∧ H l = some (.lst ((byNm ws z L).map fun t : Nat => V.int (t : Int))) ∧ H0 l = none ∧ l ≠ tk ∧ l ≠ ar) (h2 : ∀ z z' v, valV kvs (.inr z) = some v → valV kvs (.inr z') = some v → z = z')
    (hz : valV kvs (.inr z) = some (.ref l)) (hL : ∀ x, x ≠ z → byNm ws x L' = byNm ws x L) : byD H0 (upd H l (.lst ((byNm ws z L').map fun t : Nat => V.int (t : Int)))) ws d tk ar L' m := by
  have hl := h1 z
  rw [hz] at hl
  obtain ⟨l', el, hl1, hl0, n1, n2⟩ := hl
  cases el
  have nd : l ≠ d := by rintro rfl; rw [hl1] at hd; cases hd
  refine ⟨kvs, by rw [upd_ne nd.symm]; exact hd, hm, fun x => ?_, h2⟩
  by_cases e : x = z
  · subst e
    rw [hz]
    exact ⟨l, rfl, upd_same, hl0, n1, n2⟩
  · have := h1 x
    cases q : valV kvs (.inr x) with
    | none => rw [q] at this; rw [hL x e]; exact this
    | some v =>
      rw [q] at this
      obtain ⟨y, ev, hy, hy0, m1, m2⟩ := this
      refine ⟨y, ev, ?_, hy0, m1, m2⟩
      have : l ≠ y := by
        rintro rfl
        exact e (h2 x z v q (by rw [hz, ev]))
      rw [upd_ne this.symm, hL x e]; exact hy
def spTakers (K : PySem.W.Frag) : Sp := fun vs H Q _ => ∃ (v : V) (ws : List Wd) (e : Addr), vs = [v, .ref e] ∧ PgAt K H ws v ∧ Woks ws ∧ Whole ws ∧ H e = some (.lst (enL ws 0)) ∧ ∀ l H', H l = none → Same H H' → H' l = some (.lst (tkL ws ws.length)) → Q (.ref l) H'
/-- ahead of a turn -/
structure TkI (H0 H : Hp) (ws : List Wd) (tk ar d : Addr) (i : Nat) (L : List Nat) (m : Nat) : Prop where
  same : Same H0 H
  tkH : H tk = some (.lst (tkL ws i))
  arH : H ar = some (.lst (L.map fun t : Nat => V.int (t : Int)))
  byH : byD H0 H ws d tk ar L m
/-- between two turns of the inner loop -/
def PopI (H : Hp) (ws : List Wd) (a e tk ar d : Addr) (i : Nat) (t6 : Option V) : Nat → St → Hp → Prop := fun m σ H' => ∃ L S, m = L.length ∧ σ = [some (.ref a), some (.ref e), some (.ref tk), some (.ref ar), some (.ref d), some (.int (i : Int)), t6] ∧ TkI H H' ws tk ar d i L i ∧ L ++ S = arPre ws i ∧ ∀ t ∈ S, ofE ws t = i
theorem len_sub {ws : List Wd} {p : Nat} {L S : List Nat} (h : L ++ S = arPre ws p) : L.length ≤ p := by
  have e : (arPre ws p).length ≤ p := by
    unfold arPre
    exact Nat.le_trans (List.length_filter_le _ _) (by rw [List.length_range]; exact Nat.le_refl _)
  rw [← h, List.length_append] at e
  omega
theorem arnd_len {ws : List Wd} {p : Nat} : (arnd ws p).length ≤ p := by
  unfold arnd
  exact Nat.le_trans (List.length_filter_le _ _) (by rw [List.length_range]; exact Nat.le_refl _)
theorem byNm_len {ws : List Wd} {z : Str} {L : List Nat} : (byNm ws z L).length ≤ L.length := List.length_filter_le _ _
section
variable {P : Program} {w : World} {K : PySem.W.Frag} {mg : Str → Option Value} {base : Heap}
theorem scTakers : FnScope ["words", "ends", "takers", "around", "around_of", "place", "word"] ["words", "ends"] (defScope sTakers) := ⟨rfl, rfl, rfl, by decide +kernel, rfl, by decide +kernel, by decide +kernel⟩
theorem ok_takers {f fT : Addr} {fd fdT : FuncData} (F : Fn K mg "_takers" sTakers ["words", "ends"] f fd) (NT : Fn K mg "is_take" sIsTake ["word"] fT fdT) (T : TxB mg) (T2 : TxK mg) : FnOk P w K mg base CX0 2 f fd ["words", "ends"] (spTakers K) := by
  have GT : FnOk P w K mg base CX0 1 fT fdT ["word"] (spIsTake K) := ok_isTake NT T T2.toTxD
  refine F.F.ok scTakers (fun vs H Q E h => ?_) (fun cdv A outer s H vs Q E hr h => ?_)
  · obtain ⟨_, _, _, rfl, _⟩ := h
    rfl
  · obtain ⟨v, ws, e, rfl, hv, hk, wh, he, kq⟩ := h
    have nd := scTakers.nd
    have hu := hu_of hr
    refine ⟨_, pss_cons (ps_set (i := 2) nd rfl (Or.inl rfl) (pe_op op_rep (pe_lst (pa_cons pe_non pa_nil)) (pe_callB call_len_seq (by rfl) T.len PySem.boot_len (pa_cons (pv 0) pa_nil))))
      (pss_cons (ps_set (i := 3) nd rfl (Or.inl rfl) (pe_lst pa_nil))
      (pss_cons (ps_set (i := 4) nd rfl (Or.inl rfl) pe_dnewK)
      (pss_cons (ps_for PassesOwn.never rfl (pi_range1 (by rfl) T.range (pa_cons (pe_callB call_len_seq (by rfl) T.len PySem.boot_len (pa_cons (pv 0) pa_nil)) pa_nil)) (pg_name (i := 5) nd rfl (Or.inl rfl))
        (Evl.pss_cut (ps_while PassesOwn.never (PW.pt (pw_and (pt_truth (pv 3) (by intro _; rfl)) (pw_and1 (pt_cmpR op_eq (pe_ix ix_list (pv 1) (pe_ix ix_list (pv 3) (pe_un un_neg pe_int) (fun _ _ => rfl)) (fun _ _ => rfl)) (pv 5) (nomark _)))))
          (pss_one (ps_expr (pe_bm0 PySem.F.plainAttrs_list PySem.F.slot_list_pop PySem.F.type_list_pop mt_pop (pe_dget hu (pv 4) (pe_ix ix_tup (pe_ix ix_tup (pv 0) (pe_bm0 PySem.F.plainAttrs_list PySem.F.slot_list_pop PySem.F.type_list_pop mt_pop (pv 3)) (fun _ _ => rfl)) pe_int (fun _ _ => rfl)) (fun _ _ => rfl))))))
        (pss_cons (ps_set (i := 6) nd rfl (Or.inl rfl) (pe_ix ix_tup (pv 0) (pv 5) (fun _ _ => rfl)))
        (pss_one (ps_if (pt_val (pe_call GT hr (by rfl) NT.m NT.F.kp NT.b .nil pass0 (pa_cons (pv 6) pa_nil)))
          (pss_cons (ps_expr (pe_bm PySem.F.plainAttrs_list PySem.F.slot_list_append PySem.F.type_list_append mt_append (pv 3) (pa_cons (pv 5) pa_nil)))
            (pss_one (ps_expr (pe_bm PySem.F.plainAttrs_list PySem.F.slot_list_append PySem.F.type_list_append mt_append (pe_dsetd (pv 4) (pe_ix ix_tup (pv 6) pe_int (fun _ _ => rfl)) (pe_lst pa_nil) ⟨rfl, rfl, rfl, rfl⟩) (pa_cons (pv 5) pa_nil)))))
          (pss_one (ps_if (pt_truth (pe_dget1 hu (pv 4) (pv 6) ⟨rfl, rfl, rfl, rfl⟩) (by intro _; rfl))
            (pss_one (ps_asg (pe_ix ix_list (pe_dget hu (pv 4) (pv 6) (fun _ _ => rfl)) (pe_un un_neg pe_int) (fun _ _ => rfl)) (pg_sub (pv 2) (pv 5) set_list))) pss_nil)))))))
      (pss_one (ps_ret (pv 2)))))), ?_⟩
    obtain ⟨a, vs, rfl, ha, hw, hl⟩ := hv
    have lv := hw.1
    refine ⟨(by show 1 ≤ sizeLine; decide), fun p hp => ?_⟩
    have ha1 : upd H p (.lst [V.non]) a = some (.tup vs) := by rw [upd_ne (ne_of_none ha hp)]; exact ha
    refine ⟨_, rfl, _, _, rfl, .inr (SqT.of ha1), p, _, _, rfl, rfl, upd_same, by omega, by have := line63; omega, (by show 1 * _ ≤ sizeLine; rw [Nat.one_mul, lv]; exact big2 (by omega)), fun tk htk => ?_⟩
    refine ⟨(by show 0 ≤ sizeLine; decide), fun ar har d hd => ?_⟩
    have e0 : (List.replicate ((vs.length : Int)).toNat [V.non]).flatten = tkL ws 0 := by
      rw [← tkL_zero, lv]
      show (List.replicate ws.length [V.non]).flatten = _
      rw [List.flatten_replicate_singleton]
    rw [e0] at har hd ⊢
    have s1 : Same H (upd H p (.lst [V.non])) := same_new (same_refl H) hp
    have ntk : H tk = none := same_none s1 htk
    have s2 := same_new (o := .lst (tkL ws 0)) s1 htk
    have nar : H ar = none := same_none s2 har
    have s3 := same_new (o := .lst []) s2 har
    have ndd : H d = none := same_none s3 hd
    have s4 := same_new (o := .dK []) s3 hd
    have tka : tk ≠ ar := ne_of_none upd_same har
    have ard : ar ≠ d := ne_of_none upd_same hd
    have tkd : tk ≠ d := ne_of_none (by rw [upd_ne tka]; exact upd_same) hd
    have J0 : TkI H (upd (upd (upd (upd H p (.lst [V.non])) tk (.lst (tkL ws 0))) ar (.lst [])) d (.dK [])) ws tk ar d 0 [] 0 :=
      ⟨s4, by rw [upd_ne tkd, upd_ne tka]; exact upd_same, by rw [upd_ne ard]; exact upd_same, [], upd_same, Nat.zero_le _, fun z => rfl, fun z z' v h => by cases h⟩
    generalize upd (upd (upd (upd H p (.lst [V.non])) tk (.lst (tkL ws 0))) ar (.lst [])) d (.dK []) = G at J0
    clear hd har htk hp ha1 s1 s2 s3 s4 e0 p
    refine ⟨_, rfl, _, _, rfl, .inr (SqT.of (J0.same _ _ ha)), _, rfl, by omega, by have := line63; omega, ?_⟩
    rw [show ((vs.length : Int)).toNat = ws.length by omega]
    refine for_range (lo := 0) (n := ws.length) (fun i σ H' => ∃ t5 t6, σ = [some (.ref a), some (.ref e), some (.ref tk), some (.ref ar), some (.ref d), t5, t6] ∧ TkI H H' ws tk ar d i (arPre ws i) i) ⟨none, none, rfl, J0⟩ ?_ ?_
    · rintro i σ H1 hi ⟨t5, t6, rfl, J⟩
      rw [Int.zero_add]
      refine ⟨fun σ' H' => σ' = [some (.ref a), some (.ref e), some (.ref tk), some (.ref ar), some (.ref d), some (.int (i : Int)), t6] ∧ TkI H H' ws tk ar d i (arnd ws i) i, ?_, ?_⟩
      · refine ⟨PopI H ws a e tk ar d i t6, ⟨_, arPre ws i, [], rfl, rfl, J, List.append_nil _, fun t h => by cases h⟩, ?_⟩
        rintro m σ H2 ⟨L, S, rfl, rfl, J2, hLS, hS⟩
        refine ⟨_, rfl, _, .inl ⟨_, SqL.of J2.arH, rfl⟩, ?_⟩
        rcases nil_or_snoc L with rfl | ⟨L', t, rfl⟩
        · refine ifF rfl ?_
          refine ifF rfl ?_
          rw [pop_done wh hLS hS (fun t h => by cases h)] at J2
          exact ⟨rfl, J2⟩
        · have mt := mem_arPre.mp (show t ∈ arPre ws i by rw [← hLS]; simp)
          have tl := isT_lt mt.2.1
          have arH := J2.arH
          rw [List.map_append] at arH
          refine ifT (by simp) ?_
          refine ⟨_, rfl, _, rfl, _, rfl, ar, _, _, _, rfl, rfl, SqL.of arH, atI_last _ _, e, _, _, _, rfl, rfl, SqL.of (J2.same _ _ he), atI_nat (enL_get tl (Nat.zero_le _)), _, rfl, rfl, _, rfl, ?_⟩
          refine ite2 (fun c => ?_) (fun c => ?_)
          · have c : ofE ws t = i := by have := V.int.inj (of_decide_eq_true c); omega
            refine ⟨fun σ'' H'' => ∃ m', m' < (L' ++ [t]).length ∧ PopI H ws a e tk ar d i t6 m' σ'' H'', fun _ _ z => z, ?_⟩
            obtain ⟨z, kd, hz, nz, nm⟩ := isT_pr hk mt.2.1
            obtain ⟨vt, hvt⟩ : ∃ vt, vs[t]? = some vt := ⟨_, List.getElem?_eq_getElem (by omega)⟩
            obtain ⟨pt, x, y, rfl, hpt, hx, _⟩ := hw.2 _ _ _ hz hvt
            obtain ⟨rfl, _⟩ := hx
            have B3 := J2.byH.other (o := .lst (L'.map fun t : Nat => V.int (t : Int))) ard (.inr (.inl rfl))
            have dl : ((L'.map fun t : Nat => V.int (t : Int)) ++ [t].map fun t : Nat => V.int (t : Int)).dropLast = L'.map fun t : Nat => V.int (t : Int) := by simp
            have s3 : Same H (upd H2 ar (.lst (L'.map fun t : Nat => V.int (t : Int)))) := fun b o q => by rw [upd_ne (ne_of_none q nar)]; exact J2.same _ _ q
            have k3 : upd H2 ar (.lst (L'.map fun t : Nat => V.int (t : Int))) tk = some (.lst (tkL ws i)) := by rw [upd_ne tka]; exact J2.tkH
            have a3 : upd H2 ar (.lst (L'.map fun t : Nat => V.int (t : Int))) ar = some (.lst (L'.map fun t : Nat => V.int (t : Int))) := upd_same
            refine ⟨_, rfl, _, rfl, _, rfl, .inl ⟨rfl, _, SqL.of arH⟩, ar, _, _, rfl, rfl, arH, (by simp; rfl), ?_⟩
            rw [dl]
            generalize upd H2 ar (.lst (L'.map fun t : Nat => V.int (t : Int))) = H3 at B3 s3 k3 a3
            obtain ⟨kvs, hd3, hm3, b1, b2⟩ := B3
            have bz := b1 z
            cases q : valV kvs (.inr z) with
            | none =>
              rw [q, byNm_snoc, if_pos nm] at bz
              exact absurd bz (by simp)
            | some v =>
              rw [q] at bz
              obtain ⟨l, rfl, hl3, l0, n1, n2⟩ := bz
              rw [byNm_snoc, if_pos nm, List.map_append] at hl3
              have g : DGet H3 d (kV (.inr z)) (some (.ref l)) := by rw [← q]; exact DGet.k hd3
              refine ⟨a, _, _, _, rfl, rfl, SqT.of (s3 _ _ ha), atI_nat hvt, pt, _, _, _, rfl, rfl, SqT.of (s3 _ _ hpt), rfl, d, _, rfl, g, ?_⟩
              refine ⟨.inl ⟨rfl, _, SqL.of hl3⟩, l, _, _, rfl, rfl, hl3, (by simp; rfl), ?_⟩
              have dl2 : ((byNm ws z L').map (fun t : Nat => V.int (t : Int)) ++ [t].map fun t : Nat => V.int (t : Int)).dropLast = (byNm ws z L').map fun t : Nat => V.int (t : Int) := by simp
              rw [dl2]
              have B4 := byD.put (L' := L') hd3 hm3 b1 b2 q (fun x e => by rw [byNm_snoc, if_neg (by rw [nm]; exact fun z => e (Option.some.inj z).symm)])
              refine ⟨L'.length, by simp, L', t :: S, rfl, rfl, ⟨fun b o q => by rw [upd_ne (ne_of_none q l0)]; exact s3 _ _ q, by rw [upd_ne n1.symm]; exact k3, by rw [upd_ne n2.symm]; exact a3, B4⟩, by rw [← hLS]; simp, fun u hu => ?_⟩
              obtain rfl | hu := List.mem_cons.mp hu
              · exact c
              · exact hS u hu
          · have c : ofE ws t ≠ i := fun q => c (decide_eq_true (by rw [q]))
            rw [pop_done wh hLS hS (fun u h => by simp at h; rw [← h]; exact c)] at J2
            exact ⟨rfl, J2⟩
      · rintro σ H2 ⟨rfl, J2⟩
        obtain ⟨wi, hwi⟩ : ∃ wi, ws[i]? = some wi := ⟨_, List.getElem?_eq_getElem hi⟩
        obtain ⟨vi, hvi⟩ : ∃ vi, vs[i]? = some vi := ⟨_, List.getElem?_eq_getElem (by omega)⟩
        have wd := (hw.2 _ _ _ hwi hvi).same J2.same
        have ok := hk wi (List.mem_of_getElem? hwi)
        have it : isT ws i = wi.thing := by unfold isT; rw [hwi]
        have al := arnd_len (ws := ws) (p := i)
        refine ⟨_, rfl, _, rfl, a, _, _, _, rfl, rfl, SqT.of (J2.same _ _ ha), atI_nat hvi, ?_⟩
        refine ⟨_, rfl, vi, wi, rfl, wd, ok.no, _, rfl, ?_⟩
        refine ite2 (fun c => ?_) (fun c => ?_)
        · have e1 : arPre ws (i + 1) = arnd ws i ++ [i] := by rw [arPre_succ wh hi, it, if_pos c]
          rw [e1]
          obtain ⟨z, kd, hz, nz, nm⟩ := isT_pr hk (it.trans c)
          rw [hwi] at hz
          cases hz
          obtain ⟨pt, x, y, rfl, hpt, hx, _⟩ := hw.2 _ _ _ hwi hvi
          obtain ⟨rfl, _⟩ := hx
          have on : own ws i = none := by unfold own; rw [hwi]
          have B3 := J2.byH.other (o := .lst ((arnd ws i).map (fun t : Nat => V.int (t : Int)) ++ [V.int (i : Int)])) ard (.inr (.inl rfl))
          have s3 : Same H (upd H2 ar (.lst ((arnd ws i).map (fun t : Nat => V.int (t : Int)) ++ [V.int (i : Int)]))) := fun b o q => by rw [upd_ne (ne_of_none q nar)]; exact J2.same _ _ q
          have k3 : upd H2 ar (.lst ((arnd ws i).map (fun t : Nat => V.int (t : Int)) ++ [V.int (i : Int)])) tk = some (.lst (tkL ws (i + 1))) := by rw [upd_ne tka, ← tkL_skip on]; exact J2.tkH
          have a3 : upd H2 ar (.lst ((arnd ws i).map (fun t : Nat => V.int (t : Int)) ++ [V.int (i : Int)])) ar = some (.lst ((arnd ws i ++ [i]).map (fun t : Nat => V.int (t : Int)))) := by rw [upd_same, List.map_append]; rfl
          refine ⟨_, rfl, .inl ⟨rfl, _, SqL.of J2.arH⟩, _, rfl, ar, _, _, rfl, rfl, J2.arH, (by rw [List.length_map]; exact room2 (by omega)), ?_⟩
          generalize upd H2 ar (.lst ((arnd ws i).map (fun t : Nat => V.int (t : Int)) ++ [V.int (i : Int)])) = H3 at B3 s3 k3 a3
          obtain ⟨kvs, hd3, hm3, b1, b2⟩ := B3
          have bl := byNm_len (ws := ws) (z := z) (L := arnd ws i)
          refine ⟨_, rfl, d, rfl, .inl ⟨_, .inl hd3⟩, _, rfl, pt, _, _, _, rfl, rfl, SqT.of (s3 _ _ hpt), rfl, (by show 0 ≤ sizeLine; decide), fun nl hnl => ?_⟩
          have nln : d ≠ nl := ne_of_none hd3 hnl
          have s4 : Same H (upd H3 nl (.lst [])) := same_new s3 hnl
          have ntl : tk ≠ nl := ne_of_none k3 hnl
          have nal : ar ≠ nl := ne_of_none a3 hnl
          have hd4 : upd H3 nl (.lst []) d = some (.dK kvs) := by rw [upd_ne nln]; exact hd3
          refine ⟨kvs, .inr z, hd4, rfl, room2 (by omega), fun v hv => ?_, fun hn => ?_⟩
          · have B4 : byD H (upd H3 nl (.lst [])) ws d tk ar (arnd ws i) i := byD.other ⟨kvs, hd3, hm3, b1, b2⟩ nln.symm (.inr (.inr hnl))
            obtain ⟨kvs', hd5, hm5, b1, b2⟩ := B4
            rw [hd4] at hd5
            cases hd5
            have bz := b1 z
            rw [hv] at bz
            obtain ⟨l, rfl, hl4, l0, n1, n2⟩ := bz
            refine ⟨.inl ⟨rfl, _, SqL.of hl4⟩, _, rfl, l, _, _, rfl, rfl, hl4, (by rw [List.length_map]; exact room2 (by omega)), ?_⟩
            have B5 := byD.put (L' := arnd ws i ++ [i]) hd4 hm5 b1 b2 hv (fun x e => by rw [byNm_snoc, if_neg (by rw [nm]; exact fun z => e (Option.some.inj z).symm)])
            rw [byNm_snoc, if_pos nm, List.map_append] at B5
            refine ⟨_, _, rfl, fun b o q => by rw [upd_ne (ne_of_none q l0)]; exact s4 _ _ q, by rw [upd_ne n1.symm, upd_ne ntl]; exact k3, by rw [upd_ne n2.symm, upd_ne nal]; exact a3, ?_⟩
            obtain ⟨kv, x1, x2, x3, x4⟩ := B5
            exact ⟨kv, x1, by omega, x3, x4⟩
          · have g1 : upd (upd H3 nl (.lst [])) d (.dK (putK kvs (.inr z) (.ref nl))) nl = some (.lst []) := by rw [upd_ne nln.symm]; exact upd_same
            refine ⟨.inl ⟨rfl, _, SqL.of g1⟩, _, rfl, nl, _, _, rfl, rfl, g1, (by show 0 < sizeLine; decide), ?_⟩
            have h0 : byNm ws z (arnd ws i) = [] := by have := b1 z; rw [hn] at this; exact this
            refine ⟨_, _, rfl, fun b o q => by rw [upd_ne (ne_of_none q (same_none s3 hnl)), upd_ne (ne_of_none q ndd)]; exact s4 _ _ q, by rw [upd_ne ntl, upd_ne tkd, upd_ne ntl]; exact k3, by rw [upd_ne nal, upd_ne ard, upd_ne nal]; exact a3, putK kvs (.inr z) (.ref nl), by rw [upd_ne nln]; exact upd_same, ?_, fun x => ?_, fun x x' v => ?_⟩
            · have := length_putK kvs (.inr z) (.ref nl); omega
            · rw [valV_put]
              by_cases q : x = z
              · subst q
                rw [if_pos rfl]
                refine ⟨nl, rfl, ?_, same_none s3 hnl, ntl.symm, nal.symm⟩
                rw [upd_same, byNm_snoc, if_pos nm, h0]; rfl
              · rw [if_neg (fun z => q (Sum.inr.inj z)), byNm_snoc, if_neg (by rw [nm]; exact fun z => q (Option.some.inj z).symm)]
                have := b1 x
                cases r : valV kvs (.inr x) with
                | none => rw [r] at this; exact this
                | some v =>
                  rw [r] at this
                  obtain ⟨l, ev, hl, l0, m1, m2⟩ := this
                  have nl1 : l ≠ nl := ne_of_none hl hnl
                  have nl2 : l ≠ d := by rintro rfl; rw [hd3] at hl; cases hl
                  exact ⟨l, ev, by rw [upd_ne nl1, upd_ne nl2, upd_ne nl1]; exact hl, l0, m1, m2⟩
            · rw [valV_put, valV_put]
              have old : ∀ y, valV kvs (.inr y) ≠ some (.ref nl) := fun y r => by
                have := b1 y
                rw [r] at this
                obtain ⟨l, ev, hl, _⟩ := this
                cases ev
                rw [hnl] at hl; cases hl
              by_cases q : x = z
              · subst q
                rw [if_pos rfl]
                intro e1
                cases e1
                by_cases q' : x' = x
                · intro _; exact q'.symm
                · rw [if_neg (fun z => q' (Sum.inr.inj z))]
                  intro r; exact absurd r (old _)
              · rw [if_neg (fun z => q (Sum.inr.inj z))]
                by_cases q' : x' = z
                · subst q'
                  rw [if_pos rfl]
                  intro r e1
                  cases e1
                  exact absurd r (old _)
                · rw [if_neg (fun z => q' (Sum.inr.inj z))]
                  exact b2 x x' v
        · have e1 : arPre ws (i + 1) = arnd ws i := by rw [arPre_succ wh hi, it, if_neg c]
          rw [e1]
          obtain ⟨z, rfl⟩ : ∃ z, wi = .st z := by
            cases wi with
            | st z => exact ⟨z, rfl⟩
            | pr o t => exact absurd rfl c
            | no => exact absurd rfl ok.no
          obtain ⟨rfl, _⟩ := wd
          have oe : own ws i = (byNm ws z (arnd ws i)).getLast? := by unfold own; rw [hwi]
          obtain ⟨kvs, hd3, hm3, b1, b2⟩ := id J2.byH
          have skip : own ws i = none → ∃ t5 t6', [some (V.ref a), some (V.ref e), some (V.ref tk), some (V.ref ar), some (V.ref d), some (V.int (i : Int)), some (V.str z)] = [some (.ref a), some (.ref e), some (.ref tk), some (.ref ar), some (.ref d), t5, t6'] ∧ TkI H H2 ws tk ar d (i + 1) (arnd ws i) (i + 1) := fun on => by
            obtain ⟨h1, h2, h3, kv, x1, x2, x3, x4⟩ := J2
            rw [tkL_skip on] at h2
            exact ⟨_, _, rfl, h1, h2, h3, kv, x1, by omega, x3, x4⟩
          refine ⟨_, rfl, d, rfl, .inl ⟨_, .inl hd3⟩, _, rfl, valV kvs (.inr z), DGet.k (k := .inr z) hd3, ?_⟩
          have bz := b1 z
          cases q : valV kvs (.inr z) with
          | none =>
            rw [q] at bz
            refine ⟨false, rfl, ?_⟩
            refine ifF rfl ?_
            exact skip (by rw [oe, bz]; rfl)
          | some v =>
            rw [q] at bz
            obtain ⟨l, rfl, hl3, l0, n1, n2⟩ := bz
            refine ⟨_, .inl ⟨_, SqL.of hl3, rfl⟩, ?_⟩
            rcases nil_or_snoc (byNm ws z (arnd ws i)) with h0 | ⟨L', t, h0⟩
            · rw [h0]
              refine ifF rfl ?_
              exact skip (by rw [oe, h0]; rfl)
            · have ot : own ws i = some t := by rw [oe, h0]; simp
              have tv : tkV ws i = V.int (t : Int) := by unfold tkV; rw [ot]
              rw [h0, List.map_append] at hl3
              rw [h0, List.map_append]
              refine ifT (by simp) ?_
              have g : DGet H2 d (kV (.inr z)) (some (.ref l)) := by rw [← q]; exact DGet.k hd3
              refine ⟨_, rfl, _, rfl, d, _, rfl, g, _, rfl, l, _, _, _, rfl, rfl, SqL.of hl3, atI_last _ _, _, rfl, _, rfl, tk, _, _, i, rfl, rfl, J2.tkH, Evl.ixN_nat (by rw [tkL_len]; exact hi), ?_⟩
              refine ⟨_, _, rfl, fun b o q => by rw [upd_ne (ne_of_none q ntk)]; exact J2.same _ _ q, ?_, by rw [upd_ne tka.symm]; exact J2.arH, ?_⟩
              · rw [upd_same, ← tkL_set hi, tv]
              · obtain ⟨kv, x1, x2, x3, x4⟩ := J2.byH.other (o := .lst ((tkL ws i).set i (V.int (t : Int)))) tkd (.inl rfl)
                exact ⟨kv, x1, by omega, x3, x4⟩
    · rintro σ H1 ⟨t5, t6, rfl, J⟩
      exact ⟨_, rfl, kq tk H1 ntk J.same J.tkH⟩
end
end LG

set_option Elab.async false
set_option linter.all false
set_option maxRecDepth 100000
set_option maxHeartbeats 2000000
namespace LG
open PySem L2
open PySem.Sem (wp)
section
variable {prog : Program} {w : World} {A : Around} {E : Value → Shared → Prop} {s : Shared}
/-- a part of what is done, seen through -/
theorem asBind {α β : Type} {t : Sem β} {Q : β → Shared → Prop} (m : Sem α) {k : α → Sem β} (e : t = m >>= k) (h : wpAny (model prog w) A m (fun a s' => wpAny (model prog w) A (k a) Q E s') E s) : wpAny (model prog w) A t Q E s := by
  rw [e]; exact wpAny_bind h
/-- what a turn of enumerate over a tuple leaves -/
structure EnOut (h h' : Heap) (tk : Nat) (e it l : Addr) (i : Nat) (x : Value) : Prop where
  out : IsEnumOut h' e it ((i : Int) + 1) x h.objs.size
  tIt : h'.IsTupleIter it l (i + 1)
  tup : h'.get? h.objs.size = some { cls := .type "tuple", data := .seq #[.int i tk, x] }
  old : ∀ b o, b ≠ e → b ≠ it → h.get? b = some o → h'.get? b = some o
theorem iter_keeps {h h' : Heap} {e it l : Addr} {i : Nat} (hit : h.IsTupleIter it l i) (hne : e ≠ it) (sb : Heap.SameBut e h h') : h'.IsTupleIter it l i := hit.extBut sb.extBut hne.symm
theorem enT_next {e it l : Addr} {i : Nat} {items : Array Value} {x old : Value} {Q : Value → Shared → Prop}
    (he : IsEnum s.heap e it i old) (hit : s.heap.IsTupleIter it l i) (hl : s.heap.IsTuple l items) (hx : items[i]? = some x) (hne : e ≠ it) (k : ∀ h', EnOut s.heap h' s.toks e it l i x → Q (.ref s.heap.objs.size) { s with heap := h', toks := s.toks + 1 }) :
    wpAny (model prog w) A (Builtin.«enumerate.__next__» ⟨[.ref e],
        []⟩) (fun fin s' => ∃ v, fin = .done (.ret v) ∧ Q v s') E s := by
  (obtain ⟨hp, g, d, tk, os⟩ := s)
  (have hel : e < hp.objs.size := Heap.lt_size he)
  refine asBind (field (.ref e) 2) rfl (wpAny_field he rfl (x := .ref it) rfl ?_)
  refine asBind (Builtin.SmallTypes.nextOf (.ref it)) rfl (RZ.nextOf_tuple_item hit hl hx fun g1 i1 (b1 : Heap.SameBut it hp g1) => ?_)
  have e1 : IsEnum g1 e it i old := (b1.2 e hne).trans he
  refine asBind (field (.ref e) 3) rfl (wpAny_field (s := ⟨g1, g, d, tk, os⟩) e1 rfl (x := rawInt i) rfl ?_)
  refine asBind (field (.ref e) 4) rfl (wpAny_field e1 rfl (x := .none) rfl ?_)
  refine asBind (mkInt i) rfl (wpAny_mkInt ?_)
  refine asBind (setField (.ref e) 3 (rawInt ((i : Int) + 1))) rfl (wpAny_setField_rec (s := ⟨g1, g, d, tk + 1, os⟩) e1 (by simp) fun g2 (e2 : IsEnum g2 e it ((i : Int) + 1) old) (b2 : Heap.SameBut e g1 g2) => ?_)
  refine asBind (setField (.ref e) 4 .none) rfl (wpAny_setField_rec (s := ⟨g2, g, d, tk + 1, os⟩) e2 (by simp) fun g3 (e3 : IsEnum g3 e it ((i : Int) + 1) old) (b3 : Heap.SameBut e g2 g3) => ?_)
  refine asBind (newTuple [.int i tk, x]) rfl (wpAny_newTuple ?_)
  have hz : g3.objs.size = hp.objs.size := b3.1.trans (b2.1.trans b1.1)
  have i3 : g3.IsTupleIter it l (i + 1) := iter_keeps (iter_keeps i1 hne b2) hne b3
  show wpAny (model prog w) A _ _ E ⟨g3.push { cls := .type "tuple", data := .seq #[.int i tk, x] }, g, d, tk + 1, os⟩
  generalize h4 : g3.push { cls := .type "tuple", data := .seq #[.int i tk, x] } = g4
  have t4 : g4.get? hp.objs.size = some { cls := .type "tuple", data := .seq #[.int i tk, x] } := by rw [← h4, ← hz]; exact Heap.get?_push_size _ rfl
  have k4 : ∀ b o, b ≠ e → b ≠ it → hp.get? b = some o → g4.get? b = some o := fun b o n1 n2 q => by
    rw [← h4]
    exact Heap.get?_push_of_some _ (b3.extBut b o n1 (b2.extBut b o n1 (b1.extBut b o n2 q)))
  have e4 : IsEnum g4 e it ((i : Int) + 1) old := by rw [← h4]; exact Heap.get?_push_of_some _ e3
  have i4 : g4.IsTupleIter it l (i + 1) := by rw [← h4]; exact i3.at fun o q => Heap.get?_push_of_some _ q
  show wpAny (model prog w) A ((fun result => _) (Value.ref g3.objs.size)) _ E _
  rw [hz]
  clear h4 e3 b3 e2 b2 e1 b1 i1 i3 hz g3 g2 g1
  refine asBind (Builtin.SmallTypes.ownedTupleIsFree (.ref e)) rfl ?_
  refine asBind (field (.ref e) 0) rfl (wpAny_field (s := ⟨g4, g, d, tk + 1, os⟩) e4 rfl (x := .none) rfl (wpAny_pure ?_))
  refine asBind (rule "enumerate.__next__.owned-tuple-again") rfl (wpAny_rule ?_)
  refine asBind (field (.ref e) 5) rfl (wpAny_field (s := ⟨g4, g, d, tk + 1, os⟩) e4 rfl (x := old) rfl ?_)
  refine asBind (setField (.ref e) 5 x) rfl (wpAny_setField_rec (s := ⟨g4, g, d, tk + 1, os⟩) e4 (by simp) fun g5 (e5 : IsEnum g5 e it ((i : Int) + 1) x) (b5 : Heap.SameBut e g4 g5) => ?_)
  refine asBind (Builtin.SmallTypes.ownedTupleHandOut (.ref e) (.ref hp.objs.size)) rfl ?_
  refine asBind (setField (.ref e) 0 (rawInt hp.objs.size)) rfl (wpAny_setField_rec (s := ⟨g5, g, d, tk + 1, os⟩) e5 (by simp) fun g6 (e6 : IsEnumOut g6 e it ((i : Int) + 1) x hp.objs.size) (b6 : Heap.SameBut e g5 g6) => ?_)
  refine wpAny_setField_rec (s := ⟨g6, g, d, tk + 1, os⟩) e6 (by simp) fun g7 (e7 : IsEnumOut g7 e it ((i : Int) + 1) x hp.objs.size) (b7 : Heap.SameBut e g6 g7) => ?_
  refine asBind (letGo [old] [.ref hp.objs.size]) rfl (wpAny_letGo (wpAny_pure ⟨_, rfl, k g7 ⟨e7, ?_, ?_, ?_⟩⟩))
  · exact iter_keeps (iter_keeps (iter_keeps i4 hne b5) hne b6) hne b7
  · exact b7.extBut _ _ (Nat.ne_of_gt hel) (b6.extBut _ _ (Nat.ne_of_gt hel) (b5.extBut _ _ (Nat.ne_of_gt hel) t4))
  · exact fun b o n1 n2 q => b7.extBut b o n1 (b6.extBut b o n1 (b5.extBut b o n1 (k4 b o n1 n2 q)))
theorem enT_item {e it l : Addr} {i : Nat} {items : Array Value} {x old : Value} {Q : Option Value → Shared → Prop} (he : IsEnum s.heap e it i old) (hit : s.heap.IsTupleIter it l i) (hl : s.heap.IsTuple l items) (hx : items[i]? = some x) (hne : e ≠ it)
    (k : ∀ h', EnOut s.heap h' s.toks e it l i x → Q (some (.ref s.heap.objs.size)) { s with heap := h', toks := s.toks + 1 }) : wpAny (model prog w) A (pyNext (.ref e)) Q E s := by
  unfold pyNext
  refine wpAny_bind (wpAny_attempt (wpAny_callSpecial?_slot (T := "enumerate") (name := Str.ofString "__next__") ⟨_, he, rfl⟩ F.slot_enumerate_next (wpAny_call_entry F.slot_enumerate_next (T := "enumerate") ⟨_, he, rfl⟩ F.entry_enumerate_next ?_ (F.args_enumerate_next_1 _))))
  exact enT_next he hit hl hx hne fun h' o => wpAny_pure (k h' o)
theorem enT_end {e it l : Addr} {i : Nat} {items : Array Value} {old : Value} {Q : Option Value → Shared → Prop} (hh : A.handled = none) (he : IsEnum s.heap e it i old) (hit : s.heap.IsTupleIter it l i) (hl : s.heap.IsTuple l items) (hx : items[i]? = none)
    (k : ∀ h', Heap.ExtBut it s.heap h' → Q none { s with heap := h' }) : wpAny (model prog w) A (pyNext (.ref e)) Q E s := by
  unfold pyNext
  refine wpAny_bind (wpAny_attempt (wpAny_callSpecial?_slot (T := "enumerate") (name := Str.ofString "__next__") ⟨_, he, rfl⟩ F.slot_enumerate_next (wpAny_call_entry F.slot_enumerate_next (T := "enumerate") ⟨_, he, rfl⟩ F.entry_enumerate_next ?_ (F.args_enumerate_next_1 _))))
  refine asBind (field (.ref e) 2) rfl (wpAny_field he rfl (x := .ref it) rfl ?_)
  refine asBind (Builtin.SmallTypes.nextOf (.ref it)) rfl (RZ.nextOf_tuple_end hh hit hl hx fun h' z he' ⟨o, ho, hc⟩ => ?_)
  exact wpAny_bind (wpAny_isInstance (T := "StopIteration") (b := true) ⟨o, ho, hc⟩ isSubtype_stop (wpAny_pure (k _ he')))
theorem enT_new (l : Addr) (items : Array Value) (n : Nat) (dct : Option Addr) (sl : Array (Option Value)) : Meets (Builtin.«enumerate.__new__» ⟨[.type "enumerate", .ref l], []⟩) (fun _ R s => s.heap.get? l = some { cls := .type "tuple", dict := dct, data := .seq items n, slots := sl } ∧
      R (.ok (.ret (.ref (s.heap.push { cls := .type "tuple_iterator", data := .fields #[.ref l, .int 0 0] }).objs.size)))
        { s with heap := (s.heap.push { cls := .type "tuple_iterator", data := .fields #[.ref l, .int 0 0] }).push { cls := .type "enumerate", data := .fields #[.none, .bool false, .ref s.heap.objs.size, rawInt 0, .none, .none] } }) := by
  refine .of_wp fun prog w A R s ⟨hl, h⟩ => ?_
  (obtain ⟨hp, g, d, tk, os⟩ := s)
  have hsub := sub_enumerate
  have hT : Heap.IsTuple (Shared.heap ⟨hp, g, d, tk, os⟩) l items := ⟨_, hl, rfl, n, rfl⟩
  wp_walk using AutoSeq1.wpAny_loadPart' hl
  refine (wpAny_stack_any fun st => wpAny_pure ?_)
  split
  · rename_i c _ _ _ _ _
    cases (c == Value.type "enumerate") <;> (wp_walk using AutoSeq1.wpAny_loadPart' hl, wpAny_pyIter_tuple hT) <;> exact ⟨_, rfl, h⟩
  · wp_walk using AutoSeq1.wpAny_loadPart' hl, wpAny_pyIter_tuple hT
    exact ⟨_, rfl, h⟩
theorem enT_call {l : Addr} {items : Array Value} {Q : Value → Shared → Prop} (hT : s.heap.IsTuple l items)
    (k : ∀ h', IsEnum h' (s.heap.objs.size + 1) s.heap.objs.size 0 .none → h'.IsTupleIter s.heap.objs.size l 0 → (∀ b o, s.heap.get? b = some o → h'.get? b = some o) → Q (.ref (s.heap.objs.size + 1)) { s with heap := h' }) :
    wpAny (model prog w) A (call (.type
        "enumerate") [.ref l]) Q E s := by
  obtain ⟨⟨c, dct, dt, sl⟩, hl, hc, n, hd⟩ := hT
  cases (show c = .type "tuple" from hc)
  cases (show dt = .seq items n from hd)
  have hz : (s.heap.push { cls := .type "tuple_iterator", data := .fields #[.ref l, .int 0 0] }).objs.size = s.heap.objs.size + 1 := Heap.size_push ..
  have he : IsEnum ((s.heap.push { cls := .type "tuple_iterator", data := .fields #[.ref l, .int 0 0] }).push { cls := .type "enumerate", data := .fields #[.none, .bool false, .ref s.heap.objs.size, rawInt 0, .none, .none] }) (s.heap.objs.size + 1) s.heap.objs.size 0 .none := by
    rw [← hz]; exact Heap.get?_push_size _ rfl
  refine callType_new F.called_enumerate (by decide) (F.typeCall_enumerate_1 _) (F.newCall_enumerate_1 _) (fun obj => F.args_object_init_2 obj _) F.entry_enumerate_new (enT_new l items n dct sl) ⟨hl, ?_⟩
  show _ ∧ _
  rw [hz]
  exact ⟨⟨_, he, rfl⟩, k _ he ⟨_, Heap.get?_push_of_some _ (Heap.get?_push_size _ rfl), rfl, rfl⟩ fun b o q => Heap.get?_push_of_some _ (Heap.get?_push_of_some _ q)⟩
end
/-- the tuple at a, each item in a new pair with its place -/
def IteT (K : PySem.W.Frag) (a : Addr) : It where
  go := fun i H => ∃ (xs : List V) (x : V), SqT K H a xs ∧ xs[i]? = some x
  yld := fun i H v H' => ∃ T x, v = .ref T ∧ H T = none ∧ H' = upd H T (.tup [.int (i : Nat), x]) ∧ ∀ xs, SqT K H a xs → xs[i]? = some x
  stop := fun i H => ∃ xs : List V, SqT K H a xs ∧ xs.length ≤ i
theorem turn_enumT {P : Program} {w : World} {K : PySem.W.Frag} {elts : List Expr} {kk : Nat} {tpos : Pos} (a e it : Addr) : Turn P w K (.Tuple elts kk tpos) (IteT K a) [e, it] e (fun i h => (∃ old, IsEnum h e it ((i : Nat) : Int) old) ∧ h.IsTupleIter it a i ∧ e ≠ it) where
  mem := List.mem_cons_self
  obj := fun i h st b hb => by
    obtain ⟨⟨old, he⟩, ⟨o, ho, _, hd⟩, _⟩ := st
    obtain z | z := List.mem_cons.mp hb
    · rw [z]
      exact ⟨_, he, fun v q => nomatch q⟩
    · rw [List.mem_singleton] at z
      exact ⟨o, z ▸ ho, fun v q => nomatch hd.symm.trans q⟩
  keep := fun i h h' st k => by
    obtain ⟨⟨old, he⟩, hi, hne⟩ := st
    exact ⟨⟨old, k e (by simp) _ he⟩, hi.at fun o q => k it (by simp) o q, hne⟩
  item := by
    intro X hP hw hK hc i pins s σ H E I hf ⟨⟨old, he⟩, hit, hne⟩ ⟨xs, x, hq, hx⟩
    subst hP hw hK
    obtain ⟨its, rv, p, _⟩ := I.tuple hq
    (obtain ⟨u, hu, ru⟩ := rv.get hx)
    refine enT_item he hit p (x := u) (by simpa using hu) hne fun h' o => ⟨_, rfl, wpAny_letOwnedTupleGo_enum (s := { s with heap := h', toks := s.toks + 1 }) o.out fun h2 he2 sb => ?_⟩
    (have hel : e < s.heap.objs.size := Heap.lt_size he)
    have hil : it < s.heap.objs.size := let ⟨_, q, _⟩ := hit; Heap.lt_size q
    have kp : ∀ b ob, b ∉ [e, it] → s.heap.get? b = some ob → h2.get? b = some ob := fun b ob nb q => (sb.2 b fun z => nb (by simp [z])).trans (o.old b ob (fun z => nb (by simp [z])) (fun z => nb (by simp [z])) q)
    have new : ObjOk X.prog X.w (upd H s.heap.objs.size (.tup [.int (i : Nat), x])) h2 s.heap.objs.size (.tup [.int (i : Nat), x]) :=
      ⟨(by show 2 ≤ sizeLine; decide), [.int i s.toks, u], .cons ⟨_, rfl⟩ (.cons ru .nil), ⟨_, (sb.2 _ (Nat.ne_of_gt hel)).trans o.tup, rfl, _, rfl⟩⟩
    refine ⟨.ref s.heap.objs.size, _, I.turnedNew (t' := s.toks + 1) kp hf (Nat.le_refl _) new, rfl, ⟨_, x, rfl, I.hok.fresh (Nat.le_refl _), rfl, fun ys hy => by rw [I.tuple_inj hy hq]; exact hx⟩, ⟨⟨u, by rw [show ((i + 1 : Nat) : Int) = (i : Int) + 1 by omega]; exact he2⟩, iter_keeps o.tIt hne sb, hne⟩, fun b hb => ?_⟩
    have lt : b < s.heap.objs.size := by
      obtain z | z := List.mem_cons.mp hb
      · rw [z]; exact hel
      · rw [List.mem_singleton] at z; rw [z]; exact hil
    rw [upd_ne (Nat.ne_of_lt lt)]
    exact (hf b hb).1
  done := by
    intro X hP hw hK hc i pins s σ H E I hf ⟨⟨old, he⟩, hit, hne⟩ ⟨xs, hq, hx⟩
    subst hP hw hK
    obtain ⟨its, rv, p, _⟩ := I.tuple hq
    obtain ⟨f0, f1, _, f3, f4, f5⟩ := hf it (by simp)
    have hl := rv.length
    exact enT_end (I.ok.hd hc) he hit p (by simp; omega) fun h' eb => ⟨rfl, I.turned (t' := s.toks) eb f0 f1 f3 f4 f5⟩
  self := fun A i
      s Q E st h => by
    obtain ⟨⟨_, he⟩, _⟩ := st
    exact wpAny_pyIter_enum he h
def iEnumT (K : PySem.W.Frag) (ta : TA) : TI := fun σ H R => ta σ H fun vs H1 => ∃ a xs, vs = [.ref a] ∧ SqT K H1 a xs ∧ R (IteT K a) H1
theorem pi_enumT {X : Cx} {e : Expr} {ta : TA} {p pos tpos : Pos} {elts : List Expr} {kk : Nat} (hg : Gl X "enumerate") (hm : X.mg "enumerate" = none) (ha : PA X [e] ta) (hs : starEach [e] X.env = [(false, eval e X.env)] := by rfl) :
    PI X (.Tuple elts kk tpos) (.Call (.Name "enumerate" p) [e] [] pos) (iEnumT X.K ta) := by
  refine ⟨fun pins s σ H R I h => PyProof.Rows.Call_ (ld_blt I hg hm PyProof.Rows.boot_enumerate (PyProof.Rows.callWith_type1 (thn (ha.run pos pins s σ H _ I h) fun us s1 ⟨vs, H1, I1, r1, a, xs, ex, hq, q⟩ => ?_) hs rfl))⟩
  subst ex
  cases r1 with
  | cons r rr =>
    cases rr
    cases r
    obtain ⟨its, rv, p', _⟩ := I1.tuple hq
    refine enT_call p' fun h' he hit hk => wpAny_pyIter_enum he ⟨s1.heap.objs.size + 1, [s1.heap.objs.size + 1, s1.heap.objs.size], _, _, H1, rfl, I1.kept (t' := s1.toks) hk, turn_enumT a _ _, ⟨⟨.none, he⟩, hit, Nat.succ_ne_self _⟩, fun b hb => ?_, q⟩
    have le : s1.heap.objs.size ≤ b := by
      obtain z | z := List.mem_cons.mp hb
      · rw [z]; exact Nat.le_succ _
      · rw [List.mem_singleton] at z; rw [z]; exact Nat.le_refl _
    exact I1.fpOk le (I1.hok.fresh le)
/-- as a walk -/
def YEn (xs : List V) : Nat → Hp → V → Hp → Prop := fun i H v H' => ∃ T x, v = .ref T ∧ H T = none ∧ H' = upd H T (.tup [.int (i : Nat), x]) ∧ xs[i]? = some x
theorem walk_enumT {K : PySem.W.Frag} {a : Addr} {xs : List V} : Walk (IteT K a) xs.length (fun H => SqT K H a xs) (YEn xs) where
  goes := fun i H hi h => ⟨xs, _, h, List.getElem?_eq_getElem hi⟩
  stops := fun H h => ⟨xs, h, Nat.le_refl _⟩
  yields := fun i H v H' hi h ⟨T, x, e1, e2, e3, e4⟩ => ⟨T, x, e1, e2, e3, e4 xs h⟩
end LG

set_option Elab.async false
set_option linter.all false
set_option maxRecDepth 100000
set_option maxHeartbeats 4100000
namespace LG
open PySem L2
abbrev sShInit : Stmt := inClass (top 23) 0
abbrev sShOpen : Stmt := inClass (top 23) 1
abbrev sShPlaces : Stmt := inClass (top 23) 2
abbrev sShTakes : Stmt := inClass (top 23) 3
/-- what the written part says of Shape -/
structure ShT (K : PySem.W.Frag) (CS : Addr) : Prop where
  cl : Cls K CS
  nW : NoAttr K CS "words"
  nE : NoAttr K CS "ends"
  nT : NoAttr K CS "takers"
def shF (a e t : Addr) : List (Str × V) := [(("words" : Str), .ref a), (("ends" : Str), .ref e), (("takers" : Str), .ref t)]
theorem shF_put {a e t : Addr} : putF "takers" (.ref t) (putF "ends" (.ref e) (putF "words" (.ref a) [])) = shF a e t := by
  have h1 : ¬ (("words" : Str) = "ends") := by decide +kernel
  have h2 : ¬ (("words" : Str) = "takers") := by decide +kernel
  have h3 : ¬ (("ends" : Str) = "takers") := by decide +kernel
  simp only [putF, shF, if_neg h1, if_neg h2, if_neg h3]
theorem shF_two {a e : Addr} : putF "ends" (.ref e) (putF "words" (.ref a) []) = [(("words" : Str), .ref a), (("ends" : Str), .ref e)] := by
  have h1 : ¬ (("words" : Str) = "ends") := by decide +kernel
  simp only [putF, if_neg h1]
theorem shF_words {a e t : Addr} : (shF a e t).lookup ("words" : Str) = some (.ref a) := rfl
theorem shF_ends {a e t : Addr} : (shF a e t).lookup ("ends" : Str) = some (.ref e) := rfl
theorem shF_takers {a e t : Addr} : (shF a e t).lookup ("takers" : Str) = some (.ref t) := rfl
/-- a Shape that is whole -/
def ShAt (K : PySem.W.Frag) (CS : Addr) (H : Hp) (x : Addr) (ws : List Wd) : Prop := ∃ dx a e t vs, H x = some (.ins CS dx (shF a e t)) ∧ H a = some (.tup vs) ∧ WdsAt K H ws vs ∧ ws.length ≤ 1000000 ∧ H e = some (.lst (enL ws 0)) ∧ H t = some (.lst (tkL ws ws.length))
theorem ShAt.same {K : PySem.W.Frag} {CS : Addr} {H H' : Hp} {x : Addr} {ws : List Wd} (h : ShAt K CS H x ws) (s : Same H H') : ShAt K CS H' x ws := by
  obtain ⟨dx, a, e, t, vs, h1, h2, h3, h4, h5, h6⟩ := h
  exact ⟨dx, a, e, t, vs, s _ _ h1, s _ _ h2, h3.same s, h4, s _ _ h5, s _ _ h6⟩
def spShInit (K : PySem.W.Frag) (CS : Addr) : Sp := fun vs H Q _ => ∃ (x dx : Addr) (v : V) (ws : List Wd), vs = [.ref x, v] ∧ H x = some (.ins CS dx []) ∧ PgAt K (del H x) ws v ∧ Woks ws ∧ Whole ws ∧ ∀ H', Same (del H x) (del H' x) → ShAt K CS H' x ws → Q .non H'
/-- whether a name that is open stands at a place -/
def opn (ws : List Wd) (p : Nat) : Bool := match ws[p]? with
  | some (.st z) => decide (z ≠ "@") && (own ws p).isNone
  | _ => false
def opnW (ws : List Wd) (p : Nat) : Wd → Bool
  | .st z => decide (z ≠ "@") && (own ws p).isNone
  | _ => false
theorem opn_eq {ws : List Wd} {p : Nat} {w : Wd} (h : ws[p]? = some w) : opn ws p = opnW ws p w := by
  unfold opn
  rw [h]
  cases w <;> rfl
def spShOpen (K : PySem.W.Frag) (CS : Addr) : Sp := fun vs H Q _ => ∃ (x : Addr) (ws : List Wd) (p : Nat), vs = [.ref x, .int (p : Int)] ∧ ShAt K CS H x ws ∧ Woks ws ∧ p < ws.length ∧ Q (.bl (opn ws p)) H
def opL (ws : List Wd) (k : Nat) : List Nat := (List.range k).filter fun p => opn ws p
def tkP (ws : List Wd) (k : Nat) : List Nat := (List.range k).filter fun p => isT ws p
def intL (L : List Nat) : List V := L.map fun t : Nat => V.int (t : Int)
def spShPlaces (K : PySem.W.Frag) (CS : Addr) : Sp := fun vs H Q _ => ∃ (x : Addr) (ws : List Wd), vs = [.ref x] ∧ ShAt K CS H x ws ∧ Woks ws ∧ ∀ l H', H l = none → Same H H' → H' l = some (.lst (intL (opL ws ws.length))) → Q (.ref l) H'
def spShTakes (K : PySem.W.Frag) (CS : Addr) : Sp := fun vs H Q _ => ∃ (x : Addr) (ws : List Wd), vs = [.ref x] ∧ ShAt K CS H x ws ∧ Woks ws ∧ ∀ l H', H l = none → Same H H' → H' l = some (.lst (intL (tkP ws ws.length))) → Q (.ref l) H'
theorem upd_del {H G : Hp} {x : Addr} {o : HO} (s : Same G (del H x)) : Same G (del (upd H x o) x) := fun b u e => by
  have := s b u e
  by_cases hb : b = x
  · rw [hb, del_same] at this; cases this
  · rw [del_ne hb] at this ⊢; rw [upd_ne hb]; exact this
section
variable {P : Program} {w : World} {K : PySem.W.Frag} {mg : Str → Option Value} {base : Heap} {CS : Addr}
theorem scShInit : FnScope ["self", "program"] ["self", "program"] (defScope sShInit) := ⟨rfl, rfl, rfl, by decide +kernel, rfl, by decide +kernel, by decide +kernel⟩
theorem ok_shInit {f fE fK fT : Addr} {fd fdE fdK fdT : FuncData} (F : Fun K "__init__" "Shape.__init__" sShInit f fd) (NE : Fn K mg "ends_of_parts" sEnds ["words"] fE fdE) (NK : Fn K mg "_takers" sTakers ["words", "ends"] fK fdK) (NT : Fn K mg "is_take" sIsTake ["word"] fT fdT)
    (hu : ∃ u, mg "USE" = some (.str "@" u)) (T : TxB mg) (T2 : TxK mg) (S : ShT K CS) : FnOk P w K mg base CX0 3 f fd ["self", "program"] (spShInit K CS) := by
  have GE : FnOk P w K mg base CX0 2 fE fdE ["words"] (spEnds K) := ok_ends NE NT hu T T2
  have GK : FnOk P w K mg base CX0 2 fK fdK ["words", "ends"] (spTakers K) := ok_takers NK NT T T2
  refine F.ok scShInit (fun vs H Q E h => ?_) (fun cdv A outer s H vs Q E hr h => ?_)
  · obtain ⟨_, _, _, _, rfl, _⟩ := h
    rfl
  · obtain ⟨x, dx, v, ws, rfl, hx, hv, hk, wh, kq⟩ := h
    refine ⟨_, pss_cons (ps_fld (pv 0) (pv 1) rfl)
      (pss_cons (ps_fld (pv 0) (pe_call GE hr (by rfl) NE.m NE.F.kp NE.b .nil pass0 (pa_cons (pv 1) pa_nil)) rfl)
      (pss_one (ps_fld (pv 0) (pe_call GK hr (by rfl) NK.m NK.F.kp NK.b .nil pass0 (pa_cons (pv 1) (pa_cons (pe_fld (pv 0) rfl) pa_nil))) rfl))), ?_⟩
    obtain ⟨a, vs, rfl, ha, hw, hl⟩ := hv
    have na : a ≠ x := by rintro rfl; rw [del_same] at ha; cases ha
    have s1 : Same (del H x) (del (upd H x (.ins CS dx (putF "words" (.ref a) []))) x) := upd_del (same_refl _)
    refine ⟨_, rfl, _, rfl, x, CS, dx, _, rfl, hx, S.cl, S.nW, (by show 0 < 1000; decide), ?_⟩
    have x1 : upd H x (.ins CS dx (putF "words" (.ref a) [])) x = some (.ins CS dx (putF "words" (.ref a) [])) := upd_same
    generalize upd H x (.ins CS dx (putF "words" (.ref a) [])) = H1 at s1 x1
    have pg1 : PgAt K H1 ws (.ref a) := ⟨a, vs, rfl, (same_trans s1 del_le) _ _ ha, hw.same (same_trans s1 del_le), hl⟩
    refine ⟨_, rfl, _, ws, rfl, pg1, hk.wds, wh, fun e H2 he s12 e2 => ?_⟩
    have x2 := s12 _ _ x1
    have s2 : Same (del H x) (del H2 x) := same_trans s1 (del_same_of s12)
    have nex : e ≠ x := (ne_of_none x1 he).symm
    refine ⟨_, rfl, x, CS, dx, _, rfl, x2, S.cl, S.nE, (by show 1 < 1000; decide), ?_⟩
    rw [shF_two]
    have s3 : Same (del H x) (del (upd H2 x (.ins CS dx [(("words" : Str), .ref a), (("ends" : Str), .ref e)])) x) := upd_del s2
    have x3 : upd H2 x (.ins CS dx [(("words" : Str), .ref a), (("ends" : Str), .ref e)]) x = some (.ins CS dx [(("words" : Str), .ref a), (("ends" : Str), .ref e)]) := upd_same
    have e3 : upd H2 x (.ins CS dx [(("words" : Str), .ref a), (("ends" : Str), .ref e)]) e = some (.lst (enL ws 0)) := by rw [upd_ne nex]; exact e2
    generalize upd H2 x (.ins CS dx [(("words" : Str), .ref a), (("ends" : Str), .ref e)]) = H3 at s3 x3 e3
    have pg3 : PgAt K H3 ws (.ref a) := ⟨a, vs, rfl, (same_trans s3 del_le) _ _ ha, hw.same (same_trans s3 del_le), hl⟩
    refine ⟨_, rfl, _, rfl, x, CS, dx, _, _, rfl, x3, S.cl, S.nE, rfl, _, ws, e, rfl, pg3, hk, wh, e3, fun t H4 ht s34 t4 => ?_⟩
    have x4 := s34 _ _ x3
    have ntx : t ≠ x := (ne_of_none x3 ht).symm
    have s4 : Same (del H x) (del H4 x) := same_trans s3 (del_same_of s34)
    refine ⟨_, rfl, x, CS, dx, _, rfl, x4, S.cl, S.nT, (by show 2 < 1000; decide), ?_⟩
    have s5 := upd_del (o := .ins CS dx (shF a e t)) s4
    have h2 : ¬ (("words" : Str) = "takers") := by decide +kernel
    have h3 : ¬ (("ends" : Str) = "takers") := by decide +kernel
    have ef : putF "takers" (.ref t) [(("words" : Str), V.ref a), (("ends" : Str), .ref e)] = shF a e t := by simp only [putF, shF, if_neg h2, if_neg h3]
    rw [ef]
    refine kq _ s5 ⟨dx, a, e, t, vs, upd_same, (same_trans s5 del_le) _ _ ha, hw.same (same_trans s5 del_le), hl, by rw [upd_ne nex]; exact s34 _ _ e3, by rw [upd_ne ntx]; exact t4⟩
theorem scShOpen : FnScope ["self", "place", "word"] ["self", "place"] (defScope sShOpen) := ⟨rfl, rfl, rfl, by decide +kernel, rfl, by decide +kernel, by decide +kernel⟩
theorem ok_shOpen {f fT : Addr} {fd fdT : FuncData} (F : Fun K "is_open" "Shape.is_open" sShOpen f fd) (NT : Fn K mg "is_take" sIsTake ["word"] fT fdT) (hu : ∃ u, mg "USE" = some (.str "@" u)) (T : TxB mg) (T2 : TxK mg) (S : ShT K CS) : FnOk P w K mg base CX0 2 f fd ["self", "place"] (spShOpen K CS) := by
  have GT : FnOk P w K mg base CX0 1 fT fdT ["word"] (spIsTake K) := ok_isTake NT T T2.toTxD
  obtain ⟨uU, hU⟩ := hu
  refine F.ok scShOpen (fun vs H Q E h => ?_) (fun cdv A outer s H vs Q E hr h => ?_)
  · obtain ⟨_, _, _, rfl, _⟩ := h
    rfl
  · obtain ⟨x, ws, p, rfl, hx, hk, hp, kq⟩ := h
    have nd := scShOpen.nd
    refine ⟨_, pss_cons (ps_set (i := 2) nd rfl (Or.inl rfl) (pe_ix ix_tup (pe_fld (pv 0) rfl) (pv 1) (fun _ _ => rfl)))
      (pss_one (ps_ret (pe_and (pe_cmpR op_isN (pe_ix ix_list (pe_fld (pv 0) rfl) (pv 1) (fun _ _ => rfl)) pe_non (nomark _)) (pe_and (pe_cmpR (op_neW (Nat.lt_of_le_of_lt (Nat.le_add_right _ 64) hr.units)) (pv 2) (pe_glob (v := .str "@") (by rfl) hU ⟨_, rfl⟩) (nomark _))
        (pe_one (pe_not (pe_call GT hr (by rfl) NT.m NT.F.kp NT.b .nil pass0 (pa_cons (pv 2) pa_nil)))))))), ?_⟩
    obtain ⟨dx, a, e, t, vs, hx, ha, hw, hl, he, ht⟩ := hx
    have lv := hw.1
    obtain ⟨wp, hwp⟩ : ∃ wp, ws[p]? = some wp := ⟨_, List.getElem?_eq_getElem hp⟩
    obtain ⟨vp, hvp⟩ : ∃ vp, vs[p]? = some vp := ⟨_, List.getElem?_eq_getElem (by omega)⟩
    have wd := hw.2 _ _ _ hwp hvp
    have ok := hk wp (List.mem_of_getElem? hwp)
    refine ⟨_, rfl, x, CS, dx, _, _, rfl, hx, S.cl, S.nW, rfl, _, rfl, a, _, _, _, rfl, rfl, SqT.of ha, atI_nat hvp, ?_⟩
    refine ⟨_, rfl, x, CS, dx, _, _, rfl, hx, S.cl, S.nT, rfl, _, rfl, t, _, _, _, rfl, rfl, SqL.of ht, atI_nat (tkL_get hp hp), rfl, _, rfl, ?_⟩
    have eo : opn ws p = opnW ws p wp := opn_eq hwp
    refine ite2 (fun c => ?_) (fun c => ?_)
    · have on : own ws p = none := by
        cases q : own ws p with
        | none => rfl
        | some t =>
          unfold tkV at c
          rw [q] at c
          exact absurd (of_decide_eq_true c) (by intro z; cases z)
      refine ⟨_, rfl, wp.use, wd.eqUse ok.no, _, rfl, ?_⟩
      refine ite2 (fun d => ?_) (fun d => ?_)
      · refine ⟨_, rfl, vp, wp, rfl, wd, ok.no, _, rfl, ?_⟩
        cases wp with
        | st z =>
          have : opn ws p = true := by
            rw [eo]
            show (decide (z ≠ "@") && (own ws p).isNone) = true
            rw [on]
            have : decide (z = "@") = false := by simpa [Wd.use] using d
            simpa using this
          rw [this] at kq
          exact kq
        | pr o t =>
          rw [show opn ws p = false from eo] at kq
          exact kq
        | no => exact absurd rfl ok.no
      · have : opn ws p = false := by
          rw [eo]
          cases wp with
          | st z =>
            show (decide (z ≠ "@") && _) = false
            have : z = "@" := by simpa [Wd.use] using d
            rw [this]; rfl
          | pr o t => rfl
          | no => rfl
        rw [this] at kq
        exact kq
    · have : opn ws p = false := by
        rw [eo]
        cases wp with
        | st z =>
          show (decide (z ≠ "@") && (own ws p).isNone) = false
          cases q : own ws p with
          | some t => exact Bool.and_false _
          | none =>
            unfold tkV at c
            rw [q] at c
            exact absurd rfl c
        | pr o t => rfl
        | no => rfl
      rw [this] at kq
      exact kq
end
end LG

set_option Elab.async false
set_option linter.all false
set_option maxRecDepth 100000
set_option maxHeartbeats 4100000
namespace LG
open PySem L2
theorem opL_succ {ws : List Wd} {k : Nat} : opL ws (k + 1) = if opn ws k = true then opL ws k ++ [k] else opL ws k := by
  unfold opL
  rw [List.range_succ, List.filter_append]
  by_cases h : opn ws k = true
  · rw [if_pos h]; simp [h]
  · rw [if_neg h]; simp [h]
theorem tkP_succ {ws : List Wd} {k : Nat} : tkP ws (k + 1) = if isT ws k = true then tkP ws k ++ [k] else tkP ws k := by
  unfold tkP
  rw [List.range_succ, List.filter_append]
  by_cases h : isT ws k = true
  · rw [if_pos h]; simp [h]
  · rw [if_neg h]; simp [h]
theorem opL_len {ws : List Wd} {k : Nat} : (opL ws k).length ≤ k := Nat.le_trans (List.length_filter_le _ _) (by rw [List.length_range]; exact Nat.le_refl _)
theorem tkP_len {ws : List Wd} {k : Nat} : (tkP ws k).length ≤ k := Nat.le_trans (List.length_filter_le _ _) (by rw [List.length_range]; exact Nat.le_refl _)
theorem intL_len {L : List Nat} : (intL L).length = L.length := List.length_map _
theorem intL_snoc {L : List Nat} {k : Nat} : intL (L ++ [k]) = intL L ++ [V.int (k : Int)] := by unfold intL; rw [List.map_append]; rfl
theorem shF_open {a e t : Addr} : (shF a e t).lookup ("is_open" : Str) = none := rfl
theorem shF_places {a e t : Addr} : (shF a e t).lookup ("open_places" : Str) = none := rfl
theorem shF_takes {a e t : Addr} : (shF a e t).lookup ("takes" : Str) = none := rfl
theorem shF_counts {a e t : Addr} : (shF a e t).lookup ("counts" : Str) = none := rfl
section
variable {P : Program} {w : World} {K : PySem.W.Frag} {mg : Str → Option Value} {base : Heap} {CS : Addr}
theorem scShPlaces : FnScope ["self", "place"] ["self"] (defScope sShPlaces) := ⟨rfl, rfl, rfl, by decide +kernel, rfl, by decide +kernel, by decide +kernel⟩
theorem ok_shPlaces {f fO fT : Addr} {fd fdO fdT : FuncData} (F : Fun K "open_places" "Shape.open_places" sShPlaces f fd) (FO : Fun K "is_open" "Shape.is_open" sShOpen fO fdO) (bO : Binds K fdO ["self", "place"] []) (mO : Meth K CS "is_open" fO)
    (NT : Fn K mg "is_take" sIsTake ["word"] fT fdT) (hu : ∃ u, mg "USE" = some (.str "@" u)) (T : TxB mg) (T2 : TxK mg) (S : ShT K CS) : FnOk P w K mg base CX0 3 f fd ["self"] (spShPlaces K CS) := by
  have GO : FnOk P w K mg base CX0 2 fO fdO ["self", "place"] (spShOpen K CS) := ok_shOpen FO NT hu T T2 S
  refine F.ok scShPlaces (fun vs H Q E h => ?_) (fun cdv A outer s H vs Q E hr h => ?_)
  · obtain ⟨_, _, rfl, _⟩ := h
    rfl
  · obtain ⟨x, ws, rfl, hx, hk, kq⟩ := h
    have nd := scShPlaces.nd
    refine ⟨_, pss_one (ps_ret (pe_lc (own := [("place", 1)]) (g := gName 1) (tt := _) rfl nd (pi_range1 (by rfl) T.range (pa_cons (pe_callB call_len_seq (by rfl) T.len PySem.boot_len (pa_cons (pe_fld (pv 0) rfl) pa_nil)) pa_nil))
        (blkOk_by (N := ["self", "place"]) (sc := defScope sShPlaces) (by decide +kernel)) (fun _ _ _ _ _ => pg_name (i := 1) nd rfl (Or.inl rfl)) (fun _ _ _ _ _ => pts_one (pt_val (pe_meth (pv 0) S.cl mO GO hr bO .nil pass0 (pa_cons (pv 1) pa_nil))))
        (fun _ _ _ _ _ => pv 1))), ?_⟩
    obtain ⟨dx, a, e, t, vs, ox, ha, hw, hl, he, ht⟩ := id hx
    have lv := hw.1
    refine ⟨_, rfl, x, CS, dx, _, _, rfl, ox, S.cl, S.nW, shF_words, _, _, rfl, .inr (SqT.of ha), _, rfl, by omega, by have := line63; omega, fun D hD => ?_⟩
    rw [show ((vs.length : Int)).toNat = ws.length by omega]
    refine lc_range (lo := 0) (n := ws.length) (fun i H' => Same H H' ∧ H' D = some (.lst (intL (opL ws i)))) ⟨same_new (same_refl H) hD, upd_same⟩ ?_ ?_
    · rintro i H' hi ⟨h1, h2⟩
      refine ⟨rfl, ?_⟩
      rw [Int.zero_add]
      refine ⟨_, rfl, x, dx, _, rfl, h1 _ _ ox, shF_open, _, rfl, x, ws, i, rfl, hx.same h1, hk, hi, _, rfl, ?_⟩
      have ol := opL_len (ws := ws) (k := i)
      refine ite2 (fun c => ?_) (fun c => ?_)
      · refine ⟨_, rfl, _, h2, (by rw [intL_len]; exact room2 (by omega)), fun b u q => by rw [upd_ne (ne_of_none q hD)]; exact h1 b u q, ?_⟩
        rw [upd_same, opL_succ, if_pos c, intL_snoc]
      · exact ⟨h1, by rw [opL_succ, if_neg c]; exact h2⟩
    · rintro H' ⟨h1, h2⟩
      exact kq D H' hD h1 h2
theorem scShTakes : FnScope ["self", "place", "word"] ["self"] (defScope sShTakes) := ⟨rfl, rfl, rfl, by decide +kernel, rfl, by decide +kernel, by decide +kernel⟩
theorem ok_shTakes {f fT : Addr} {fd fdT : FuncData} (F : Fun K "takes" "Shape.takes" sShTakes f fd) (NT : Fn K mg "is_take" sIsTake ["word"] fT fdT) (T : TxB mg) (T2 : TxK mg) (S : ShT K CS) : FnOk P w K mg base CX0 2 f fd ["self"] (spShTakes K CS) := by
  have GT : FnOk P w K mg base CX0 1 fT fdT ["word"] (spIsTake K) := ok_isTake NT T T2.toTxD
  refine F.ok scShTakes (fun vs H Q E h => ?_) (fun cdv A outer s H vs Q E hr h => ?_)
  · obtain ⟨_, _, rfl, _⟩ := h
    rfl
  · obtain ⟨x, ws, rfl, hx, hk, kq⟩ := h
    have nd := scShTakes.nd
    refine ⟨_, pss_one (ps_ret (pe_lc (own := [("place", 1), ("word", 2)]) (g := gTup K 2 (gCons (gName 1) (gCons (gName 2) gNil))) (tt := _) rfl nd (pi_enumT (by rfl) T2.enumerate (pa_cons (pe_fld (pv 0) rfl) pa_nil))
        (blkOk_by (N := ["self", "place", "word"]) (sc := defScope sShTakes) (by decide +kernel)) (fun _ _ _ _ _ => pg_tup rfl (pgs_cons (pg_name (i := 1) nd rfl (Or.inl rfl)) (pgs_cons (pg_name (i := 2) nd rfl (Or.inl rfl)) pgs_nil)))
        (fun _ _ _ _ _ => pts_one (pt_val (pe_call GT hr (by rfl) NT.m NT.F.kp NT.b .nil pass0 (pa_cons (pv 2) pa_nil))))
        (fun _ _ _ _ _ => pv 1))), ?_⟩
    obtain ⟨dx, a, e, t, vs, ox, ha, hw, hl, he, ht⟩ := id hx
    have lv := hw.1
    refine ⟨_, rfl, x, CS, dx, _, _, rfl, ox, S.cl, S.nW, shF_words, a, vs, rfl, SqT.of ha, fun D hD => ?_⟩
    refine lc_it walk_enumT (fun i H' => Same H H' ∧ H' D = some (.lst (intL (tkP ws i)))) ⟨same_new (same_refl H) hD, upd_same⟩ (fun i H' _ p => SqT.of (p.1 _ _ ha)) ?_ ?_
    · rintro i _ H' _ hi ⟨h1, h2⟩ ⟨q, y, rfl, nq, rfl, hy⟩
      have nD : D ≠ q := ne_of_none h2 nq
      have s3 := same_new (o := .tup [.int (i : Nat), y]) h1 nq
      have h3 : upd H' q (.tup [.int (i : Nat), y]) D = some (.lst (intL (tkP ws i))) := by rw [upd_ne nD]; exact h2
      refine ⟨q, _, rfl, SqT.of upd_same, rfl, _, _, rfl, _, _, rfl, rfl, ?_⟩
      generalize upd H' q (.tup [.int (i : Nat), y]) = G at s3 h3
      refine ⟨rfl, ?_⟩
      obtain ⟨wi, hwi⟩ : ∃ wi, ws[i]? = some wi := ⟨_, List.getElem?_eq_getElem (by omega)⟩
      have it : isT ws i = wi.thing := by unfold isT; rw [hwi]
      have ol := tkP_len (ws := ws) (k := i)
      refine ⟨_, rfl, y, wi, rfl, (hw.2 _ _ _ hwi hy).same s3, (hk wi (List.mem_of_getElem? hwi)).no, _, rfl, ?_⟩
      refine ite2 (fun c => ?_) (fun c => ?_)
      · refine ⟨_, rfl, _, h3, (by rw [intL_len]; exact room2 (by omega)), fun b u q => by rw [upd_ne (ne_of_none q hD)]; exact s3 b u q, ?_⟩
        rw [upd_same, tkP_succ, it, if_pos c, intL_snoc]
      · exact ⟨s3, by rw [tkP_succ, it, if_neg c]; exact h3⟩
    · rintro H' ⟨h1, h2⟩
      rw [lv] at h2
      exact kq D H' hD h1 h2
end
end LG

set_option Elab.async false
set_option linter.all false
set_option maxRecDepth 100000
set_option maxHeartbeats 4100000
namespace LG
open PySem PySem.Spec PyProof.Rows L2
section
variable {X : Cx}
/-- name = a dict comprehension, in one row -/
theorem ps_setDc {i : Nat} {y : Str} {py : Pos} {kx vx tg iter : Expr} {ifs : List Expr} {scope : Scope} {own : List (Str × Nat)} {pos spos : Pos} {wi : TI} {g : TG} {tt : TT} {tk tv : TE} (hc : X.calm = true) (hN : X.N.Nodup) (hy : X.N[i]? = some y) (hyl : X.env.scope.names.lookup y = some .local)
    (hw : swapsWith (.DictComp kx vx [⟨tg, iter, ifs, 0⟩] scope pos) (some (.Name y py)) spos.line X.env = pure true) (hi : PI X tg iter wi) (ok : BlkOk X.N X.env.scope scope own)
    (hg : ∀ (s : Shared) (H : Hp) (C : Addr) (cl : List (Str × Addr)) (fp : List Addr), PG (X.blk s H scope (compEnvC scope cl C X.env) fp) tg g)
    (ht : ∀ (s : Shared) (H : Hp) (C : Addr) (cl : List (Str × Addr)) (fp : List Addr), PTs (X.blk s H scope (compEnvC scope cl C X.env) fp) ifs tt)
    (hk : ∀ (s : Shared) (H : Hp) (C : Addr) (cl : List (Str × Addr)) (fp :
        List Addr), PE (X.blk s H scope (compEnvC scope cl C X.env) fp) kx tk)
    (he : ∀ (s : Shared) (H : Hp) (C : Addr) (cl : List (Str × Addr)) (fp : List Addr), PE (X.blk s H scope
        (compEnvC scope cl C X.env) fp) vx tv) (hs : ∀ x, foldedSetIterable iter X.env x = pure x := by intro _; rfl) :
    PS X (.Assign [.Name y py] (.DictComp kx vx [⟨tg, iter, ifs, 0⟩] scope pos) spos) (tAsg (tDc wi g tt tk tv (own.map (·.2))) (gName i)) := by
  refine ⟨fun pins s σ H D I h => ?_⟩
  have h : tDc wi g tt tk tv (own.map (·.2)) σ H (fun x H1 => gName i x σ H1 D.nx) := h
  rw [exec_Assign_Name_used _ _ _ _ hw]
  refine (wpAny_bind (wpAny_standAt (wpAny_bind ?_)))
  show wpAny _ X.A (do let _ ← comprehension (.DictComp kx vx [⟨tg, iter, ifs, 0⟩] scope pos) scope X.env (firstIterPos [⟨tg, iter, ifs, 0⟩] pos) newDict false (eval iter X.env) (some (assign (.Name y py) X.env))) _ _ s
  refine wpAny_bind (thn (dc_core (Qf := fun _ s' => SP X pins D .next s') hc hN I hi ok hg ht hk he hs h fun L C s' m H' I' q hn f => ?_) fun _ s' hq => wpAny_pure (wpAny_pure hq))
  (obtain ⟨f0, f1, f2, f3, f4, f5⟩ := f)
  refine wpAny_assign_Name (A := X.A) (store_ok2 (v := V.ref L) I' hN hy (.inl hyl) rfl (fun s2 I2 ⟨a, sb, ha⟩ => ⟨m, hn.sameBut sb ?_, fun h3 sb3 => ⟨_, H', I2.turned (t' := s2.toks) (fun b o hb e => (sb3.2 b hb).trans e) f0 f1 f3 f4 f5, q⟩⟩) (.inr hyl))
  rcases ha with z | z
  · rw [z]; exact f1
  · exact (fun e => f4 y a z e.symm)
theorem sw_trueD {kx vx : Expr} {gs : List Comprehension} {scope : Scope} {pos py : Pos} {y : Str} {l : Nat} {env : Env} (hk : env.scope.kind = .function) (hy : env.scope.names.lookup y = some .local) (hl : (py.line == pos.line) = true)
    (ha : (scope.names.any fun (n, k) => n == y && (k == .local || k == .cell)) = false) : swapsWith (.DictComp kx vx gs scope pos) (some (.Name y py)) l env = pure true := by
  have h1 : env.kindOf y = some .local := hy
  have h2 : env.blockKind = .function := by unfold Env.blockKind; rw [hk]; rfl
  unfold swapsWith
  simp only [h2, h1, ha, Expr.pos, hl]
  rfl
end
/-- a dict comprehension over a walk -/
theorem dc_it {J : It} {n : Nat} {G : Hp → Prop} {Y : Nat → Hp → V → Hp → Prop} (w : Walk J n G Y) {g : TG} {tt : TT} {tk tv : TE} {vs : List Nat} {σ : L2.St} {H1 : Hp} {D : Addr} {Qd : Hp → Prop} (Pv : Nat → Hp → Prop) (h0 : Pv 0 (upd H1 D (.dK []))) (hG : ∀ i H, i ≤ n → Pv i H → G H)
    (hs : ∀ i x H H', i < n → Pv i H → Y i H x H' → g x (wipe σ
        vs) H' fun σ2 H2 => wipe σ2 vs = wipe σ vs ∧ tt σ2 H2 fun b H3 =>
      if b = true then tk σ2 H3 fun y H4 => tv σ2 H4 fun z H5 => ∃ kvs k, y = kV k ∧ H5 D = some (.dK kvs) ∧ kvs.length < sizeLine ∧ Pv (i + 1) (upd H5 D (.dK (putK kvs k z))) else Pv (i + 1) H3) (hd : ∀ H, Pv n H → Qd H) :
    ∃ W : Nat → Nat → Hp → Prop, (∃ m, W 0 m (upd H1 D (.dK []))) ∧ ∀ i m H, W i m H → (J.stop i H ∧ Qd H) ∨ (J.go i H ∧ ∃ Nx : Hp → Prop, (∀ H', Nx H' → ∃ m', m' < m ∧ W (i + 1) m' H') ∧ ∀ x H', J.yld i H x H' → g x (wipe σ vs) H' fun σ2 H2 => wipe σ2 vs = wipe σ vs ∧ tt σ2 H2 fun b H3 =>
        if b = true then tk σ2 H3 fun y H4 => tv σ2 H4 fun z H5 => ∃ kvs k, y = kV k ∧ H5 D =
            some (.dK kvs) ∧ kvs.length < sizeLine ∧ Nx (upd H5 D (.dK (putK kvs k z))) else Nx H3) := by
  refine ⟨fun i m H => m = n - i ∧ i ≤ n ∧ Pv i H, ⟨n, rfl, Nat.zero_le _, h0⟩, fun i m H ⟨e, hi, p⟩ => ?_⟩
  subst e
  rcases Nat.lt_or_eq_of_le hi with lt | rfl
  · exact .inr ⟨w.goes i H lt (hG i H hi p), Pv (i + 1), fun H' p' => ⟨n - (i + 1), by omega, rfl, lt, p'⟩, fun x H' y => hs i x H H' lt p (w.yields i H x H' lt (hG i H hi p) y)⟩
  · exact .inl ⟨w.stops H (hG _ H hi p), hd H p⟩
/-! ### dicts that tell a function -/
def Cnt (f : Key → Option V) (kvs : List (Key × V)) : Prop := (kvs.map (·.1)).Nodup ∧ ∀ k, valV kvs k = f k
theorem Cnt.nil : Cnt (fun _ => none) [] := ⟨List.nodup_nil, fun k => rfl⟩
theorem Cnt.put {f f' : Key → Option V} {kvs : List (Key × V)} {k : Key} {v : V} (h : Cnt f kvs) (e : ∀ j, f' j = if j = k then some v else f j) : Cnt f' (putK kvs k v) := by
  refine ⟨?_, fun j => by rw [valV_put, e j, h.2 j]⟩
  unfold putK
  by_cases a : (kvs.any fun kv
      => decide (kv.1 = k)) = true
  · rw [if_pos a, List.map_map]
    have : ((fun x : Key × V => x.1) ∘ fun kv : Key × V => if kv.1 = k then (kv.1, v) else kv) = fun x => x.1 := by
      funext x
      show (if x.1 = k then (x.1, v) else x).1 = x.1
      split <;> rfl
    rw [this]
    exact h.1
  · rw [if_neg a, List.map_append, List.nodup_append]
    refine ⟨h.1, by simp, fun x hx y hy => ?_⟩
    (simp only [List.map_cons, List.map_nil, List.mem_singleton] at hy)
    rw [hy]
    rintro rfl
    obtain ⟨p, hp, rfl⟩ := List.mem_map.mp hx
    exact a (List.any_eq_true.mpr ⟨p, hp, decide_eq_true rfl⟩)
end LG

set_option Elab.async false
set_option linter.all false
set_option maxRecDepth 100000
set_option maxHeartbeats 4100000
namespace LG
open PySem L2
abbrev sShCounts : Stmt := inClass (top 23) 4
def ownI (ws : List Wd) (p : Nat) : Option Int := (own ws p).map fun t : Nat => (t : Int)
/-- at how many of the first places a name of the take at j stands -/
def nT (ws : List Wd) (m : Nat) (j : Int) : Nat := ((List.range m).filter fun p => decide (ownI ws p = some j)).length
def textAt (ws : List Wd) (p : Nat) : Option Str := ws[p]?.bind Wd.text
def nO (ws : List Wd) (O : List Nat) (z : Str) : Nat := (O.filter fun p => decide (textAt ws p = some z)).length
/-- what is counted so far -/
def cf (ws : List Wd) (T O : List Nat) (m : Nat) : Key → Option V
  | .inl j => if (T.any fun t : Nat => decide ((t : Int) = j)) = true then some (.int (nT ws m j : Int)) else none
  | .inr z => if nO ws O z = 0 then none else some (.int (nO ws O z : Int))
theorem nT_succ {ws : List Wd} {m : Nat} {j : Int} : nT ws (m + 1) j = if ownI ws m = some j then nT ws m j + 1 else nT ws m j := by
  unfold nT
  rw [List.range_succ, List.filter_append]
  by_cases h : ownI ws m = some j
  · rw [if_pos h]; simp [h]
  · rw [if_neg h]; simp [h]
theorem nO_snoc {ws : List Wd} {O : List Nat} {p : Nat} {z : Str} : nO ws (O ++ [p]) z = if textAt ws p = some z then nO ws O z + 1 else nO ws O z := by
  unfold nO
  rw [List.filter_append]
  by_cases h : textAt ws p = some z
  · rw [if_pos h]; simp [h]
  · rw [if_neg h]; simp [h]
theorem cf_zero {ws : List Wd} : cf ws [] [] 0 = fun _ => none := by
  funext k
  cases k <;> rfl
theorem cf_take {ws : List Wd} {T : List Nat} {t : Nat} (j : Key) : cf ws (T ++ [t]) [] 0 j = if j = .inl (t : Int) then some (.int 0) else cf ws T [] 0 j := by
  cases j with
  | inr z => rw [if_neg (fun z => by cases z)]; rfl
  | inl i =>
    unfold cf
    dsimp only
    by_cases e : (t : Int) = i
    · subst e
      rw [if_pos (List.any_eq_true.mpr ⟨t, by simp, decide_eq_true rfl⟩), if_pos rfl]; rfl
    · have e1 : ((T ++ [t]).any fun u : Nat => decide ((u : Int) = i)) = T.any fun u : Nat => decide ((u : Int) = i) := by
        rw [List.any_append]; simp [e]
      rw [if_neg (fun z => e (Sum.inl.inj z).symm), e1]
theorem cf_open {ws : List Wd} {T O : List Nat} {m p : Nat} {z : Str} (h : textAt ws p = some z) (j : Key) : cf ws T (O ++ [p]) m j = if j = .inr z then some (.int ((nO ws O z : Int) + 1)) else cf ws T O m j := by
  cases j with
  | inl i => rw [if_neg (fun z => by cases z)]; rfl
  | inr y =>
    unfold cf
    dsimp only
    rw [nO_snoc, h]
    by_cases e : z = y
    · subst e
      rw [if_pos rfl, if_pos rfl, if_neg (by omega)]; rfl
    · rw [if_neg (fun q => e (Option.some.inj q)), if_neg (fun q => e (Sum.inr.inj q).symm)]
theorem cf_own {ws : List Wd} {T O : List Nat} {m t : Nat} (h : own ws m = some t) (ht : t ∈ T) (j : Key) : cf ws T O (m + 1) j = if j = .inl (t : Int) then some (.int ((nT ws m (t : Int) : Int) + 1)) else cf ws T O m j := by
  have hI : ownI ws m = some (t : Int) := by unfold ownI; rw [h]; rfl
  cases j with
  | inr z => rw [if_neg (fun z => by cases z)]; rfl
  | inl i =>
    unfold cf
    dsimp only
    rw [nT_succ, hI]
    by_cases e : (t : Int) = i
    · subst e
      rw [if_pos rfl, if_pos rfl, if_pos (List.any_eq_true.mpr ⟨t, ht, decide_eq_true rfl⟩)]; rfl
    · rw [if_neg (fun q => e (Option.some.inj q)), if_neg (fun q => e (Sum.inl.inj q).symm)]
theorem cf_skip {ws : List Wd} {T O : List Nat} {m : Nat} (h : own ws m = none) : cf ws T O (m + 1) = cf ws T O m := by
  have hI : ownI ws m = none := by unfold ownI; rw [h]; rfl
  funext j
  cases j with
  | inr z => rfl
  | inl i =>
    have e : nT ws (m + 1) i = nT ws m i := by rw [nT_succ, hI, if_neg (fun z => nomatch z)]
    unfold cf
    dsimp only
    rw [e]
/-- how often names stand: of open names, and of takes -/
def cntF (ws : List Wd) : Key → Option V := cf ws (tkP ws ws.length) (opL ws ws.length) ws.length
theorem opn_text {ws : List Wd} {p : Nat} (h : opn ws p = true) : ∃ z, ws[p]? = some (.st z) ∧ textAt ws p = some z ∧ z ≠ "@" ∧ own ws p = none := by
  unfold opn at h
  unfold textAt
  cases e : ws[p]? with
  | none => (rw [e] at h; cases h)
  | some w =>
    rw [e] at h
    cases w with
    | st z =>
      have h : (decide (z ≠ "@") && (own ws p).isNone) = true := h
      (rw [Bool.and_eq_true, decide_eq_true_eq] at h)
      exact ⟨z, rfl, rfl, h.1, Option.isNone_iff_eq_none.mp h.2⟩
    | pr o t => cases h
    | no => cases h
theorem mem_opL {ws : List Wd} {p k : Nat} : p ∈ opL ws k ↔ p < k ∧ opn ws p = true := by unfold opL; rw [List.mem_filter, List.mem_range]
theorem mem_tkP {ws : List Wd} {p k : Nat} : p ∈ tkP ws k ↔ p < k ∧ isT ws p = true := by unfold tkP; rw [List.mem_filter, List.mem_range]
def spShCounts (K : PySem.W.Frag) (CS : Addr) : Sp := fun vs H Q _ => ∃ (x : Addr) (ws : List Wd), vs = [.ref x] ∧ ShAt K CS H x ws ∧ Woks ws ∧ ∀ d H' kvs, H d = none → Same H H' → H' d = some (.dK kvs) → Cnt (cntF ws) kvs → kvs.length ≤ 3000000 → Q (.ref d) H'
section
variable {P : Program} {w : World} {K : PySem.W.Frag} {mg : Str → Option Value} {base : Heap} {CS : Addr}
theorem scShCounts : FnScope ["self", "place", "found", "taker"] ["self"] (defScope sShCounts) := ⟨rfl, rfl, rfl, by decide +kernel, rfl, by decide +kernel, by decide +kernel⟩
theorem ok_shCounts {f fO fP fK fT : Addr} {fd fdO fdP fdK fdT : FuncData} (F : Fun K "counts" "Shape.counts" sShCounts f fd) (FO : Fun K "is_open" "Shape.is_open" sShOpen fO fdO) (bO : Binds K fdO ["self", "place"] []) (mO : Meth K CS "is_open" fO)
    (FP : Fun K "open_places" "Shape.open_places" sShPlaces fP fdP) (bP : Binds K fdP ["self"] []) (mP : Meth K CS "open_places" fP) (FK : Fun K "takes" "Shape.takes" sShTakes fK fdK) (bK : Binds K fdK ["self"] []) (mK : Meth K CS "takes" fK)
    (NT : Fn K mg "is_take" sIsTake ["word"] fT fdT) (hu : ∃ u, mg "USE" = some (.str "@" u)) (T : TxB mg) (T2 : TxK mg) (S : ShT K CS) : FnOk P w K mg base CX0 4 f fd ["self"] (spShCounts K CS) := by
  have GP : FnOk P w K mg base CX0 3 fP fdP ["self"] (spShPlaces K CS) := ok_shPlaces FP FO bO mO NT hu T T2 S
  have GK : FnOk P w K mg base CX0 2 fK fdK ["self"] (spShTakes K CS) := ok_shTakes FK NT T T2 S
  refine F.ok scShCounts (fun vs H Q E h => ?_) (fun cdv A outer s H vs Q E hr h => ?_)
  · obtain ⟨_, _, rfl, _⟩ := h
    rfl
  · obtain ⟨x, ws, rfl, hx, hk, kq⟩ := h
    have nd := scShCounts.nd
    have hu' := hu_of hr
    have hr2 := hr.mono (show 2 ≤ 3 by decide)
    refine ⟨_, pss_cons (ps_setDc (i := 2) (own := [("place", 1)]) (g := gName 1) (tt := tYes) rfl nd rfl rfl (sw_trueD rfl rfl rfl (by decide +kernel)) (pi_list (pe_meth0 (pv 0) S.cl mK GK hr2 bK .nil pass0))
        (blkOk_by (N := ["self", "place", "found", "taker"]) (sc := defScope sShCounts) (by decide +kernel)) (fun _ _ _ _ _ => pg_name (i := 1) nd rfl (Or.inl rfl)) (fun _ _ _ _ _ => pts_nil) (fun _ _ _ _ _ => pv 1) (fun _ _ _ _ _ => pe_int))
      (pss_cons (ps_for PassesOwn.never rfl (pi_list (pe_meth0 (pv 0) S.cl mP GP hr bP .nil pass0)) (pg_name (i := 1) nd rfl (Or.inl rfl))
        (pss_one (ps_dput hu' (pv 2) (pe_ix ix_tup (pe_fld (pv 0) rfl) (pv 1) (fun _ _ => rfl)) (pe_op op_add (pe_dget2 hu' (pv 2) (pe_ix ix_tup (pe_fld (pv 0) rfl) (pv 1) (fun _ _ => rfl)) pe_int ⟨rfl, rfl, rfl, rfl⟩) pe_int) rfl)))
      (pss_cons (ps_for PassesOwn.never rfl (pi_list (pe_fld (pv 0) rfl)) (pg_name (i := 3) nd rfl (Or.inl rfl))
        (pss_one (ps_if (pt_cmpR op_notN (pv 3) pe_non (nomark _)) (pss_one (ps_daug hu' (pv 2) (pv 3) pe_int in_add (fun _ _ _ => rfl))) pss_nil)))
      (pss_one (ps_ret (pv 2))))), ?_⟩
    obtain ⟨dx, a, e, t, vs, ox, ha, hw, hl, he, ht⟩ := id hx
    have lv := hw.1
    have tl := tkP_len (ws := ws) (k := ws.length)
    have ol := opL_len (ws := ws) (k := ws.length)
    -- the takes
    refine ⟨_, rfl, x, dx, _, rfl, ox, shF_takes, x, ws, rfl, hx, hk, fun tl0 H1 ntl s1 ht1 => ?_⟩
    refine ⟨tl0, rfl, ⟨_, SqL.of ht1⟩, fun D hD => ?_⟩
    have nD : H D = none := same_none s1 hD
    have ntD : tl0 ≠ D := ne_of_none ht1 hD
    have il : (intL (tkP ws ws.length)).length = (tkP ws ws.length).length := intL_len
    refine dc_it walk_list (fun i H' => Same H1 H' ∧ ∃ kvs, H' D = some (.dK kvs) ∧ Cnt (cf ws ((tkP ws ws.length).take i) [] 0) kvs ∧ kvs.length ≤ i) ⟨same_new (same_refl H1) hD, [], upd_same, by rw [List.take_zero, cf_zero]; exact Cnt.nil, Nat.le_refl _⟩ (fun i H' _ p => SqL.of (p.1 _ _ ht1)) ?_ ?_
    · rintro i y H' _ hi ⟨h1, kvs, h2, h3, h4⟩ ⟨rfl, hy⟩
      rw [il] at hi
      have ey : y = V.int ((tkP ws ws.length)[i] : Int) := by
        unfold intL at hy
        rw [List.getElem?_map, List.getElem?_eq_getElem hi] at hy
        exact (Option.some.inj hy).symm
      subst ey
      refine ⟨rfl, ?_⟩
      refine yes_kept ?_
      refine ⟨_, rfl, kvs, .inl ((tkP ws ws.length)[i] : Int), rfl, h2, room2 (by omega), fun b u q => by rw [upd_ne (ne_of_none q hD)]; exact h1 b u q, _, upd_same, ?_, ?_⟩
      · rw [List.take_add_one, List.getElem?_eq_getElem hi]
        exact h3.put fun j => cf_take j
      · have := length_putK kvs (.inl ((tkP ws ws.length)[i] : Int)) (V.int 0); omega
    rintro H2 ⟨s12, kvs2, hd2, c2, l2⟩
    rw [il, List.take_length] at c2
    rw [il] at l2
    have s2 := same_trans s1 s12
    -- the open names
    have ox2 := s2 _ _ ox
    refine ⟨_, rfl, x, dx, _, rfl, ox2, shF_places, x, ws, rfl, hx.same s2, hk, fun ol0 H3 nol s23 ho3 => ?_⟩
    refine ⟨ol0, rfl, ⟨_, SqL.of ho3⟩, ?_⟩
    have s3 := same_trans s2 s23
    have hd3 := s23 _ _ hd2
    have olD : ol0 ≠ D := (ne_of_none hd2 nol).symm
    have io : (intL (opL ws ws.length)).length = (opL ws ws.length).length := intL_len
    refine for_it walk_list (fun i σ H' => ∃ t1, σ = [some (.ref x), t1, some (.ref D), none] ∧ Same H H' ∧ H' ol0 = some (.lst (intL (opL ws ws.length))) ∧ ∃ kvs, H' D = some (.dK kvs) ∧ Cnt (cf ws (tkP ws ws.length) ((opL ws ws.length).take i) 0) kvs ∧ kvs.length ≤ ws.length + i) ⟨none, rfl, s3, ho3, kvs2, hd3, by rw [List.take_zero]; exact c2, by omega⟩ (fun i σ H' _ ⟨_, _, _, h, _⟩ => SqL.of h) ?_ ?_
    · rintro i y σ H' _ hi ⟨t1, rfl, h1, h2, kvs, h3, h4, h5⟩ ⟨rfl, hy⟩
      rw [io] at hi
      obtain ⟨p, hp⟩ : ∃ p, (opL ws ws.length)[i]? = some p := ⟨_, List.getElem?_eq_getElem hi⟩
      have ey : y = V.int (p : Int) := by
        unfold intL at hy
        rw [List.getElem?_map, hp] at hy
        exact (Option.some.inj hy).symm
      subst ey
      obtain ⟨hpl, hpo⟩ := mem_opL.mp (List.mem_of_getElem? hp)
      obtain ⟨z, hz, tz, _, _⟩ := opn_text hpo
      obtain ⟨vp, hvp⟩ : ∃ vp, vs[p]? = some vp := ⟨_, List.getElem?_eq_getElem (by omega)⟩
      obtain ⟨rfl, _⟩ := hw.2 _ _ _ hz hvp
      have ox' := h1 _ _ ox
      have ha' := h1 _ _ ha
      have g : (valV kvs (.inr z)).getD (V.int 0) = V.int (nO ws ((opL ws ws.length).take i) z : Int) := by
        rw [h4.2]
        unfold cf
        dsimp only
        by_cases q : nO ws ((opL ws ws.length).take i) z = 0
        · rw [if_pos q, q]; rfl
        · rw [if_neg q]; rfl
      refine ⟨_, rfl, D, rfl, .inl ⟨_, .inl h3⟩, _, rfl, x, CS, dx, _, _, rfl, ox', S.cl, S.nW, shF_words, _, rfl, a, _, _, _, rfl, rfl, SqT.of ha', atI_nat hvp, _, DGet.k (k := .inr z) h3, _, _, g, rfl, ?_⟩
      refine ⟨_, rfl, _, rfl, x, CS, dx, _, _, rfl, ox', S.cl, S.nW, shF_words, _, rfl, a, _, _, _, rfl, rfl, SqT.of ha', atI_nat hvp, D, _, rfl, DPut.k (k := .inr z) h3 (room2 (by omega)), ?_⟩
      refine ⟨_, rfl, fun b u q => by rw [upd_ne (ne_of_none q nD)]; exact h1 b u q, by rw [upd_ne olD]; exact h2, _, upd_same, ?_, ?_⟩
      · rw [List.take_add_one, hp]
        exact h4.put fun j => cf_open tz j
      · exact Nat.le_trans (length_putK _ _ _) (by omega)
    rintro σ H4 ⟨t1, rfl, s4, _, kvs4, hd4, c4, l4⟩
    rw [io] at l4
    rw [io, List.take_length] at c4
    -- the takers
    have ox4 := s4 _ _ ox
    have ht4 := s4 _ _ ht
    refine ⟨_, rfl, x, CS, dx, _, _, rfl, ox4, S.cl, S.nT, shF_takers, t, rfl, ⟨_, SqL.of ht4⟩, ?_⟩
    have tD : t ≠ D := ne_of_none ht nD
    refine for_it walk_list (fun i σ H' => ∃ t1 t3, σ = [some (.ref x), t1, some (.ref D), t3] ∧ Same H H' ∧ H' t = some (.lst (tkL ws ws.length)) ∧ ∃ kvs, H' D = some (.dK kvs) ∧ Cnt (cf ws (tkP ws ws.length) (opL ws ws.length) i) kvs ∧ kvs.length ≤ ws.length + ws.length + i) ⟨_, none, rfl, s4, ht4, kvs4, hd4, c4, by omega⟩ (fun i σ H' _ ⟨_, _, _, _, h, _⟩ => SqL.of h) ?_ ?_
    · rintro i y σ H' _ hi ⟨t1, t3, rfl, h1, h2, kvs, h3, h4, h5⟩ ⟨rfl, hy⟩
      rw [tkL_len] at hi
      rw [tkL_get hi hi] at hy
      cases hy
      refine ⟨_, rfl, rfl, _, rfl, ?_⟩
      cases q : own ws i with
      | none =>
        have ev : tkV ws i = .non := by unfold tkV; rw [q]
        rw [ev]
        refine ifF (by decide) ?_
        exact ⟨_, _, rfl, h1, h2, kvs, h3, by rw [cf_skip q]; exact h4, by omega⟩
      | some p =>
        have ev : tkV ws i = .int (p : Int) := by unfold tkV; rw [q]
        rw [ev]
        refine ifT (by rfl) ?_
        obtain ⟨_, _, _, pl, pt, _⟩ := own_some q
        have mp : p ∈ tkP ws ws.length := mem_tkP.mpr ⟨by omega, pt⟩
        have gv : valV kvs (.inl (p : Int)) = some (V.int (nT ws i (p : Int) : Int)) := by
          rw [h4.2]
          unfold cf
          dsimp only
          rw [if_pos (List.any_eq_true.mpr ⟨p, mp, decide_eq_true rfl⟩)]
        have g : ∀ G : Hp, G D = some (.dK kvs) → DGet G D (kV (.inl (p : Int))) (some (V.int (nT ws i (p : Int) : Int))) := fun G e => by rw [← gv]; exact DGet.k e
        refine ⟨_, rfl, _, rfl, D, _, rfl, g _ h3, _, _, rfl, rfl, _, DPut.k (k := .inl (p : Int)) h3 (room2 (by omega)), ?_⟩
        refine ⟨_, _, rfl, fun b u q => by rw [upd_ne (ne_of_none q nD)]; exact h1 b u q, by rw [upd_ne tD]; exact h2, _, upd_same, h4.put fun j => cf_own q mp j, ?_⟩
        exact Nat.le_trans (length_putK _ _ _) (by omega)
    · rintro σ H5 ⟨t1, t3, rfl, h1, _, kvs, h3, h4, h5⟩
      rw [tkL_len] at h4 h5
      exact ⟨_, rfl, kq D H5 kvs nD h1 h3 h4 (by omega)⟩
end
end LG

set_option Elab.async false
set_option linter.all false
set_option maxRecDepth 100000
set_option maxHeartbeats 4100000
namespace LG
open PySem L2
abbrev sProgAny : Stmt := top 21
abbrev sNeed : Stmt := top 20
abbrev sCounts : Stmt := top 26
/-- words at a tuple that are a program with kinds of any size -/
structure Prog (ws : List Wd) : Prop where
  ok : progB Th.any ws = true
theorem Prog.whole {ws : List Wd} (h : Prog ws) : Whole ws := whole_of h.ok
theorem Prog.woks {ws : List Wd} (h : Prog ws) : Woks ws := woks_of (of_decide_eq_true h.ok)
def spProgAny (K : PySem.W.Frag) : Sp := fun vs H Q _ => ∃ (v : V) (ws : List Wd), vs = [v] ∧ PgAt K H ws v ∧ ∀ H', Same H H' → Q (.bl (progB Th.any ws)) H'
def spNeed (K : PySem.W.Frag) : Sp := fun vs H Q _ => ∃ (v : V) (ws : List Wd), vs = [v] ∧ PgAt K H ws v ∧ Prog ws ∧ ∀ H', Same H H' → Q .non H'
def spCounts (K : PySem.W.Frag) : Sp := fun vs H Q _ => ∃ (v : V) (ws : List Wd), vs = [v] ∧ PgAt K H ws v ∧ Prog ws ∧ ∀ d H' kvs, H d = none → Same H H' → H' d = some (.dK kvs) → Cnt (cntF ws) kvs → kvs.length ≤ 3000000 → Q (.ref d) H'
/-- what the written part says of words and kinds -/
structure WordsF (K : PySem.W.Frag) (mg : Str → Option Value) (fL f2 f1 fP fN fF fA fM fG : Addr) (fdL fd2 fd1 fdP fdN fdF fdA fdM fdG : FuncData) : Prop where
  L : Fn K mg "is_letter" sLetter ["thing"] fL fdL
  N2 : Fn K mg "is_integer_within" sWithin ["low", "high", "thing"] f2 fd2
  N1 : Fn K mg "is_integer" sInteger ["thing"] f1 fd1
  P : Fn K mg "is_pair" sPair ["thing"] fP fdP
  N : Fn K mg "is_name" sName ["thing"] fN fdN
  F : Fn K mg "_is_fit_take" sFit ["word", "is_fit"] fF fdF
  A : Fn K mg "is_kind_of_any_size" sAny ["thing"] fA fdA
  M : Fn K mg "is_made_of_words" sMade ["thing", "is_fit"] fM fdM
  G : Fn K mg "is_program_of_any_size" sProgAny ["thing"] fG fdG
/-- what the written part says of Shape and its methods -/
structure ShapeF (K : PySem.W.Frag) (mg : Str → Option Value) (CS fI fO fP fK fC fT fE fQ : Addr) (fdI fdO fdP fdK fdC fdT fdE fdQ : FuncData) : Prop where
  S : ShT K CS
  Mm : Mk K CS fI
  m : mg "Shape" = some (.ref CS)
  I : Fun K "__init__" "Shape.__init__" sShInit fI fdI
  bI : Binds K fdI ["self", "program"] []
  O : Fun K "is_open" "Shape.is_open" sShOpen fO fdO
  bO : Binds K fdO ["self", "place"] []
  mO : Meth K CS "is_open" fO
  P : Fun K "open_places" "Shape.open_places" sShPlaces fP fdP
  bP : Binds K fdP ["self"] []
  mP : Meth K CS "open_places" fP
  K_ : Fun K "takes" "Shape.takes" sShTakes fK fdK
  bK : Binds K fdK ["self"] []
  mK : Meth K CS "takes" fK
  C : Fun K "counts" "Shape.counts" sShCounts fC fdC
  bC : Binds K fdC ["self"] []
  mC : Meth K CS "counts" fC
  T : Fn K mg "is_take" sIsTake ["word"] fT fdT
  E : Fn K mg "ends_of_parts" sEnds ["words"] fE fdE
  Q : Fn K mg "_takers" sTakers ["words", "ends"] fQ fdQ
  hu : ∃ u, mg "USE" = some (.str "@" u)
section
variable {P : Program} {w : World} {K : PySem.W.Frag} {mg : Str → Option Value} {base : Heap} {CS : Addr} {fL f2 f1 fP fN fF fA fM fG : Addr} {fdL fd2 fd1 fdP fdN fdF fdA fdM fdG : FuncData} {gI gO gP gK gC gT gE gQ : Addr} {gdI gdO gdP gdK gdC gdT gdE gdQ : FuncData}
theorem scProgAny : FnScope ["thing"] ["thing"] (defScope sProgAny) := ⟨rfl, rfl, rfl, by decide +kernel, rfl, by decide +kernel, by decide +kernel⟩
theorem ok_progAny (W : WordsF K mg fL f2 f1 fP fN fF fA fM fG fdL fd2 fd1 fdP fdN fdF fdA fdM fdG) (hu : ∃ u, mg "USE" = some (.str "@" u)) (T : TxB mg) (T2 : TxK mg) (TN : TxN mg) : FnOk P w K mg base CX0 7 fG fdG ["thing"] (spProgAny K) := by
  have GA : FnOk P w K mg base CX0 4 fA fdA ["thing"] (spFitF K Th.any) := ok_any W.A W.L W.N2 W.N1 W.P T T2
  have GM : FnOk P w K mg base CX0 6 fM fdM ["thing", "is_fit"] (spMade K fA Th.any) := ok_made W.M W.F W.P W.N GA W.A.F.kp W.A.b (by decide) hu T T2 TN
  refine W.G.F.ok scProgAny (fun vs H Q E h => ?_) (fun cdv A outer s H vs Q E hr h => ?_)
  · obtain ⟨_, _, rfl, _⟩ := h
    rfl
  · obtain ⟨v, ws, rfl, hv, kq⟩ := h
    refine ⟨_, pss_one (ps_ret (pe_call GM hr (by rfl) W.M.m W.M.F.kp W.M.b .nil pass0 (pa_cons (pv 0) (pa_cons (pe_glob (v := .ref fA) (by rfl) W.A.m rfl) pa_nil)))), ?_⟩
    exact ⟨_, rfl, _, ws, rfl, hv, kq⟩
theorem scNeed : FnScope ["thing"] ["thing"] (defScope sNeed) := ⟨rfl, rfl, rfl, by decide +kernel, rfl, by decide +kernel, by decide +kernel⟩
theorem ok_need {f : Addr} {fd : FuncData} (F : Fn K mg "need_program" sNeed ["thing"] f fd) (W : WordsF K mg fL f2 f1 fP fN fF fA fM fG fdL fd2 fd1 fdP fdN fdF fdA fdM fdG) (hu : ∃ u, mg "USE" = some (.str "@" u)) (T : TxB mg) (T2 : TxK mg) (TN : TxN mg) : FnOk P w K mg base CX0 8 f fd ["thing"] (spNeed K) := by
  have GG : FnOk P w K mg base CX0 7 fG fdG ["thing"] (spProgAny K) := ok_progAny W hu T T2 TN
  refine F.F.ok scNeed (fun vs H Q E h => ?_) (fun cdv A outer s H vs Q E hr h => ?_)
  · obtain ⟨_, _, rfl, _⟩ := h
    rfl
  · obtain ⟨v, ws, rfl, hv, hp, kq⟩ := h
    refine ⟨_, pss_one (ps_if (pt_not (pt_val (pe_call GG hr (by rfl) W.G.m W.G.F.kp W.G.b .nil pass0 (pa_cons (pv 0) pa_nil)))) pss_never pss_nil), ?_⟩
    refine ⟨_, rfl, _, ws, rfl, hv, fun H' s' => ⟨_, rfl, ?_⟩⟩
    rw [hp.ok]
    exact kq H' s'
theorem scCounts : FnScope ["program"] ["program"] (defScope sCounts) := ⟨rfl, rfl, rfl, by decide +kernel, rfl, by decide +kernel, by decide +kernel⟩
theorem ok_counts {f fD : Addr} {fd fdD : FuncData} (F : Fn K mg "counts" sCounts ["program"] f fd) (D : Fn K mg "need_program" sNeed ["thing"] fD fdD) (W : WordsF K mg fL f2 f1 fP fN fF fA fM fG fdL fd2 fd1 fdP fdN fdF fdA fdM fdG)
    (SF : ShapeF K mg CS gI gO gP gK gC gT gE gQ gdI gdO gdP gdK gdC gdT gdE gdQ) (T : TxB mg) (T2 : TxK mg) (TN : TxN mg) : FnOk P w K mg base CX0 9 f fd ["program"] (spCounts K) := by
  have GD : FnOk P w K mg base CX0 8 fD fdD ["thing"] (spNeed K) := ok_need D W SF.hu T T2 TN
  have GI : FnOk P w K mg base CX0 3 gI gdI ["self", "program"] (spShInit K CS) := ok_shInit SF.I SF.E SF.Q SF.T SF.hu T T2 SF.S
  have GC : FnOk P w K mg base CX0 4 gC gdC ["self"] (spShCounts K CS) := ok_shCounts SF.C SF.O SF.bO SF.mO SF.P SF.bP SF.mP SF.K_ SF.bK SF.mK SF.T SF.hu T T2 SF.S
  refine F.F.ok scCounts (fun vs H Q E h => ?_) (fun cdv A outer s H vs Q E hr h => ?_)
  · obtain ⟨_, _, rfl, _⟩ := h
    rfl
  · obtain ⟨v, ws, rfl, hv, hp, kq⟩ := h
    have hr4 := hr.mono (show 4 ≤ 8 by decide)
    refine ⟨_, pss_cons (ps_expr (pe_call GD hr (by rfl) D.m D.F.kp D.b .nil pass0 (pa_cons (pv 0) pa_nil)))
      (pss_one (ps_ret (pe_meth0 (pe_make SF.Mm GI hr4 (by rfl) SF.m SF.bI .nil pass0 (pa_cons (pv 0) pa_nil)) SF.S.cl SF.mC GC hr4 SF.bC .nil pass0))), ?_⟩
    refine ⟨_, rfl, _, ws, rfl, hv, hp, fun H1 s1 => ?_⟩
    refine ⟨_, rfl, fun x dx hx hdx nd => ?_⟩
    have s2 : Same H1 (del (upd (upd H1 dx (.own x)) x (.ins CS dx [])) x) := upd_del (fun b o e => by rw [del_ne (ne_of_none e hx), upd_ne (ne_of_none e hdx)]; exact e)
    refine ⟨x, dx, v, ws, rfl, upd_same, (hv.same s1).same s2, hp.woks, hp.whole, fun H2 s3 sh => ⟨rfl, ?_⟩⟩
    have s12 : Same H H2 := same_trans s1 (same_trans s2 (same_trans s3 del_le))
    obtain ⟨dx', a, e, t, vs, ox, _⟩ := id sh
    refine ⟨x, dx', _, rfl, ox, shF_counts, x, ws, rfl, sh, hp.woks, fun d H3 kvs hd s23 h3 h4 h5 => ?_⟩
    exact kq d H3 kvs (same_none s12 hd) (same_trans s12 s23) h3 h4 h5
end
end LG

set_option Elab.async false
set_option linter.all false
set_option maxRecDepth 100000
set_option maxHeartbeats 4100000
namespace LG
open PySem L2
namespace Th
def depth : Th → Nat
  | .pr l r => max l.depth r.depth + 1
  | _ => 0
/-- the lefts of a thing, and what ends it -/
def lefts : Th → List Th
  | .pr l r => l :: r.lefts
  | _ => []
def fin : Th → Th
  | .pr _ r => r.fin
  | t => t
theorem fin_letter : ∀ {t : Th}, t.any = true → t.fin.letter = true
  | .pr l r, h => by
    have h : (l.any && r.any) = true := h
    rw [Bool.and_eq_true] at h
    exact fin_letter (t := r) h.2
  | .int i, h => h
  | .bl b, h => by cases h
  | .non, h => by cases h
  | .tup, h => by cases h
theorem lefts_any : ∀ {t : Th}, t.any = true → ∀ x ∈ t.lefts, x.any = true
  | .pr l r, h, x, hx => by
    have h : (l.any && r.any) = true := h
    rw [Bool.and_eq_true] at h
    obtain rfl | hx := List.mem_cons.mp hx
    · exact h.1
    · exact lefts_any (t := r) h.2 x hx
theorem lefts_size : ∀ {t : Th} {x : Th}, x ∈ t.lefts → x.size < t.size
  | .pr l r, x, hx => by
    have e : (Th.pr l r).size = l.size + r.size + 1 := rfl
    obtain rfl | hx := List.mem_cons.mp hx
    · omega
    · have := lefts_size hx; omega
theorem lefts_depth : ∀ {t : Th} {x : Th}, x ∈ t.lefts → x.depth < t.depth
  | .pr l r, x, hx => by
    have e : (Th.pr l r).depth = max l.depth r.depth + 1 := rfl
    obtain rfl | hx := List.mem_cons.mp hx
    · omega
    · have := lefts_depth hx; omega
theorem lefts_len : ∀ {t : Th}, t.lefts.length ≤ t.depth
  | .pr l r => by
    have := lefts_len (t := r)
    show r.lefts.length + 1 ≤ max l.depth r.depth + 1
    omega
  | .int _ => Nat.le_refl _
  | .bl _ => Nat.le_refl _
  | .non => Nat.le_refl _
  | .tup => Nat.le_refl _
end Th
/-- what a def hands back that draws: a thing beside the hand -/
def Back (K : PySem.W.Frag) (H : Hp) (p c : Addr) (cells : List Int) (G : Th → Prop) (Q : VK) : Prop := ∀ (t : Th) (v : V) (H' : Hp), HandAt H' p c cells → Same (del H p) (del H' p) → ThAt K (del H' p) t v → G t → Q v H'
abbrev sKd : Stmt := top 33
def spKd (K : PySem.W.Frag) (d : Nat) : Sp := fun vs H Q _ => ∃ (p c : Addr) (cells : List Int), vs = [.ref p, .int (d : Int)] ∧ HandAt H p c cells ∧ Back K H p c cells (fun t => t.any = true ∧ t.depth ≤ d ∧ t.size < 2 ^ (d + 1)) Q
section
variable {P : Program} {w : World} {K : PySem.W.Frag} {mg : Str → Option Value} {base : Heap}
theorem scKd : FnScope ["_law_hand_here", "_law_deep"] ["_law_hand_here", "_law_deep"] (defScope sKd) := ⟨rfl, rfl, rfl, by decide +kernel, rfl, by decide +kernel, by decide +kernel⟩
theorem letter_small {r : Int} (h0 : 0 ≤ r) (h : r < 3) : (Th.int r).any = true ∧ (Th.int r).depth = 0 ∧ (Th.int r).size = 1 := by
  refine ⟨?_, rfl, rfl⟩
  show (decide (0 ≤ r) && decide (r ≤ 25)) = true
  rw [decide_eq_true h0, decide_eq_true (by omega)]
  rfl
theorem ok_kd {f fD : Addr} {fd fdD : FuncData} (F : Fn K mg "_law_kind" sKd ["_law_hand_here", "_law_deep"] f fd) (ND : Fn K mg "_law_draw" sDraw ["_law_hand_here", "_law_many"] fD fdD) (T : TxB mg) : ∀ d : Nat, FnOk P w K mg base CX0 (d + 2) f fd ["_law_hand_here", "_law_deep"] (spKd K d) := by
  intro d
  induction d with
  | zero =>
    have GD : FnOk P w K mg base CX0 1 fD fdD ["_law_hand_here", "_law_many"] spDraw := ok_draw ND.F T
    refine F.F.ok scKd (fun vs H Q E h => ?_) (fun cdv A outer s H vs Q E hr h => ?_)
    · obtain ⟨p, c, cells, rfl, _⟩ := h
      rfl
    · obtain ⟨p, c, cells, rfl, hA, k⟩ := h
      refine ⟨_, pss_cons (ps_if (PW.pt (pw_or (pt_cmpR op_eq (pv 1) pe_int (nomark _)) (pw_or1 (pt_cmpR op_eq (pe_call GD hr (by rfl) ND.m ND.F.kp ND.b .nil pass0 (pa_cons (pv 0) (pa_cons pe_int pa_nil))) pe_int (nomark _)))))
          (pss_one (ps_ret (pe_call GD hr (by rfl) ND.m ND.F.kp ND.b .nil pass0 (pa_cons (pv 0) (pa_cons (pe_op op_add pe_int (pe_callTy call_int1 (by rfl) T.int (by decide +kernel) (pa_cons (pe_cmpR op_eq (pe_call GD hr (by rfl) ND.m ND.F.kp ND.b .nil pass0 (pa_cons (pv 0) (pa_cons pe_int pa_nil))) pe_int (nomark _)) pa_nil))) pa_nil))))) pss_nil)
        pss_never, ?_⟩
      refine ⟨_, rfl, rfl, _, rfl, ?_⟩
      refine ifT (by decide) ?_
      refine ifT (by decide) ?_
      refine ⟨_, rfl, _, rfl, p, c, cells, 8, rfl, hA, by decide, by decide, fun r1 H1 z0 z8 hA1 o1 => ?_⟩
      refine ⟨rfl, .inr ⟨_, rfl, _, _, rfl, rfl, ?_⟩⟩
      refine ⟨p, c, cells, _, rfl, hA1, by split <;> decide, by split <;> decide, fun r2 H2 z0' z3 hA2 o2 => ?_⟩
      have r3 : r2 < 3 := by split at z3 <;> omega
      obtain ⟨q1, q2, q3⟩ := letter_small z0' r3
      exact k (.int r2) _ H2 hA2 (del_off fun b hb => (o2 b hb).trans (o1 b hb)) rfl ⟨q1, by rw [q2]; exact Nat.zero_le _, by rw [q3]; decide⟩
  | succ d G =>
    have GD : FnOk P w K mg base CX0 1 fD fdD ["_law_hand_here", "_law_many"] spDraw := ok_draw ND.F T
    refine F.F.ok scKd (fun vs H Q E h => ?_) (fun cdv A outer s H vs Q E hr h => ?_)
    · obtain ⟨p, c, cells, rfl, _⟩ := h
      rfl
    · obtain ⟨p, c, cells, rfl, hA, k⟩ := h
      have hr1 := hr.mono (show 1 ≤ d + 1 + 1 by omega)
      refine ⟨_, pss_cons (ps_if (PW.pt (pw_or (pt_cmpR op_eq (pv 1) pe_int (nomark _)) (pw_or1 (pt_cmpR op_eq (pe_call GD hr1 (by rfl) ND.m ND.F.kp ND.b .nil pass0 (pa_cons (pv 0) (pa_cons pe_int pa_nil))) pe_int (nomark _)))))
          (pss_one (ps_ret (pe_call GD hr1 (by rfl) ND.m ND.F.kp ND.b .nil pass0 (pa_cons (pv 0) (pa_cons (pe_op op_add pe_int (pe_callTy call_int1 (by rfl) T.int (by decide +kernel) (pa_cons (pe_cmpR op_eq (pe_call GD hr1 (by rfl) ND.m ND.F.kp ND.b .nil pass0 (pa_cons (pv 0) (pa_cons pe_int pa_nil))) pe_int (nomark _)) pa_nil))) pa_nil))))) pss_nil)
        (pss_one (ps_ret (pe_tup (pa_cons (pe_call G hr (by rfl) F.m F.F.kp F.b .nil pass0 (pa_cons (pv 0) (pa_cons (pe_op op_sub (pv 1) pe_int) pa_nil))) (pa_cons (pe_call G hr (by rfl) F.m F.F.kp F.b .nil pass0 (pa_cons (pv 0) (pa_cons (pe_op op_sub (pv 1) pe_int) pa_nil))) pa_nil))))), ?_⟩
      have e1 : decide (V.int ((d + 1 : Nat) : Int) = V.int 0) = false := decide_eq_false fun z => by have := V.int.inj z; omega
      have ed : ((d + 1 : Nat) : Int) - 1 = (d : Int) := by omega
      refine ⟨_, rfl, rfl, _, rfl, ?_⟩
      refine ifF e1 ?_
      refine ⟨_, rfl, p, c, cells, 3, rfl, hA, by decide, by decide, fun r0 H0 z0 z3 hA0 o0 => ?_⟩
      refine ⟨rfl, _, rfl, ?_⟩
      refine ite2 (fun _ => ?_) (fun _ => ?_)
      · refine ⟨_, rfl, _, rfl, p, c, cells, 8, rfl, hA0, by decide, by decide, fun r1 H1 z0 z8 hA1 o1 => ?_⟩
        refine ⟨rfl, .inr ⟨_, rfl, _, _, rfl, rfl, ?_⟩⟩
        refine ⟨p, c, cells, _, rfl, hA1, by split <;> decide, by split <;> decide, fun r2 H2 z0' z3 hA2 o2 => ?_⟩
        have r3 : r2 < 3 := by split at z3 <;> omega
        obtain ⟨q1, q2, q3⟩ := letter_small z0' r3
        exact k (.int r2) _ H2 hA2 (del_off fun b hb => ((o2 b hb).trans (o1 b hb)).trans (o0 b hb)) rfl ⟨q1, by rw [q2]; exact Nat.zero_le _, by rw [q3]; exact Nat.one_lt_two_pow (by omega)⟩
      · refine ⟨_, rfl, _, rfl, _, _, rfl, rfl, p, c, cells, (by show [V.ref p, V.int (((d + 1 : Nat) : Int) - 1)] = _; rw [ed]), hA0, fun t1 v1 H1 hA1 s1 th1 g1 => ?_⟩
        refine ⟨_, rfl, _, rfl, _, _, rfl, rfl, p, c, cells, (by show [V.ref p, V.int (((d + 1 : Nat) : Int) - 1)] = _; rw [ed]), hA1, fun t2 v2 H2 hA2 s2 th2 g2 => ?_⟩
        refine ⟨(by show 2 ≤ sizeLine; decide), fun q hq => ?_⟩
        have a1 := same_new (o := .tup [v1, v2]) (same_refl H2) hq
        have hqp := hA2.fresh hq
        refine k (.pr t1 t2) _ _ (hA2.same a1) (same_trans (del_off o0) (same_trans s1 (same_trans s2 (del_same_of a1)))) ⟨q, v1, v2, rfl, by rw [del_ne hqp]; exact upd_same, (th1.same s2).same (del_same_of a1), th2.same (del_same_of a1)⟩ ⟨?_, ?_, ?_⟩
        · show (t1.any && t2.any) = true
          rw [g1.1, g2.1]; rfl
        · show max t1.depth t2.depth + 1 ≤ d + 1
          have := g1.2.1
          have := g2.2.1
          omega
        · show t1.size + t2.size + 1 < 2 ^ (d + 1 + 1)
          have h1 := g1.2.2
          have h2 := g2.2.2
          have e : (2 : Nat) ^ (d + 1 + 1) = 2 ^ (d + 1) + 2 ^ (d + 1) := by rw [Nat.pow_succ]; omega
          omega
abbrev sLEnds : Stmt := top 34
def spLEnds (K : PySem.W.Frag) : Sp := fun vs H Q _ => ∃ (v : V) (t : Th) (G : Hp), vs = [v] ∧ ThAt K G t v ∧ Same G H ∧ t.size ≤ 10000 ∧ t.any = true ∧
  ∀ (ps : List (Th × V)) (e : V) (p q : Addr) (H' : Hp), ps.map (·.1) = t.lefts → (∀ s ∈ ps, ThAt K G s.1 s.2) → ThAt K G t.fin e → Same H H' → H p = none → H q = none → H' p = some (.tup [.ref q, e]) → H' q = some (.lst (ps.map (·.2))) → Q (.ref p) H'
theorem scLEnds : FnScope ["_law_kind_here", "_law_found"] ["_law_kind_here"] (defScope sLEnds) := ⟨rfl, rfl, rfl, by decide +kernel, rfl, by decide +kernel, by decide +kernel⟩
theorem ok_lends {f : Addr} {fd : FuncData} (F : Fn K mg "_law_ends" sLEnds ["_law_kind_here"] f fd) (T : TxB mg) (T2 : TxD mg) : FnOk P w K mg base CX0 1 f fd ["_law_kind_here"] (spLEnds K) := by
  refine F.F.ok scLEnds (fun vs H Q E h => ?_) (fun cdv A outer s H vs Q E hr h => ?_)
  · obtain ⟨v, t, G, rfl, _⟩ := h
    rfl
  · obtain ⟨v, t, G, rfl, hv, sG, hz, ha0, kq⟩ := h
    have nd := scLEnds.nd
    refine ⟨_, pss_cons (ps_set (i := 1) nd rfl (Or.inl rfl) (pe_lst pa_nil))
      (pss_cons (ps_while PassesOwn.never (pt_val (pe_callB call_isi (by rfl) T.isinstance (by decide +kernel) (pa_cons (pv 0) (pa_cons (pe_bltn (v := .ty "tuple") (by rfl) T2.tuple (by decide +kernel) rfl) pa_nil))))
        (pss_cons (ps_expr (pe_bm PySem.F.plainAttrs_list PySem.F.slot_list_append PySem.F.type_list_append mt_append (pv 1) (pa_cons (pe_ix ix_tup (pv 0) pe_int (fun _ _ => rfl)) pa_nil)))
        (pss_one (ps_set (i := 0) nd rfl (Or.inl rfl) (pe_ix ix_tup (pv 0) pe_int (fun _ _ => rfl))))))
      (pss_one (ps_ret (pe_tup (pa_cons (pv 1) (pa_cons (pv 0) pa_nil)))))), ?_⟩
    refine ⟨(by show 0 ≤ sizeLine; decide), fun fl hfl => ?_⟩
    have gfl : G fl = none := same_none sG hfl
    refine ⟨fun m σ H' => ∃ (t' : Th) (v' : V) (ps : List (Th × V)), m = t'.size ∧ σ = [some v', some (.ref fl)] ∧ Same H H' ∧ H' fl = some (.lst (ps.map (·.2))) ∧ ThAt K G t' v' ∧ t'.any = true ∧ ps.map (·.1) ++ t'.lefts = t.lefts ∧ t'.fin = t.fin ∧ (∀ s ∈ ps, ThAt K G s.1 s.2) ∧ ps.length + t'.size ≤ t.size,
      ⟨_, t, v, [], rfl, rfl, same_new (same_refl H) hfl, upd_same, hv, ha0, rfl, rfl, (fun s h => by cases h), by simp⟩, ?_⟩
    rintro m σ H' ⟨t', v', ps, rfl, rfl, hs, hl, hv', ha', e1, e2, h3, h4⟩
    obtain ⟨tv, ty, k1, k2, k3⟩ := ((hv'.same sG).same hs).ty
    refine ⟨_, rfl, _, _, _, _, _, rfl, .ty _, ty, k3, _, rfl, ?_⟩
    have np := t'.size_pos
    refine ite2 (fun cP => ?_) (fun cP => ?_)
    · obtain ⟨l, r, rfl⟩ : ∃ l r, t' = .pr l r := by
        cases t' with
        | pr l r => exact ⟨_, _, rfl⟩
        | int i => cases cP
        | bl b => cases cP
        | non => cases cP
        | tup => cases ha'
      have hr2 : r.any = true := (Bool.and_eq_true_iff.mp (show (l.any && r.any) = true from ha')).2
      obtain ⟨a, x, y, rfl, ha, hx, hy⟩ := hv'
      have ha' := hs _ _ (sG _ _ ha)
      have afl : a ≠ fl := ne_of_none ha gfl
      have sz : (Th.pr l r).size = l.size + r.size + 1 := rfl
      refine ⟨fun σ'' H'' => ∃ m', m' < (Th.pr l r).size ∧ ∃ (t' : Th) (v' : V) (ps : List (Th × V)), m' = t'.size ∧ σ'' = [some v', some (.ref fl)] ∧ Same H H'' ∧ H'' fl = some (.lst (ps.map (·.2))) ∧ ThAt K G t' v' ∧ t'.any = true ∧ ps.map (·.1) ++ t'.lefts = t.lefts ∧ t'.fin = t.fin ∧ (∀ s ∈ ps, ThAt K G s.1 s.2) ∧ ps.length + t'.size ≤ t.size, fun σ'' H'' z => z, ?_⟩
      refine ⟨_, rfl, .inl ⟨rfl, _, SqL.of hl⟩, _, rfl, a, _, _, x, rfl, rfl, SqT.of ha', rfl, fl, _, _, rfl, rfl, hl, (by rw [List.length_map]; exact room2 (by omega)), ?_⟩
      refine ⟨_, rfl, a, _, _, y, rfl, rfl, SqT.of (by rw [upd_ne afl]; exact ha'), rfl, r.size, by omega, r, y, ps ++ [(l, x)], rfl, rfl, fun b o e => by rw [upd_ne (ne_of_none e hfl)]; exact hs b o e, by rw [upd_same, List.map_append]; rfl, hy, hr2, ?_, e2, fun s hs' => ?_, ?_⟩
      · rw [← e1, List.map_append, List.append_assoc]; rfl
      · rcases List.mem_append.mp hs' with q | q
        · exact h3 s q
        · rw [List.mem_singleton] at q
          rw [q]; exact hx
      · have := l.size_pos
        (rw [List.length_append, List.length_singleton])
        omega
    · have el : t'.lefts = [] ∧ t'.fin = t' := by cases t' <;> first | exact ⟨rfl, rfl⟩ | exact absurd rfl cP
      rw [el.1, List.append_nil] at e1
      rw [el.2] at e2
      refine ⟨_, rfl, _, rfl, (by show 2 ≤ sizeLine; decide), fun p hp => ?_⟩
      exact kq ps v' p fl _ e1 h3 (e2 ▸ hv') (same_new hs hp) (same_none hs hp) hfl upd_same (by rw [upd_ne (ne_of_none hl hp)]; exact hl)
end
end LG

set_option Elab.async false
set_option linter.all false
set_option maxRecDepth 100000
set_option maxHeartbeats 4100000
namespace LG
open PySem L2
abbrev sShuf : Stmt := top 31
def spShuf (K : PySem.W.Frag) : Sp := fun vs H Q _ => ∃ (p c m : Addr) (cells : List Int) (M : List V), vs = [.ref p, .ref m] ∧ HandAt H p c cells ∧ SqL K H m M ∧ M.length ≤ 100 ∧
  ∀ M' l H', List.Perm M' M → HandAt H' p c cells → Same (del H p) (del H' p) → H' l = some (.lst M') → l ≠ p → H l = none → Q (.ref l) H'
section
variable {P : Program} {w : World} {K : PySem.W.Frag} {mg : Str → Option Value} {base : Heap}
theorem perm_erase {α : Type} : ∀ (l : List α) (k : Nat) (x : α), l[k]? = some x → (x :: l.eraseIdx k).Perm l
  | [], k, x, h => by simp at h
  | a :: l, 0, x, h => by
    have : a = x := Option.some.inj h
    subst this
    exact List.Perm.refl _
  | a :: l, k + 1, x, h => by
    have ih := perm_erase l k x h
    exact (List.Perm.swap a x _).trans (ih.cons a)
theorem perm_pop {α : Type} {found pool M : List α} {k : Nat} {x : α} (h : (found ++ pool).Perm M) (hk : pool[k]? = some x) : ((found ++ [x]) ++ pool.eraseIdx k).Perm M := by
  refine List.Perm.trans ?_ h
  rw [List.append_assoc]
  refine List.Perm.append_left found ?_
  exact perm_erase pool k x hk
theorem scShuf : FnScope ["_law_hand_here", "_law_things", "_law_pool", "_law_found"] ["_law_hand_here", "_law_things"] (defScope sShuf) := ⟨rfl, rfl, rfl, by decide +kernel, rfl, by decide +kernel, by decide +kernel⟩
theorem ok_shuf {f fD : Addr} {fd fdD : FuncData} (F : Fn K mg "_law_shuffled" sShuf ["_law_hand_here", "_law_things"] f fd) (ND : Fn K mg "_law_draw" sDraw ["_law_hand_here", "_law_many"] fD fdD) (T : TxB mg) (T2 : TxD mg) : FnOk P w K mg base CX0 2 f fd ["_law_hand_here", "_law_things"] (spShuf K) := by
  have GD : FnOk P w K mg base CX0 1 fD fdD ["_law_hand_here", "_law_many"] spDraw := ok_draw ND.F T
  refine F.F.ok scShuf (fun vs H Q E h => ?_) (fun cdv A outer s H vs Q E hr h => ?_)
  · obtain ⟨_, _, _, _, _, rfl, _⟩ := h
    rfl
  · obtain ⟨p, c, m, cells, M, rfl, hA, hm, hM, k⟩ := h
    have nd := scShuf.nd
    have hu := hu_of hr
    refine ⟨_, pss_cons (ps_set (i := 2) nd rfl (Or.inl rfl) (pe_callTy call_list_of (by rfl) T2.list (by decide +kernel) (pa_cons (pv 1) pa_nil)))
      (pss_cons (ps_set (i := 3) nd rfl (Or.inl rfl) (pe_lst pa_nil))
      (pss_cons (ps_while PassesOwn.never (pt_cmpR op_gt (pe_callB call_len (by rfl) T.len PySem.boot_len (pa_cons (pv 2) pa_nil)) pe_int (nomark _))
        (pss_one (ps_expr (pe_bm PySem.F.plainAttrs_list PySem.F.slot_list_append PySem.F.type_list_append mt_append (pv 3) (pa_cons (pe_bm PySem.F.plainAttrs_list PySem.F.slot_list_pop PySem.F.type_list_pop mt_popAt (pv 2)
          (pa_cons (pe_call GD hr (by rfl) ND.m ND.F.kp ND.b .nil pass0 (pa_cons (pv 0) (pa_cons (pe_callB call_len (by rfl) T.len PySem.boot_len (pa_cons (pv 2) pa_nil)) pa_nil))) pa_nil)) pa_nil)))))
      (pss_one (ps_ret (pv 3))))), ?_⟩
    refine ⟨_, rfl, m, _, rfl, .inl hm, fun pl hpl => ?_⟩
    have s1 := same_new (o := .lst M) (same_refl H) hpl
    have f1 : upd H pl (.lst M) pl = some (.lst M) := upd_same
    generalize upd H pl (.lst M) = G1 at *
    refine ⟨(by show 0 ≤ sizeLine; decide), fun fl hfl => ?_⟩
    have s2 := same_new (o := .lst []) s1 hfl
    have plfl : pl ≠ fl := ne_of_none f1 hfl
    have f2 : upd G1 fl (.lst []) pl = some (.lst M) := by rw [upd_ne plfl]; exact f1
    have g2 : upd G1 fl (.lst []) fl = some (.lst []) := upd_same
    have nfl : H fl = none := same_none s1 hfl
    generalize upd G1 fl (.lst []) = G2 at *
    have plp := hA.fresh hpl
    have flp := hA.fresh nfl
    have plc : pl ≠ c := fun z => by rw [z, hA.cl] at hpl; cases hpl
    have flc : fl ≠ c := fun z => by rw [z, hA.cl] at nfl; cases nfl
    have dpl : del H p pl = none := by rw [del_ne plp]; exact hpl
    have dfl : del H p fl = none := by rw [del_ne flp]; exact nfl
    refine ⟨fun n σ H' => ∃ (pool found : List V), n = pool.length ∧ σ = [some (.ref p), some (.ref m), some (.ref pl), some (.ref fl)] ∧ (found ++ pool).Perm M ∧ HandAt H' p c cells ∧ Same (del H p) (del H' p) ∧ H' pl = some (.lst pool) ∧ H' fl = some (.lst found),
      ⟨_, M, [], rfl, rfl, List.Perm.refl _, hA.same s2, del_same_of s2, f2, g2⟩, ?_⟩
    rintro n σ H' ⟨pool, found, rfl, rfl, pm, hA', sd, hp, hf⟩
    refine ⟨_, rfl, _, _, rfl, .inl ⟨_, SqL.of hp, rfl⟩, _, _, rfl, rfl, _, rfl, ?_⟩
    have hlen : found.length + pool.length = M.length := by rw [← List.length_append]; exact pm.length_eq
    refine ite2 (fun d => ?_) (fun d => ?_)
    · have d2 : 0 < pool.length := by have := of_decide_eq_true d; omega
      refine ⟨fun σ'' H'' => ∃ m', m' < pool.length ∧ ∃ (pool found : List V), m' = pool.length ∧ σ'' = [some (.ref p), some (.ref m), some (.ref pl), some (.ref fl)] ∧ (found ++ pool).Perm M ∧ HandAt H'' p c cells ∧ Same (del H p) (del H'' p) ∧ H'' pl = some (.lst pool) ∧ H'' fl = some (.lst found), fun σ'' H'' z => z, ?_⟩
      refine ⟨_, rfl, .inl ⟨rfl, _, SqL.of hf⟩, _, rfl, .inl ⟨rfl, _, SqL.of hp⟩, _, rfl, _, rfl, _, _, rfl, .inl ⟨_, SqL.of hp, rfl⟩, p, c, cells, _, rfl, hA', by omega, by omega, fun r H2 r0 r1 hA2 o2 => ?_⟩
      have hp2 := (o2 pl plp).trans hp
      have hf2 := (o2 fl flp).trans hf
      have lt : r.toNat < pool.length := by omega
      have ek : pool[r.toNat]? = some pool[r.toNat] := List.getElem?_eq_getElem lt
      refine ⟨pl, _, r, r.toNat, pool[r.toNat], rfl, rfl, hp2, by omega, by omega, seqIx r0 r1, ek, ?_⟩
      refine ⟨fl, _, _, rfl, rfl, (by rw [upd_ne plfl.symm]; exact hf2), (room2 (by omega)), ?_⟩
      have sd2 := same_trans sd (del_off o2)
      refine ⟨(pool.eraseIdx r.toNat).length, by rw [List.length_eraseIdx_of_lt lt]; omega, pool.eraseIdx r.toNat, found ++ [pool[r.toNat]], rfl, rfl, perm_pop pm ek, (hA2.upd plp plc).upd flp flc, same_upd (same_upd sd2 dpl) dfl, ?_, ?_⟩
      · rw [upd_ne plfl, upd_same]
      · rw [upd_same]
    · have d2 : pool = [] := List.eq_nil_of_length_eq_zero (by have : ¬ ((pool.length : Nat) : Int) > 0 := fun z => d (decide_eq_true z); omega)
      subst d2
      rw [List.append_nil] at pm
      exact ⟨_, rfl, k found fl H' pm hA' sd hf flp nfl⟩
end
end LG

set_option Elab.async false
set_option linter.all false
set_option maxRecDepth 100000
set_option maxHeartbeats 4100000
namespace LG
open PySem PySem.Spec PyProof.Rows L2
section
variable {X : Cx}
/-- tuple(a list), and no dict of its own -/
def rTupF (K : PySem.W.Frag) : List V → Hp → VK → Prop := fun vs H Q => ∃ p xs, vs = [V.ref p] ∧ SqL K H p xs ∧ ∀ (l : Addr) (o : Obj), H l = none → o.dict = none → Q (.ref l) (upd H l (.frz o (.tup xs)))
theorem cr_tupF : CallR X (.type "tuple") (rTupF X.K) := by
  (intro pins s σ H vs us Q I r h)
  obtain ⟨p, xs, rfl, hs, q⟩ := h
  obtain ⟨u, eu, rx⟩ := vals1 r
  subst eu
  cases rx
  (obtain ⟨its, rv, pl, hz⟩ := I.list hs)
  refine (call_tuple_list pl.isList (fun h' hk => ?_) (by rw [List.size_toArray, ← rv.length]; exact hz))
  have I1 : L2.Inv X pins σ H { s with heap := h' } := I.kept (t' := s.toks) hk
  have new : ObjOk X.prog X.w (upd H h'.objs.size (.frz { cls := .type "tuple", data := .seq its.toArray } (.tup xs))) (h'.push { cls := .type "tuple", data := .seq its.toArray }) h'.objs.size (.frz { cls := .type "tuple", data := .seq its.toArray } (.tup xs)) :=
    ⟨Heap.get?_push_size _ rfl, hz, its, rv, IsTup.new _ _⟩
  exact ⟨.ref h'.objs.size, _, I1.laid (t' := s.toks) (fun b o e => Heap.get?_push_of_some _ e) (Nat.le_refl _) new, rfl, q _ _ (I1.hok.fresh (Nat.le_refl _)) rfl⟩
/-- pairs by their values -/
theorem pairs_val {pins : List (Addr × Obj)} {σ : L2.St} {H : Hp} {s : Shared} (I : L2.Inv X pins σ H s) : ∀ {ps : List Addr} {kvs : List (L2.Key × V)}, Paired (fun p kv => SqT X.K H p [kV kv.1, kv.2]) ps kvs →
    ∃ (prs : List (L2.Key × Value)) (vps : List (Value × Value)), KV kvs prs ∧ prs.length = ps.length ∧ vps.length = ps.length ∧ ∀ (j : Nat) (k v : Value), vps[j]? = some (k, v) → ∃ (b : Addr) (x : L2.Key), ps[j]? = some b ∧ prs[j]? = some (x, v) ∧ s.heap.IsTuple b #[k, v] ∧ (mixKind X.prog X.w).is x k = true
  | _, _, .nil => ⟨[], [], .nil, rfl, rfl, fun j k v e => by simp at e⟩
  | _, _, .cons (a :=
      p) (b := kv) h t => by
    obtain ⟨prs, vps, r, l1, l2, hp⟩ := pairs_val I t
    (obtain ⟨its, rv, ht, _⟩ := I.tuple h)
    obtain ⟨u, y, rfl, ru, ry⟩ := vals2 rv
    refine ⟨(kv.1, y) :: prs, (u, y) :: vps, .cons ⟨rfl, ry⟩ r, by rw [List.length_cons, List.length_cons, l1], by rw [List.length_cons, List.length_cons, l2], fun j k v e => ?_⟩
    cases j with
    | zero => cases e; exact ⟨p, kv.1, rfl, rfl, ht, kV_is (P := X.prog) (w := X.w) ru⟩
    | succ j =>
      obtain ⟨b, x, e1, e2, e3, e4⟩ := hp j k v (by simpa using e)
      exact ⟨b, x, by simpa using e1, by simpa using e2, e3, e4⟩
/-- dict(a tuple of pairs) -/
def rDictF (K : PySem.W.Frag) : List V → Hp → VK → Prop := fun vs H Q => ∃ (a : Addr) (o : Obj) (ps : List Addr) (kvs : List (L2.Key × V)), vs = [V.ref a] ∧ H a = some (.frz o (.tup (ps.map V.ref))) ∧ o.dict = none ∧ Paired (fun p kv => SqT K H p [kV kv.1, kv.2]) ps kvs ∧
  ∀ p, H p = none → Q (.ref p) (upd H p (.dK (mergeK [] kvs)))
theorem cr_dictF (hc : X.calm = true) : CallR X (.type "dict") (rDictF X.K) := by
  (intro pins s σ H vs us Q I r h)
  obtain ⟨a, o, ps, kvs, rfl, ha, od, hp, q⟩ := h
  obtain ⟨u, eu, rx⟩ := vals1 r
  subst eu
  cases rx
  obtain ⟨ho, hz, its, rv, o', ho', hcl, n, hd⟩ := I.hok a _ ha
  rw [ho] at ho'
  cases ho'
  obtain rfl := refs_at rv
  rw [List.length_map] at hz
  obtain ⟨prs, vps, rel, l1, l2, hv⟩ := pairs_val I hp
  refine call_dict_pairs (knd := mixKind X.prog X.w) (kvs := prs) (PairArg.tuple a (ps.map Value.ref).toArray (fun j => ps.getD j 0) vps) (I.ok.hd hc) ⟨⟨o, n, ho, hcl, od, hd⟩, ?_⟩ ⟨by rw [l1, l2], fun j k v e => ?_⟩ (by rw [l2]; exact hz) fun h' tk hd' k => ?_
  · refine ⟨by simp [l2], fun j k v e => ?_⟩
    obtain ⟨b, x, e1, e2, e3, e4⟩ := hv j k v e
    have eb : ps.getD j 0 = b := by rw [List.getD_eq_getElem?_getD, e1]; rfl
    refine ⟨by simp [e1], ?_⟩
    show PySem.PairAt _ (ps.getD j 0) k v
    rw [eb]
    exact .inl e3
  · obtain ⟨b, x, e1, e2, e3, e4⟩ := hv j k v e
    exact ⟨x, e2, e4⟩
  · (have hm : (s.heap.objs.size == sysModules) = false := beq_eq_false_iff_ne.mpr (Nat.ne_of_gt I.big))
    have hlen : (mergeK []
        kvs).length ≤ sizeLine := by
      refine (Nat.le_trans (length_mergeK kvs []) ?_)
      rw [List.length_nil, Nat.zero_add, rel.length, l1]
      exact hz
    exact ⟨.ref s.heap.objs.size, _, I.laid (t' := tk) (fun b o e => k b o (by simp) e) (Nat.le_refl _) (show ObjOk X.prog X.w _ _ _ (.dK (mergeK [] kvs)) from ⟨hlen, hm, merged [] prs, KV.merge rel .nil, hd'⟩), rfl, q _ (I.hok.fresh (Nat.le_refl _))⟩
end
end LG

set_option Elab.async false
set_option linter.all false
set_option maxRecDepth 100000
set_option maxHeartbeats 4100000
namespace LG
open PySem L2
abbrev sKnown : Stmt := top 35
/-- a name with a kind, at a pair -/
def PairAt (K : PySem.W.Frag) (H : Hp) (k : Str × Th) (v : V) : Prop := ∃ a y, v = .ref a ∧ H a = some (.tup [.str k.1, y]) ∧ ThAt K H k.2 y
theorem PairAt.same {K : PySem.W.Frag} {H H' : Hp} {k : Str × Th} {v : V} (h : PairAt K H k v) (s : Same H H') : PairAt K H' k v := by
  obtain ⟨a, y, e, h1, h2⟩ := h
  exact ⟨a, y, e, s _ _ h1, h2.same s⟩
/-- a list is no part of a kind -/
theorem ThAt.off {K : PySem.W.Frag} {H : Hp} {D : Addr} {l : List V} (hD : H D = some (.lst l)) : ∀ {t : Th} {v : V}, t.any = true → ThAt K H t v → ThAt K (del H D) t v
  | .int i, v, _, h => h
  | .pr x y, v, ha, h => by
    obtain ⟨a, u, u', e, hs, h1, h2⟩ := h
    have ha : (x.any && y.any) = true := ha
    rw [Bool.and_eq_true] at ha
    have n : a ≠ D := by rintro rfl; rw [hs] at hD; cases hD
    exact ⟨a, u, u', e, by rw [del_ne n]; exact hs, ThAt.off hD ha.1 h1, ThAt.off hD ha.2 h2⟩
  | .bl b, v, ha, _ => by cases ha
  | .non, v, ha, _ => by cases ha
  | .tup, v, ha, _ => by cases ha
/-- a kind that is drawn: small -/
def KdOk (t : Th) : Prop := t.any = true ∧ t.depth ≤ 2 ∧ t.size < 8
/-- a tuple of names with kinds -/
def KnAt (K : PySem.W.Frag) (H : Hp) (ks : List ((Str × Th) × V)) (v : V) : Prop := ∃ (a : Addr) (o : Obj), v = .ref a ∧ H a = some (.frz o (.tup (ks.map (·.2)))) ∧ o.dict = none ∧ ∀ s ∈ ks, PairAt K H s.1 s.2 ∧ nameB s.1.1 = true ∧ KdOk s.1.2
theorem KnAt.same {K : PySem.W.Frag} {H H' : Hp} {ks : List ((Str × Th) × V)} {v : V} (h : KnAt K H ks v) (s : Same H H') : KnAt K H' ks v := by
  obtain ⟨a, o, e, h1, od, h2⟩ := h
  exact ⟨a, o, e, s _ _ h1, od, fun x hx => ⟨(h2 x hx).1.same s, (h2 x hx).2⟩⟩
def spKnown (K : PySem.W.Frag) : Sp := fun vs H Q _ => ∃ (p c : Addr) (cells : List Int) (m : Nat), vs = [.ref p, .int (m : Int)] ∧ HandAt H p c cells ∧ m ≤ 9 ∧
  ∀ v H' ks, HandAt H' p c cells → Same (del H p) (del H' p) → KnAt K (del H' p) ks v → ks.length ≤ m → Q v H'
def someNames : List V := [.str "f", .str "g", .str "h", .str "m", .str "n", .str "one", .str "two", .str "three", .str "abcdefgh"]
theorem someNames_ok : ∀ v ∈ someNames, ∃ z : Str, v = .str z ∧ nameB z = true := by
  intro v hv
  simp only [someNames, List.mem_cons, List.not_mem_nil, or_false] at hv
  rcases hv with rfl | rfl | rfl | rfl | rfl | rfl | rfl | rfl | rfl <;> exact ⟨_, rfl, by decide +kernel⟩
theorem cut_take {xs : List V} {m : Nat} : cutV xs none (some (m : Int)) = xs.take m := by
  unfold cutV HT.sIx
  simp only [show ¬ ((m : Int) < 0) by omega, if_false, List.drop_zero, Nat.sub_zero, Int.toNat_natCast]
  rcases Nat.le_total m xs.length with h | h
  · rw [Nat.min_eq_left h]
  · rw [Nat.min_eq_right h, List.take_of_length_le (Nat.le_refl _), List.take_of_length_le h]
section
variable {P : Program} {w : World} {K : PySem.W.Frag} {mg : Str → Option Value} {base : Heap}
theorem scKnown : FnScope ["_law_hand_here", "_law_many", "_law_names", "_law_name"] ["_law_hand_here", "_law_many"] (defScope sKnown) := ⟨rfl, rfl, rfl, by decide +kernel, rfl, by decide +kernel, by decide +kernel⟩
theorem ok_known {f fS fK fD : Addr} {fd fdS fdK fdD : FuncData} (F : Fn K mg "_law_known" sKnown ["_law_hand_here", "_law_many"] f fd) (NS : Fn K mg "_law_shuffled" sShuf ["_law_hand_here", "_law_things"] fS fdS) (NK : Fn K mg "_law_kind" sKd ["_law_hand_here", "_law_deep"] fK fdK)
    (ND : Fn K mg "_law_draw" sDraw ["_law_hand_here", "_law_many"] fD fdD) (T : TxB mg) (T2 : TxD mg) : FnOk P w K mg base CX0 5 f fd ["_law_hand_here", "_law_many"] (spKnown K) := by
  have GS : FnOk P w K mg base CX0 2 fS fdS ["_law_hand_here", "_law_things"] (spShuf K) := ok_shuf NS ND T T2
  have GK : FnOk P w K mg base CX0 4 fK fdK ["_law_hand_here", "_law_deep"] (spKd K 2) := ok_kd NK ND T 2
  refine F.F.ok scKnown (fun vs H Q E h => ?_) (fun cdv A outer s H vs Q E hr h => ?_)
  · obtain ⟨_, _, _, _, rfl, _⟩ := h
    rfl
  · obtain ⟨p, c, cells, m, rfl, hA, hm, kq⟩ := h
    have nd := scKnown.nd
    have hr2 := hr.mono (show 2 ≤ 4 by decide)
    refine ⟨_, pss_cons (ps_set (i := 2) nd rfl (Or.inl rfl) (pe_slice sl_list (pe_call GS hr2 (by rfl) NS.m NS.F.kp NS.b .nil pass0 (pa_cons (pv 0) (pa_cons (pe_lst (pa_cons pe_str (pa_cons pe_str (pa_cons pe_str (pa_cons pe_str (pa_cons pe_str (pa_cons pe_str (pa_cons pe_str (pa_cons pe_str (pa_cons pe_str pa_nil)))))))))) pa_nil))) po_none (po_some (pv 1))))
      (pss_one (ps_ret (pe_callTy cr_tupF (by rfl) T2.tuple (by decide +kernel) (pa_cons (pe_lc (own := [("_law_name", 3)]) (g := gName 3) (tt := tYes) rfl nd (pi_list (pv 2))
        (blkOk_by (N := ["_law_hand_here", "_law_many", "_law_names", "_law_name"]) (sc := defScope sKnown) (by decide +kernel)) (fun _ _ _ _ _ => pg_name (i := 3) nd rfl (Or.inl rfl)) (fun _ _ _ _ _ => pts_nil)
        (fun _ _ _ _ _ => pe_tup (pa_cons (pv 3) (pa_cons (pe_call GK hr (by rfl) NK.m NK.F.kp NK.b .nil pass0 (pa_cons (pv 0) (pa_cons pe_int pa_nil))) pa_nil)))) pa_nil)))), ?_⟩
    refine ⟨_, rfl, (by show 9 ≤ sizeLine; decide), fun l0 hl0 => ?_⟩
    have s1 := same_new (o := .lst someNames) (same_refl H) hl0
    refine ⟨p, c, l0, cells, someNames, rfl, hA.same s1, SqL.of upd_same, by decide, fun M l H1 pm hA1 s2 hl nlp fl => ?_⟩
    refine ⟨_, rfl, m, rfl, l, M, rfl, SqL.of hl, fun q hq => ?_⟩
    rw [cut_take]
    have nq1 : H1 q = none := hq
    have nqp : q ≠ p := hA1.fresh hq
    have nqc : q ≠ c := fun z => by rw [z, hA1.cl] at hq; cases hq
    have xok : ∀ v ∈ M.take m, ∃ z : Str, v = .str z ∧ nameB z = true := fun v hv => someNames_ok v (pm.mem_iff.mp (List.mem_of_mem_take hv))
    have hA2 : HandAt (upd H1 q (.lst (M.take m))) p c cells := hA1.upd nqp nqc
    have q2 : upd H1 q (.lst (M.take m)) q = some (.lst (M.take m)) := upd_same
    have s3 : Same (del H p) (del (upd H1 q (.lst (M.take m))) p) := same_upd (same_trans (del_same_of s1) s2) (by rw [del_ne nqp]; exact same_none (same_trans (same_trans (del_same_of s1) s2) del_le) hq |> fun h => by rw [del_ne nqp] at h; exact h)
    have ml : (M.take m).length ≤ m := by rw [List.length_take]; omega
    generalize upd H1 q (.lst (M.take m)) = H2 at hA2 q2 s3
    generalize M.take m = X at q2 xok ml
    refine ⟨_, rfl, q, rfl, ⟨_, SqL.of q2⟩, fun D hD => ?_⟩
    have nDp : D ≠ p := hA2.fresh hD
    have nDq : q ≠ D := ne_of_none q2 hD
    have nDc : D ≠ c := fun z => by rw [z, hA2.cl] at hD; cases hD
    have dD : del H p D = none := by
      rw [del_ne nDp]
      have := same_none (same_trans s3 del_le) hD
      rwa [del_ne nDp] at this
    refine lc_it walk_list (fun i H' => ∃ ks : List ((Str × Th) × V), ks.length = i ∧ HandAt H' p c cells ∧ Same (del H p) (del H' p) ∧ H' q = some (.lst X) ∧ H' D = some (.lst (ks.map (·.2))) ∧ ∀ s ∈ ks, PairAt K (del (del H' p) D) s.1 s.2 ∧ nameB s.1.1 = true ∧ KdOk s.1.2) ⟨[], rfl, hA2.upd nDp nDc, same_upd s3 dD, by rw [upd_ne nDq]; exact q2, upd_same, fun s h => by cases h⟩ (fun i H' _ ⟨_, _, _, _, h, _⟩ => SqL.of h) ?_ ?_
    · rintro i y _ H' hi ⟨ks, rfl, h1, h2, h3, h4, h5⟩ ⟨rfl, hy⟩
      obtain ⟨z, rfl, nz⟩ := xok y (List.mem_of_getElem? hy)
      refine ⟨rfl, ?_⟩
      refine yes_kept ?_
      refine ⟨_, rfl, _, rfl, p, c, cells, rfl, h1, fun t v H3 hA3 s4 th g => ?_⟩
      have q3 : H3 q = some (.lst X) := by have := s4 q _ (by rw [del_ne nqp]; exact h3); rwa [del_ne nqp] at this
      have d3 : H3 D = some (.lst (ks.map (·.2))) := by have := s4 D _ (by rw [del_ne nDp]; exact h4); rwa [del_ne nDp] at this
      refine ⟨(by show 2 ≤ sizeLine; decide), fun T hT => ?_⟩
      have nTp : T ≠ p := hA3.fresh hT
      have nDT : D ≠ T := ne_of_none d3 hT
      have nqT : q ≠ T := ne_of_none q3 hT
      have s5 := same_new (o := .tup [.str z, v]) (same_refl H3) hT
      have hA4 := hA3.same s5
      have d4 : upd H3 T (.tup [.str z, v]) D = some (.lst (ks.map (·.2))) := s5 _ _ d3
      have q4 : upd H3 T (.tup [.str z, v]) q = some (.lst X) := s5 _ _ q3
      have t4 : upd H3 T (.tup [.str z, v]) T = some (.tup [.str z, v]) := upd_same
      generalize upd H3 T (.tup [.str z, v]) = H4 at s5 hA4 d4 q4 t4
      have sDD : ∀ {G G' : Hp} {o : HO}, Same G G' → Same (del G D) (del (upd G' D o) D) := fun s b o e => by
        by_cases hb : b = D
        · rw [hb, del_same] at e; cases e
        · rw [del_ne hb] at e ⊢; rw [upd_ne hb]; exact s b o e
      have upp : ∀ {G : Hp} {o : HO}, del (upd G D o) p = upd (del G p) D o := fun {G o} => by
        funext b
        by_cases hb : b = p
        · rw [hb, del_same, upd_ne nDp.symm, del_same]
        · rw [del_ne hb]
          by_cases hd : b = D
          · rw [hd, upd_same, upd_same]
          · rw [upd_ne hd, upd_ne hd, del_ne hb]
      refine ⟨_, d4, (by rw [List.length_map]; exact room2 (by omega)), ks ++ [((z, t), .ref T)], by simp, hA4.upd nDp nDc, same_upd (same_trans h2 (same_trans s4 (del_same_of s5))) dD, by rw [upd_ne nDq]; exact q4, by rw [upd_same, List.map_append]; rfl, fun x hx => ?_⟩
      rw [upp]
      obtain hx | hx := List.mem_append.mp hx
      · exact ⟨(h5 x hx).1.same (sDD (same_trans s4 (del_same_of s5))), (h5 x hx).2⟩
      · rw [List.mem_singleton] at hx
        subst hx
        refine ⟨⟨T, v, rfl, by rw [del_ne nDT.symm, upd_ne nDT.symm, del_ne nTp]; exact t4, ?_⟩, nz, g⟩
        have d3' : del H3 p D = some (.lst (ks.map (·.2))) := by rw [del_ne nDp]; exact d3
        exact (ThAt.off d3' g.1 th).same (sDD (del_same_of s5))
    · rintro H' ⟨ks, hk, h1, h2, h3, h4, h5⟩
      refine ⟨D, _, rfl, SqL.of h4, fun R o hR od => ?_⟩
      have nRp : R ≠ p := h1.fresh hR
      have nRD : D ≠ R := ne_of_none h4 hR
      have s6 := same_new (o := .frz o (.tup (ks.map (·.2)))) (same_refl H') hR
      refine kq _ _ ks (h1.same s6) (same_trans h2 (del_same_of s6)) ⟨R, o, rfl, by rw [del_ne nRp]; exact upd_same, od, fun x hx => ⟨(h5 x hx).1.same (same_trans del_le (del_same_of s6)), (h5 x hx).2⟩⟩ (by omega)
end
end LG

set_option Elab.async false
set_option linter.all false
set_option maxRecDepth 100000
set_option maxHeartbeats 4100000
namespace LG
open PySem L2
abbrev sLoose : Stmt := top 44
/-! ### programs put together -/
theorem step_add {fit : Th → Bool} {w : Wd} {k j m : Nat} (h : stepC fit w k = some j) : stepC fit w (k + m) = some (j + m) := by
  unfold stepC at h ⊢
  by_cases u : w.use = true
  · rw [if_pos u] at h ⊢
    by_cases k2 : k < 2
    · rw [if_pos k2] at h; cases h
    · rw [if_neg k2] at h
      cases h
      rw [if_neg (by omega)]
      congr 1
      omega
  · rw [if_neg u] at h ⊢
    by_cases n : w.name = true
    · rw [if_pos n] at h ⊢
      cases h
      congr 1
      omega
    · rw [if_neg n] at h ⊢
      by_cases b : (decide (k < 1) || !w.take fit) = true
      · rw [if_pos b] at h; cases h
      · rw [if_neg b] at h
        cases h
        have b' : (decide (k < 1) || !w.take fit) = false := Bool.eq_false_iff.mpr b
        rw [Bool.or_eq_false_iff] at b'
        have k1 : ¬ k < 1 := of_decide_eq_false b'.1
        rw [if_neg]
        rw [b'.2, Bool.or_false, decide_eq_true_eq]
        omega
theorem cnt_app {fit : Th → Bool} {b : List Wd} {m : Nat} (hb : cntC fit b = some m) : ∀ {a : List Wd} {k : Nat}, cntC fit a = some k → cntC fit (a ++ b) = some (k + m)
  | [], k, h => by cases h; rw [List.nil_append, hb, Nat.zero_add]
  | w :: r, k, h => by
    cases e : cntC fit r with
    | none => rw [cntC, e] at h; cases h
    | some k' =>
      rw [cntC, e] at h
      have h : stepC fit w k' = some k := h
      rw [List.cons_append, cntC, cnt_app hb e]
      exact step_add h
/-- words that make one program -/
def One (ws : List Wd) : Prop := cntC Th.any ws = some 1
theorem One.name {z : Str} (h : nameB z = true) : One [.st z] := by
  have u : (Wd.st z).use = false := decide_eq_false (by rintro rfl; rw [name_at] at h; cases h)
  show stepC Th.any (.st z) 0 = some 1
  unfold stepC
  rw [u, if_neg Bool.false_ne_true, if_pos (show (Wd.st z).name = true from h)]
theorem One.use {f a : List Wd} (hf : One f) (ha : One a) : One (.st "@" :: (f ++ a)) := by
  have := cnt_app ha hf
  unfold One
  rw [cntC, this]; rfl
theorem One.take {b : List Wd} {z : Str} {t : Th} (hz : nameB z = true) (ht : t.any = true) (hb : One b) : One (.pr (some z) t :: b) := by
  unfold One at hb ⊢
  rw [cntC, hb]
  show stepC Th.any (.pr (some z) t) 1 = some 1
  unfold stepC
  have e : (Wd.pr (some z) t).take Th.any = true := by show (nameB z && t.any) = true; rw [hz, ht]; rfl
  rw [if_neg (by intro z; cases z), if_neg (by intro z; cases z), if_neg (by rw [e]; decide)]
theorem One.prog {ws : List Wd} (h : One ws) : Prog ws := ⟨decide_eq_true h⟩
/-! ### where they stand -/
theorem nameB_len {z : Str} (h : nameB z = true) : z.length ≤ 8 := by
  unfold nameB at h
  rw [Bool.and_eq_true, Bool.and_eq_true] at h
  exact of_decide_eq_true h.1.2
theorem WdAt.nm {K : PySem.W.Frag} {H : Hp} {z : Str} (h : nameB z = true) : WdAt K H (.st z) (.str z) := ⟨rfl, by have := nameB_len h; omega⟩
theorem WdAt.us {K : PySem.W.Frag} {H : Hp} : WdAt K H (.st "@") (.str "@") := ⟨rfl, by decide⟩
theorem WdAt.tk {K : PySem.W.Frag} {H : Hp} {z : Str} {t : Th} {a : Addr} {y : V} (h : nameB z = true) (ha : H a = some (.tup [.str z, y])) (ht : ThAt K H t y) (hs : t.size ≤ 10000) : WdAt K H (.pr (some z) t) (.ref a) :=
  ⟨a, .str z, y, rfl, ha, ⟨rfl, by have := nameB_len h; omega⟩, ⟨.non, ⟨_, .base (.str z), kit_ty (r := false) (by decide +kernel), kit_ty (r := false) (by decide +kernel)⟩⟩, ht, hs⟩
theorem WdsAt.nil {K : PySem.W.Frag} {H : Hp} : WdsAt K H [] [] := ⟨rfl, fun i w v h => by simp at h⟩
theorem WdsAt.app {K : PySem.W.Frag} {H : Hp} {ws xs : List Wd} {vs ys : List V} (h : WdsAt K H ws vs) (g : WdsAt K H xs ys) : WdsAt K H (ws ++ xs) (vs ++ ys) := by
  refine ⟨by rw [List.length_append, List.length_append, h.1, g.1], fun i w v hw hv => ?_⟩
  by_cases q : i < ws.length
  · rw [List.getElem?_append_left q] at hw
    rw [List.getElem?_append_left (by rw [h.1]; exact q)] at hv
    exact h.2 i w v hw hv
  · rw [List.getElem?_append_right (by omega)] at hw
    rw [List.getElem?_append_right (by rw [h.1]; omega), h.1] at hv
    exact g.2 _ w v hw hv
theorem WdsAt.one {K : PySem.W.Frag} {H : Hp} {w : Wd} {v : V} (h : WdAt K H w v) : WdsAt K H [w] [v] := by
  refine ⟨rfl, fun i w' v' hw hv => ?_⟩
  cases i with
  | zero => cases hw; cases hv; exact h
  | succ i => simp at hw
/-- what a def hands back that draws: a program beside the hand -/
def BackP (K : PySem.W.Frag) (H : Hp) (p c : Addr) (cells : List Int) (m : Nat) (Q : VK) : Prop := ∀ (ws : List Wd) (a : Addr) (vs : List V) (H' : Hp), HandAt H' p c cells → Same (del H p) (del H' p) → H' a = some (.tup vs) → WdsAt K (del H' p) ws vs → One ws → ws.length ≤ m → Q (.ref a) H'
/-- a list of names -/
def NmL (xs : List V) : Prop := ∀ v ∈ xs, ∃ z : Str, v = .str z ∧ nameB z = true
def szL (d : Nat) : Nat := 2 ^ (d + 1) - 1
def spLoose (K : PySem.W.Frag) (d : Nat) : Sp := fun vs H Q _ => ∃ (p c nm : Addr) (cells : List Int) (xs : List V), vs = [.ref p, .ref nm, .int (d : Int)] ∧ HandAt H p c cells ∧ H nm = some (.lst xs) ∧ nm ≠ p ∧ NmL xs ∧ 0 < xs.length ∧ xs.length < 1000 ∧ BackP K H p c cells (szL d) Q
section
variable {P : Program} {w : World} {K : PySem.W.Frag} {mg : Str → Option Value} {base : Heap}
theorem scLoose : FnScope ["_law_hand_here", "_law_names", "_law_deep", "_law_kind_here"] ["_law_hand_here", "_law_names", "_law_deep"] (defScope sLoose) := ⟨rfl, rfl, rfl, by decide +kernel, rfl, by decide +kernel, by decide +kernel⟩
theorem One.ne {ws : List Wd} (h : One ws) : ws ≠ [] := by rintro rfl; cases h
/-- what stands outside of the hand stays -/
theorem stays {H H' : Hp} {p q : Addr} {o : HO} (s : Same (del H p) (del H' p)) (n : q ≠ p) (h : H q = some o) : H' q = some o := by
  have := s q o (by rw [del_ne n]; exact h)
  rwa [del_ne n] at this
theorem newOff {H H' : Hp} {p q : Addr} {o : HO} (s : Same (del H p) (del H' p)) (hq : H' q = none) : Same (del H p) (del (upd H' q o) p) := same_trans s (del_same_of (same_new (same_refl _) hq))
theorem ok_loose {f fD fS fK : Addr} {fd fdD fdS fdK : FuncData} (F : Fn K mg "_law_loose" sLoose ["_law_hand_here", "_law_names", "_law_deep"] f fd) (ND : Fn K mg "_law_draw" sDraw ["_law_hand_here", "_law_many"] fD fdD) (NS : Fn K mg "_law_some" sSome ["_law_hand_here", "_law_things"] fS fdS)
    (NK : Fn K mg "_law_kind" sKd ["_law_hand_here", "_law_deep"] fK fdK) (T : TxB mg) : ∀ d : Nat, d ≤ 10 → FnOk P w K mg base CX0 (d + 4) f fd ["_law_hand_here", "_law_names", "_law_deep"] (spLoose K d) := by
  have GD : FnOk P w K mg base CX0 1 fD fdD ["_law_hand_here", "_law_many"] spDraw := ok_draw ND.F T
  have GS : FnOk P w K mg base CX0 2 fS fdS ["_law_hand_here", "_law_things"] (spSome K) := ok_some NS.F T ND.F ND.b ND.m
  have GK : FnOk P w K mg base CX0 3 fK fdK ["_law_hand_here", "_law_deep"] (spKd K 1) := ok_kd NK ND T 1
  -- one name
  have alone : ∀ {H H1 : Hp} {p c : Addr} {cells : List Int} {m : Nat} {Q : VK} {z : Str}, 1 ≤ m → nameB z = true → HandAt H1 p c cells → Same (del H p) (del H1 p) → BackP K H p c cells m Q → ∀ q, H1 q = none → Q (.ref q) (upd H1 q (.tup [.str z])) := fun hm hz hA s k q hq =>
    k [.st _] q _ _ (hA.same (same_new (same_refl _) hq)) (newOff s hq) upd_same (WdsAt.one (WdAt.nm hz)) (One.name hz) hm
  intro d
  induction d with
  | zero =>
    intro _
    refine F.F.ok scLoose (fun vs H Q E h => ?_) (fun cdv A outer s H vs Q E hr h => ?_)
    · obtain ⟨_, _, _, _, _, rfl, _⟩ := h
      rfl
    · obtain ⟨p, c, nm, cells, xs, rfl, hA, hn, np, ok, x0, x1, kq⟩ := h
      have nd := scLoose.nd
      have hr1 := hr.mono (show 1 ≤ 3 by decide)
      have hr2 := hr.mono (show 2 ≤ 3 by decide)
      refine ⟨_, pss_cons (ps_set (i := 3) nd rfl (Or.inl rfl) (pe_ifExp (pt_cmpR op_gt (pv 2) pe_int (nomark _)) (pe_call GD hr1 (by rfl) ND.m ND.F.kp ND.b .nil pass0 (pa_cons (pv 0) (pa_cons pe_int pa_nil))) pe_int))
        (pss_cons (ps_if (pt_cmpR op_eq (pv 3) pe_int (nomark _)) (pss_one (ps_ret (pe_tup (pa_cons (pe_call GS hr2 (by rfl) NS.m NS.F.kp NS.b .nil pass0 (pa_cons (pv 0) (pa_cons (pv 1) pa_nil))) pa_nil)))) pss_nil)
        pss_never), ?_⟩
      refine ⟨_, rfl, _, _, rfl, rfl, _, rfl, ?_⟩
      refine ifF (by decide) ?_
      refine ⟨_, rfl, rfl, _, rfl, ?_⟩
      refine ifT (by decide) ?_
      refine ⟨_, rfl, _, rfl, p, c, nm, cells, xs, rfl, hA, SqL.of hn, np, x0, x1, fun k v H1 hk hA1 o1 => ?_⟩
      obtain ⟨z, rfl, hz⟩ := ok v (List.mem_of_getElem? hk)
      exact ⟨(by show 1 ≤ sizeLine; decide), alone (by decide) hz hA1 (del_off o1) kq⟩
  | succ d G =>
    intro hd
    have G := G (by omega)
    refine F.F.ok scLoose (fun vs H Q E h => ?_) (fun cdv A outer s H vs Q E hr h => ?_)
    · obtain ⟨_, _, _, _, _, rfl, _⟩ := h
      rfl
    · obtain ⟨p, c, nm, cells, xs, rfl, hA, hn, np, ok, x0, x1, kq⟩ := h
      have nd := scLoose.nd
      have hr1 := hr.mono (show 1 ≤ d + 4 by omega)
      have hr2 := hr.mono (show 2 ≤ d + 4 by omega)
      have hr3 := hr.mono (show 3 ≤ d + 4 by omega)
      refine ⟨_, Evl.pss_cut (ps_set (i := 3) nd rfl (Or.inl rfl) (pe_ifExp (pt_cmpR op_gt (pv 2) pe_int (nomark _)) (pe_call GD hr1 (by rfl) ND.m ND.F.kp ND.b .nil pass0 (pa_cons (pv 0) (pa_cons pe_int pa_nil))) pe_int))
        (pss_cons (ps_if (pt_cmpR op_eq (pv 3) pe_int (nomark _)) (pss_one (ps_ret (pe_tup (pa_cons (pe_call GS hr2 (by rfl) NS.m NS.F.kp NS.b .nil pass0 (pa_cons (pv 0) (pa_cons (pv 1) pa_nil))) pa_nil)))) pss_nil)
        (pss_cons (ps_if (pt_cmpR op_lt (pv 3) pe_int (nomark _)) (pss_one (ps_ret (pe_op op_catA (pe_op op_catA (pe_tup (pa_cons pe_str pa_nil)) (pe_call G hr (by rfl) F.m F.F.kp F.b .nil pass0 (pa_cons (pv 0) (pa_cons (pv 1) (pa_cons (pe_op op_sub (pv 2) pe_int) pa_nil)))))
            (pe_call G hr (by rfl) F.m F.F.kp F.b .nil pass0 (pa_cons (pv 0) (pa_cons (pv 1) (pa_cons (pe_op op_sub (pv 2) pe_int) pa_nil))))))) pss_nil)
        (pss_one (ps_ret (pe_op op_catA (pe_tup (pa_cons (pe_tup (pa_cons (pe_call GS hr2 (by rfl) NS.m NS.F.kp NS.b .nil pass0 (pa_cons (pv 0) (pa_cons (pv 1) pa_nil))) (pa_cons (pe_call GK hr3 (by rfl) NK.m NK.F.kp NK.b .nil pass0 (pa_cons (pv 0) (pa_cons pe_int pa_nil))) pa_nil))) pa_nil))
            (pe_call G hr (by rfl) F.m F.F.kp F.b .nil pass0 (pa_cons (pv 0) (pa_cons (pv 1) (pa_cons (pe_op op_sub (pv 2) pe_int) pa_nil))))))))), ?_⟩
      have ed : ((d + 1 : Nat) : Int) - 1 = (d : Int) := by omega
      have sz : szL (d + 1) = szL d + szL d + 1 := by unfold szL; rw [Nat.pow_succ 2 (d + 1)]; have := Nat.one_le_two_pow (n := d + 1); omega
      have sz1 : 1 ≤ szL d := by unfold szL; rw [Nat.pow_succ]; have := Nat.one_le_two_pow (n := d); omega
      have sz2 : szL d ≤ 2047 := by unfold szL; have := Nat.pow_le_pow_right (n := 2) (by decide) (show d + 1 ≤ 11 by omega); omega
      refine ⟨fun σ' H' => ∃ r : Int, σ' = [some (.ref p), some (.ref nm), some (.int ((d + 1 : Nat) : Int)), some (.int r)] ∧ HandAt H' p c cells ∧ Same (del H p) (del H' p), ?_, ?_⟩
      · refine ⟨_, rfl, _, _, rfl, rfl, _, rfl, ?_⟩
        refine ifT (decide_eq_true (by omega)) ?_
        refine ⟨_, rfl, p, c, cells, 4, rfl, hA, by decide, by decide, fun r H1 z0 z4 hA1 o1 => ⟨r, rfl, hA1, del_off o1⟩⟩
      · rintro _ H1 ⟨r, rfl, hA1, s1⟩
        have hn1 := stays s1 np hn
        refine ⟨_, rfl, rfl, _, rfl, ?_⟩
        refine ite2 (fun _ => ?_) (fun _ => ?_)
        · refine ⟨_, rfl, _, rfl, p, c, nm, cells, xs, rfl, hA1, SqL.of hn1, np, x0, x1, fun k v H2 hk hA2 o2 => ?_⟩
          obtain ⟨z, rfl, hz⟩ := ok v (List.mem_of_getElem? hk)
          exact ⟨(by show 1 ≤ sizeLine; decide), alone (by omega) hz hA2 (same_trans s1 (del_off o2)) kq⟩
        · refine ⟨_, rfl, _, _, rfl, rfl, _, rfl, ?_⟩
          refine ite2 (fun _ => ?_) (fun _ => ?_)
          · refine ⟨(by show 1 ≤ sizeLine; decide), fun q1 hq1 => ?_⟩
            have n1 := hA1.fresh hq1
            have hA2 := hA1.same (same_new (o := .tup [.str "@"]) (same_refl _) hq1)
            have s2 := newOff (o := .tup [.str "@"]) s1 hq1
            have f1 : upd H1 q1 (.tup [.str "@"]) q1 = some (.tup [.str "@"]) := upd_same
            generalize upd H1 q1 (.tup [.str "@"]) = H2 at hA2 s2 f1
            refine ⟨_, rfl, _, rfl, _, rfl, _, _, rfl, rfl, p, c, nm, cells, xs, (by show [V.ref p, V.ref nm, V.int (((d + 1 : Nat) : Int) - 1)] = _; rw [ed]), hA2, stays s2 np hn, np, ok, x0, x1, fun ws1 a1 vs1 H3 hA3 s23 ha1 w1 o1 l1 => ?_⟩
            have s3 := same_trans s2 s23
            have na1 : a1 ≠ p := by
              obtain ⟨l, e⟩ := hA3.some
              rintro rfl
              rw [ha1] at e; cases e
            have f3 := stays s23 n1 f1
            have v1 : vs1 ≠ [] := fun z => o1.ne (List.eq_nil_of_length_eq_zero (by rw [← w1.1, z]; rfl))
            refine ⟨q1, a1, _, vs1, rfl, rfl, SqT.of f3, SqT.of ha1, (by rw [w1.1]; show 1 + ws1.length ≤ sizeLine; exact big2 (by omega)), (fun h => by cases h), (fun _ h => absurd h v1), fun _ _ q2 hq2 => ?_⟩
            have n2 := hA3.fresh hq2
            have hA4 := hA3.same (same_new (o := .tup ([.str "@"] ++ vs1)) (same_refl _) hq2)
            have s34 := newOff (o := .tup ([.str "@"] ++ vs1)) (same_refl (del H3 p)) hq2
            have f4 : upd H3 q2 (.tup ([.str "@"] ++ vs1)) q2 = some (.tup ([.str "@"] ++ vs1)) := upd_same
            generalize upd H3 q2 (.tup ([.str "@"] ++ vs1)) = H4 at hA4 s34 f4
            have s4 := same_trans s3 s34
            refine ⟨_, rfl, _, rfl, _, rfl, _, _, rfl, rfl, p, c, nm, cells, xs, (by show [V.ref p, V.ref nm, V.int (((d + 1 : Nat) : Int) - 1)] = _; rw [ed]), hA4, stays s4 np hn, np, ok, x0, x1, fun ws2 a2 vs2 H5 hA5 s45 ha2 w2 o2 l2 => ?_⟩
            have v2 : vs2 ≠ [] := fun z => o2.ne (List.eq_nil_of_length_eq_zero (by rw [← w2.1, z]; rfl))
            have f5 := stays s45 n2 f4
            have ww := ((WdsAt.one WdAt.us).app ((w1.same s34).same s45)).app w2
            refine ⟨q2, a2, _, vs2, rfl, rfl, SqT.of f5, SqT.of ha2, (by rw [List.length_append, w1.1, w2.1]; show 1 + ws1.length + ws2.length ≤ sizeLine; exact big2 (by omega)), (fun h => by cases h), (fun _ h => absurd h v2), fun _ _ q3 hq3 => ?_⟩
            refine kq ([.st "@"] ++ ws1 ++ ws2) q3 _ _ (hA5.same (same_new (same_refl _) hq3)) (newOff (same_trans s4 s45) hq3) upd_same (ww.same (del_same_of (same_new (same_refl _) hq3))) ?_ ?_
            · have := One.use o1 o2
              rwa [List.append_assoc]
            · rw [List.length_append, List.length_append, List.length_singleton]; omega
          · refine ⟨_, rfl, _, rfl, p, c, nm, cells, xs, rfl, hA1, SqL.of hn1, np, x0, x1, fun k v H2 hk hA2 o2 => ?_⟩
            obtain ⟨z, rfl, hz⟩ := ok v (List.mem_of_getElem? hk)
            have s2 := same_trans s1 (del_off o2)
            refine ⟨_, rfl, p, c, cells, rfl, hA2, fun t y H3 hA3 s23 ht g => ?_⟩
            have s3 := same_trans s2 s23
            refine ⟨(by show 2 ≤ sizeLine; decide), fun q0 hq0 => ?_⟩
            have n0 := hA3.fresh hq0
            have hA4 := hA3.same (same_new (o := .tup [.str z, y]) (same_refl _) hq0)
            have s34 := newOff (o := .tup [.str z, y]) (same_refl (del H3 p)) hq0
            have f0 : upd H3 q0 (.tup [.str z, y]) q0 = some (.tup [.str z, y]) := upd_same
            generalize upd H3 q0 (.tup [.str z, y]) = H4 at hA4 s34 f0
            have s4 := same_trans s3 s34
            have w0 : WdAt K (del H4 p) (.pr (some z) t) (.ref q0) := WdAt.tk hz (by rw [del_ne n0]; exact f0) (ht.same s34) (by have := g.2.2; have : (2 : Nat) ^ (1 + 1) = 4 := rfl; omega)
            refine ⟨(by show 1 ≤ sizeLine; decide), fun q1 hq1 => ?_⟩
            have n1 := hA4.fresh hq1
            have hA5 := hA4.same (same_new (o := .tup [.ref q0]) (same_refl _) hq1)
            have s45 := newOff (o := .tup [.ref q0]) (same_refl (del H4 p)) hq1
            have f1 : upd H4 q1 (.tup [.ref q0]) q1 = some (.tup [.ref q0]) := upd_same
            generalize upd H4 q1 (.tup [.ref q0]) = H5 at hA5 s45 f1
            have s5 := same_trans s4 s45
            refine ⟨_, rfl, _, rfl, _, rfl, _, _, rfl, rfl, p, c, nm, cells, xs, (by show [V.ref p, V.ref nm, V.int (((d + 1 : Nat) : Int) - 1)] = _; rw [ed]), hA5, stays s5 np hn, np, ok, x0, x1, fun ws2 a2 vs2 H6 hA6 s56 ha2 w2 o2 l2 => ?_⟩
            have v2 : vs2 ≠ [] := fun z => o2.ne (List.eq_nil_of_length_eq_zero (by rw [← w2.1, z]; rfl))
            have ww := (WdsAt.one ((w0.same s45).same s56)).app w2
            refine ⟨q1, a2, _, vs2, rfl, rfl, SqT.of (stays s56 n1 f1), SqT.of ha2, (by rw [w2.1]; show 1 + ws2.length ≤ sizeLine; exact big2 (by omega)), (fun h => by cases h), (fun _ h => absurd h v2), fun _ _ q3 hq3 => ?_⟩
            refine kq ([.pr (some z) t] ++ ws2) q3 _ _ (hA6.same (same_new (same_refl _) hq3)) (newOff (same_trans s5 s56) hq3) upd_same (ww.same (del_same_of (same_new (same_refl _) hq3))) (One.take hz g.1 o2) ?_
            (rw [List.length_append, List.length_singleton]; omega)
end
end LG

set_option Elab.async false
set_option linter.all false
set_option maxRecDepth 100000
set_option maxHeartbeats 4100000
namespace LG
open PySem L2
abbrev sSpans : Stmt := top 37
theorem WdAt.tyT {K : PySem.W.Frag} {H : Hp} {w : Wd} {v : V} (hv : WdAt K H w v) (hn : w ≠ .no) : ∃ tv, TyX K H v tv ∧ PySem.W.kitOne K tv (.type "tuple") = some w.thing := by
  cases w with
  | st z =>
    obtain ⟨rfl, _⟩ := hv
    exact ⟨_, .base (.str z), kit_ty (r := false) (by decide +kernel)⟩
  | pr o t =>
    obtain ⟨a, x, y, rfl, ha, _⟩ := hv
    exact ⟨_, .base (.tup ha), kit_ty (r := true) (by decide +kernel)⟩
  | no => exact absurd rfl hn
/-- the ends of the parts that wait behind a place, the next one last -/
def wtL (ws : List Wd) (i : Nat) : List V := ((stk i ((pend (ws.drop i)).getD [])).reverse).map fun t : Nat => V.int (t : Int)
theorem wtL_of {ws : List Wd} {i : Nat} {l : List Nat} (h : pend (ws.drop i) = some l) : wtL ws i = ((stk i l).reverse).map fun t : Nat => V.int (t : Int) := by unfold wtL; rw [h]; rfl
theorem wt_step {ws : List Wd} {i a : Nat} {l : List Nat} (h : pend (ws.drop i) = some (a :: l)) : wtL ws i = ((stk (i + a) l).reverse.map fun t : Nat => V.int (t : Int)) ++ [V.int ((i + a : Nat) : Int)] := by
  rw [wtL_of h]
  show (((i + a) :: stk (i + a) l).reverse.map fun t : Nat => V.int (t : Int)) = _
  rw [List.reverse_cons, List.map_append]; rfl
theorem wt_two {ws : List Wd} {i a b : Nat} {l : List Nat} (h : pend (ws.drop i) = some (a :: b :: l)) : wtL ws i = (((stk (i + a + b) l).reverse.map fun t : Nat => V.int (t : Int)) ++ [V.int ((i + a + b : Nat) : Int)]) ++ [V.int ((i + a : Nat) : Int)] := by
  rw [wt_step h]
  congr 1
  show (((i + a + b) :: stk (i + a + b) l).reverse.map fun t : Nat => V.int (t : Int)) = _
  rw [List.reverse_cons, List.map_append]; rfl
theorem stk_len : ∀ {l : List Nat} {i : Nat}, (stk i l).length = l.length
  | [], _ => rfl
  | a :: l, i => by show (stk (i + a) l).length + 1 = l.length + 1; rw [stk_len]
theorem pend_len : ∀ {ws : List Wd} {l : List Nat}, pend ws = some l → l.length ≤ ws.length
  | [], l, h => by cases h; exact Nat.le_refl _
  | w :: r, l, h => by
    rw [List.length_cons]
    cases u : w.use with
    | true => obtain ⟨a, b, l', e, rfl⟩ := pend_use h u; have := pend_len e; simp only [List.length_cons] at this ⊢; omega
    | false =>
      cases t : w.thing with
      | true => obtain ⟨a, l', e, rfl⟩ := pend_take h u t; have := pend_len e; simp only [List.length_cons] at this ⊢; omega
      | false => obtain ⟨l', e, rfl⟩ := pend_name h u t; have := pend_len e; simp only [List.length_cons] at this ⊢; omega
section
variable {P : Program} {w : World} {K : PySem.W.Frag} {mg : Str → Option Value} {base : Heap}
theorem scSpans : FnScope ["_law_words", "_law_found", "_law_waiting", "_law_place", "_law_last"] ["_law_words"] (defScope sSpans) := ⟨rfl, rfl, rfl, by decide +kernel, rfl, by decide +kernel, by decide +kernel⟩
theorem ok_spans {f : Addr} {fd : FuncData} (F : Fn K mg "_law_spans" sSpans ["_law_words"] f fd) (T : TxB mg) (T2 : TxD mg) : FnOk P w K mg base CX0 1 f fd ["_law_words"] (spEnds K) := by
  refine F.F.ok scSpans (fun vs H Q E h => ?_) (fun cdv A outer s H vs Q E hr h => ?_)
  · obtain ⟨_, _, rfl, _⟩ := h
    rfl
  · obtain ⟨v, ws, rfl, hv, hn, wh, kq⟩ := h
    have nd := scSpans.nd
    refine ⟨_, pss_cons (ps_set (i := 1) nd rfl (Or.inl rfl) (pe_op op_rep (pe_lst (pa_cons pe_int pa_nil)) (pe_callB call_len_seq (by rfl) T.len PySem.boot_len (pa_cons (pv 0) pa_nil))))
      (pss_cons (ps_set (i := 2) nd rfl (Or.inl rfl) (pe_lst pa_nil))
      (pss_cons (ps_for PassesOwn.never rfl (pi_range3 (by rfl) T.range (pa_cons (pe_op op_sub (pe_callB call_len_seq (by rfl) T.len PySem.boot_len (pa_cons (pv 0) pa_nil)) pe_int) (pa_cons (pe_un un_neg pe_int) (pa_cons (pe_un un_neg pe_int) pa_nil)))) (pg_name (i := 3) nd rfl (Or.inl rfl))
        (pss_cons (ps_set (i := 4) nd rfl (Or.inl rfl) (pe_op op_add (pv 3) pe_int))
        (Evl.pss_cut (ps_if (pt_cmpR (op_eqW (Nat.lt_of_le_of_lt (Nat.le_add_right _ 64) hr.units)) (pe_ix ix_tup (pv 0) (pv 3) (fun _ _ => rfl)) pe_str (nomark _))
          (pss_cons (ps_expr (pe_bm0 PySem.F.plainAttrs_list PySem.F.slot_list_pop PySem.F.type_list_pop mt_pop (pv 2))) (pss_one (ps_set (i := 4) nd rfl (Or.inl rfl) (pe_bm0 PySem.F.plainAttrs_list PySem.F.slot_list_pop PySem.F.type_list_pop mt_pop (pv 2)))))
          (pss_one (ps_if (pt_val (pe_callB call_isi (by rfl) T.isinstance (by decide +kernel) (pa_cons (pe_ix ix_tup (pv 0) (pv 3) (fun _ _ => rfl)) (pa_cons (pe_bltn (v := .ty "tuple") (by rfl) T2.tuple (by decide +kernel) rfl) pa_nil))))
            (pss_one (ps_set (i := 4) nd rfl (Or.inl rfl) (pe_bm0 PySem.F.plainAttrs_list PySem.F.slot_list_pop PySem.F.type_list_pop mt_pop (pv 2)))) pss_nil)))
        (pss_cons (ps_asg (pv 4) (pg_sub (pv 1) (pv 3) set_list))
        (pss_one (ps_expr (pe_bm PySem.F.plainAttrs_list PySem.F.slot_list_append PySem.F.type_list_append mt_append (pv 2) (pa_cons (pv 4) pa_nil))))))))
      (pss_one (ps_ret (pv 1))))), ?_⟩
    obtain ⟨a, vs, rfl, ha, hw, hl⟩ := hv
    have lv := hw.1
    refine ⟨(by show 1 ≤ sizeLine; decide), fun p hp => ?_⟩
    have ha1 : upd H p (.lst [V.int 0]) a = some (.tup vs) := by rw [upd_ne (ne_of_none ha hp)]; exact ha
    refine ⟨_, rfl, _, _, rfl, .inr (SqT.of ha1), p, _, _, rfl, rfl, upd_same, by omega, by have := line63; omega, (by show 1 * _ ≤ sizeLine; rw [Nat.one_mul, lv]; exact big2 (by omega)), fun l hl0 => ?_⟩
    refine ⟨(by show 0 ≤ sizeLine; decide), fun wl hwl => ?_⟩
    have e0 : (List.replicate ((vs.length : Int)).toNat [V.int 0]).flatten = enL ws ws.length := by
      rw [← enL_top, lv]
      show (List.replicate ws.length [V.int 0]).flatten = _
      rw [List.flatten_replicate_singleton]
    rw [e0] at hwl ⊢
    have s1 : Same H (upd H p (.lst [V.int 0])) := same_new (same_refl H) hp
    have nl : H l = none := same_none s1 hl0
    have s2 := same_new (o := .lst (enL ws ws.length)) s1 hl0
    have nwl : H wl = none := same_none s2 hwl
    have lw : l ≠ wl := ne_of_none upd_same hwl
    have s3 := same_new (o := .lst []) s2 hwl
    have g1 : upd (upd (upd H p (.lst [V.int 0])) l (.lst (enL ws ws.length))) wl (.lst []) l = some (.lst (enL ws ws.length)) := by rw [upd_ne lw]; exact upd_same
    have g2 : upd (upd (upd H p (.lst [V.int 0])) l (.lst (enL ws ws.length))) wl (.lst []) wl = some (.lst []) := upd_same
    generalize upd (upd (upd H p (.lst [V.int 0])) l (.lst (enL ws ws.length))) wl (.lst []) = G at s3 g1 g2
    refine ⟨_, rfl, _, _, rfl, .inr (SqT.of (s3 _ _ ha)), _, _, rfl, rfl, _, rfl, _, rfl, _, _, _, _, rfl, RgC.neg (by omega) (by omega) (by decide) (by decide), ?_⟩
    have en : ((vs.length : Int) - 1 - -1).toNat = ws.length := by omega
    rw [en]
    refine for_rangeC (fun i σ H' => ∃ t3 t4, σ = [some (.ref a), some (.ref l), some (.ref wl), t3, t4] ∧ Same H H' ∧ H' l = some (.lst (enL ws (ws.length - i))) ∧ H' wl = some (.lst (wtL ws (ws.length - i)))) ⟨none, none, rfl, s3, by rw [Nat.sub_zero]; exact g1, by rw [Nat.sub_zero, wtL_of (l := []) (by rw [List.drop_length]; rfl)]; exact g2⟩ ?_ ?_
    · rintro i σ H1 hi ⟨t3, t4, rfl, s1', hl1, hw1⟩
      have hj : ws.length - 1 - i < ws.length := by omega
      have ep : (vs.length : Int) - 1 + (i : Nat) * (-1) = ((ws.length - 1 - i : Nat) : Int) := by omega
      rw [ep]
      have ek : ws.length - i = ws.length - 1 - i + 1 := by omega
      have ek2 : ws.length - (i + 1) = ws.length - 1 - i := by omega
      rw [ek] at hl1 hw1
      rw [ek2]
      generalize hpl : ws.length - 1 - i = pl at hj hl1 hw1
      obtain ⟨wj, hwj⟩ : ∃ wj, ws[pl]? = some wj := ⟨_, List.getElem?_eq_getElem hj⟩
      obtain ⟨vj, hvj⟩ : ∃ vj, vs[pl]? = some vj := ⟨_, List.getElem?_eq_getElem (by omega)⟩
      have wd := (hw.2 _ _ _ hwj hvj).same s1'
      have nn := hn wj (List.mem_of_getElem? hwj)
      have ha2 := s1' _ _ ha
      obtain ⟨c, L, e, _, _, eo⟩ := wh.at hj
      have e' := e
      rw [List.drop_eq_getElem_cons hj, (List.getElem?_eq_some_iff.mp hwj).2] at e'
      have st := wt_step e
      refine ⟨_, rfl, _, _, rfl, rfl, ?_⟩
      refine ⟨fun σ' H' => ∃ R, σ' = [some (.ref a), some (.ref l), some (.ref wl), some (.int (pl : Int)), some (.int (ofE ws pl : Int))] ∧ Same H H' ∧ H' l = some (.lst (enL ws (pl + 1))) ∧ H' wl = some (.lst R) ∧ R ++ [V.int (ofE ws pl : Int)] = wtL ws pl ∧ R.length ≤ ws.length, ?_, ?_⟩
      · have wlen : (wtL ws (pl + 1)).length ≤ ws.length := by
          obtain ⟨x, hx⟩ := pend_drop wh (pl + 1)
          rw [wtL_of hx, List.length_map, List.length_reverse, stk_len]
          have := pend_len hx
          rw [List.length_drop] at this
          omega
        refine ⟨_, rfl, _, rfl, a, _, _, _, rfl, rfl, SqT.of ha2, atI_nat hvj, wj.use, wd.eqUse nn, _, rfl, ?_⟩
        refine ite2 (fun u => ?_) (fun u => ?_)
        · obtain ⟨x, b, l', e1, q⟩ := pend_use e' u
          cases q
          have w2 := wt_two e1
          rw [w2] at hw1 wlen
          generalize hS : ((stk (pl + 1 + x + b) L).reverse.map fun t : Nat => V.int (t : Int)) = S at hw1 w2 wlen
          refine ⟨_, rfl, .inl ⟨rfl, _, SqL.of hw1⟩, wl, _, _, rfl, rfl, hw1, (by simp; rfl), ?_⟩
          rw [show ((S ++ [V.int ((pl + 1 + x + b : Nat) : Int)]) ++ [V.int ((pl + 1 + x : Nat) : Int)]).dropLast = S ++ [V.int ((pl + 1 + x + b : Nat) : Int)] by simp]
          have g1' : upd H1 wl (.lst (S ++ [V.int ((pl + 1 + x + b : Nat) : Int)])) wl = some (.lst (S ++ [V.int ((pl + 1 + x + b : Nat) : Int)])) := upd_same
          refine ⟨_, rfl, .inl ⟨rfl, _, SqL.of g1'⟩, wl, _, _, rfl, rfl, g1', (by simp; rfl), ?_⟩
          rw [show (S ++ [V.int ((pl + 1 + x + b : Nat) : Int)]).dropLast = S by simp]
          refine ⟨S, ?_, fun b o q => by rw [upd_ne (ne_of_none q nwl), upd_ne (ne_of_none q nwl)]; exact s1' _ _ q, by rw [upd_ne lw, upd_ne lw]; exact hl1, upd_same, ?_, ?_⟩
          · rw [eo]
            show [some (V.ref a), some (.ref l), some (.ref wl), some (.int (pl : Int)), some (.int ((pl + 1 + x + b : Nat) : Int))] = _
            rw [show pl + 1 + x + b = pl + (x + b + 1) by omega]
          · rw [st, eo, ← hS, show pl + 1 + x + b = pl + (x + b + 1) by omega]
          · simp only [List.length_append, List.length_singleton] at wlen; omega
        · have u : wj.use = false := Bool.eq_false_iff.mpr u
          obtain ⟨tv, ty, kt⟩ := wd.tyT nn
          refine ⟨_, rfl, _, rfl, a, _, _, _, rfl, rfl, SqT.of ha2, atI_nat hvj, _, _, _, _, _, rfl, .ty _, ty, kt, _, rfl, ?_⟩
          refine ite2 (fun t => ?_) (fun t => ?_)
          · obtain ⟨x, l', e1, q⟩ := pend_take e' u t
            cases q
            have w2 := wt_step e1
            rw [w2] at hw1 wlen
            generalize hS : ((stk (pl + 1 + x) L).reverse.map fun t : Nat => V.int (t : Int)) = S at hw1 w2 wlen
            refine ⟨_, rfl, .inl ⟨rfl, _, SqL.of hw1⟩, wl, _, _, rfl, rfl, hw1, (by simp; rfl), ?_⟩
            rw [show (S ++ [V.int ((pl + 1 + x : Nat) : Int)]).dropLast = S by simp]
            refine ⟨S, ?_, fun b o q => by rw [upd_ne (ne_of_none q nwl)]; exact s1' _ _ q, by rw [upd_ne lw]; exact hl1, upd_same, ?_, ?_⟩
            · rw [eo]
              show [some (V.ref a), some (.ref l), some (.ref wl), some (.int (pl : Int)), some (.int ((pl + 1 + x : Nat) : Int))] = _
              rw [show pl + 1 + x = pl + (x + 1) by omega]
            · rw [st, eo, ← hS, show pl + 1 + x = pl + (x + 1) by omega]
            · simp only [List.length_append, List.length_singleton] at wlen; omega
          · obtain ⟨l', e1, q⟩ := pend_name e' u (Bool.eq_false_iff.mpr t)
            cases q
            refine ⟨wtL ws (pl + 1), ?_, s1', hl1, hw1, ?_, wlen⟩
            · rw [eo]; rfl
            · rw [st, eo, wtL_of e1]
      · rintro _ H2 ⟨R, rfl, s2', hl2, hw2, eR, lR⟩
        refine ⟨_, rfl, _, rfl, _, rfl, l, _, _, pl, rfl, rfl, hl2, Evl.ixN_nat (by rw [enL_len]; exact hj), ?_⟩
        have g3 : upd H2 l (.lst ((enL ws (pl + 1)).set pl (V.int (ofE ws pl : Int)))) wl = some (.lst R) := by rw [upd_ne lw.symm]; exact hw2
        refine ⟨_, rfl, .inl ⟨rfl, _, SqL.of g3⟩, _, rfl, wl, _, _, rfl, rfl, g3, room2 (by omega), ?_⟩
        refine ⟨_, _, rfl, fun b o q => by rw [upd_ne (ne_of_none q nwl), upd_ne (ne_of_none q nl)]; exact s2' _ _ q, ?_, ?_⟩
        · rw [upd_ne lw, upd_same, enL_set hj]
        · rw [upd_same, eR]
    · rintro σ H1 ⟨t3, t4, rfl, h1, h2, h3⟩
      rw [Nat.sub_self] at h2
      exact ⟨_, rfl, kq l H1 nl h1 h2⟩
end
end LG

set_option Elab.async false
set_option linter.all false
set_option maxRecDepth 100000
set_option maxHeartbeats 4100000
namespace LG
open PySem L2
abbrev sOwners : Stmt := top 38
theorem filter_lt {f : Nat → Bool} : ∀ {n p : Nat}, p ≤ n → (List.range n).filter (fun t => decide (t < p) && f t) = (List.range p).filter f
  | 0, p, h => by have : p = 0 := by omega
                  subst this; rfl
  | n + 1, p, h => by
    by_cases e : p = n + 1
    · subst e
      apply List.filter_congr
      intro t ht
      rw [decide_eq_true (List.mem_range.mp ht), Bool.true_and]
    · rw [List.range_succ, List.filter_append, filter_lt (by omega)]
      have : decide (n < p) = false := decide_eq_false (by omega)
      simp [this]
/-- the takes around that take a word -/
def ofW (ws : List Wd) (p : Nat) (o : Option Str) : List Nat := (arnd ws p).filter fun t => match o with
  | some z => decide (nmOf ws t = some z)
  | none => false
def ofWk (ws : List Wd) (p : Nat) (o : Option Str) (t : Nat) : Bool := decide (t < p) && (decide (p < ofE ws t) && match o with
  | some z => decide (nmOf ws t = some z)
  | none => false)
theorem ofW_eq {ws : List Wd} {p : Nat} {o : Option Str} (hp : p ≤ ws.length) : (tkP ws ws.length).filter (ofWk ws p o) = ofW ws p o := by
  unfold tkP ofW arnd
  rw [List.filter_filter, List.filter_filter, ← filter_lt hp]
  congr 1
  funext t
  unfold ofWk
  cases decide (t < p) <;> cases decide (p < ofE ws t) <;> cases isT ws t <;> simp
theorem own_of {ws : List Wd} {p : Nat} {w : Wd} (h : ws[p]? = some w) : own ws p = (ofW ws p w.text).getLast? := by
  unfold own ofW
  rw [h]
  cases w with
  | st z => rfl
  | pr o t =>
    show none = ((arnd ws p).filter fun _ => false).getLast?
    rw [List.filter_eq_nil_iff.mpr (fun _ _ h => by cases h)]; rfl
  | no =>
    show none = ((arnd ws p).filter fun _ => false).getLast?
    rw [List.filter_eq_nil_iff.mpr (fun _ _ h => by cases h)]; rfl
/-- the greatest of an ascending row is the last one -/
theorem last_max {L : List Nat} (h : L.Pairwise (· < ·)) {m : Nat} (hm : m ∈ L) (g : ∀ x ∈ L, x ≤ m) : L.getLast? = some m := by
  rcases nil_or_snoc L with rfl | ⟨L', x, rfl⟩
  · cases hm
  · have hx := g x (by simp)
    rcases List.mem_append.mp hm with q | q
    · have := (List.pairwise_append.mp h).2.2 m q x List.mem_cons_self
      omega
    · rw [List.mem_singleton] at q
      rw [q]; simp
theorem ofW_lt {ws : List Wd} {p : Nat} {o : Option Str} : (ofW ws p o).Pairwise (· < ·) := List.Pairwise.sublist List.filter_sublist arnd_lt
theorem tkL_more {ws : List Wd} {k : Nat} (h : k < ws.length) : (tkL ws ws.length).take (k + 1) = (tkL ws ws.length).take k ++ [tkV ws k] := by
  rw [List.take_add_one, tkL_get h h]; rfl
theorem eqNm {K : PySem.W.Frag} {H : Hp} {w : Wd} {v : V} {z : Str} (h : WdAt K H w v) (hn : w ≠ .no) : eqW K (.str z) v H (match w.text with
    | some y => decide (some z = some y)
    | none => false) := by
  cases w with
  | st y =>
    obtain ⟨rfl, _⟩ := h
    refine .inl ⟨z, y, rfl, rfl, ?_⟩
    show decide (some z = some y) = decide (V.str z = V.str y)
    rw [Bool.eq_iff_iff]; simp
  | pr o t => obtain ⟨a, x, y, rfl, ha, _⟩ := h; exact .inr (.inr ⟨a, _, z, rfl, SqT.of ha, rfl, rfl⟩)
  | no => exact absurd rfl hn
theorem take_filter {α : Type} {L : List α} {f : α → Bool} {j : Nat} {x : α} (h : L[j]? = some x) : (L.take (j + 1)).filter f = if f x = true then (L.take j).filter f ++ [x] else (L.take j).filter f := by
  (rw [List.take_add_one, h, List.filter_append])
  show _ ++ [x].filter f = _
  by_cases e : f x = true
  · rw [if_pos e]; simp [e]
  · rw [if_neg e]; simp [e]
def spOwners (K : PySem.W.Frag) : Sp := fun vs H Q _ => ∃ (v : V) (ws : List Wd), vs = [v] ∧ PgAt K H ws v ∧ Woks ws ∧ Whole ws ∧ ∀ l H', H l = none → Same H H' → H' l = some (.lst (tkL ws ws.length)) → Q (.ref l) H'
section
variable {P : Program} {w : World} {K : PySem.W.Frag} {mg : Str → Option Value} {base : Heap}
theorem scOwners : FnScope ["_law_words", "_law_spans_here", "_law_takes_here", "_law_found", "_law_place", "_law_word", "_law_some_here", "_law_at"] ["_law_words"] (defScope sOwners) := ⟨rfl, rfl, rfl, by decide +kernel, rfl, by decide +kernel, by decide +kernel⟩
theorem ok_owners {f fS : Addr} {fd fdS : FuncData} (F : Fn K mg "_law_owners" sOwners ["_law_words"] f fd) (NS : Fn K mg "_law_spans" sSpans ["_law_words"] fS fdS) (T : TxB mg) (T2 : TxD mg) : FnOk P w K mg base CX0 2 f fd ["_law_words"] (spOwners K) := by
  have GS : FnOk P w K mg base CX0 1 fS fdS ["_law_words"] (spEnds K) := ok_spans NS T T2
  refine F.F.ok scOwners (fun vs H Q E h => ?_) (fun cdv A outer s H vs Q E hr h => ?_)
  · obtain ⟨_, _, rfl, _⟩ := h
    rfl
  · obtain ⟨v, ws, rfl, hv, hk, wh, kq⟩ := h
    have nd := scOwners.nd
    refine ⟨_, pss_cons (ps_set (i := 1) nd rfl (Or.inr rfl) (pe_call GS hr (by rfl) NS.m NS.F.kp NS.b .nil pass0 (pa_cons (pv 0) pa_nil)))
      (pss_cons (ps_setLc (i := 2) (own := [("_law_at", 7)]) (g := gName 7) (tt := _) rfl nd rfl rfl (sw_true rfl rfl rfl (by decide +kernel)) (pi_range1 (by rfl) T.range (pa_cons (pe_callB call_len_seq (by rfl) T.len PySem.boot_len (pa_cons (pv 0) pa_nil)) pa_nil))
        (blkOk_by (N := ["_law_words", "_law_spans_here", "_law_takes_here", "_law_found", "_law_place", "_law_word", "_law_some_here", "_law_at"]) (sc := defScope sOwners) (by decide +kernel)) (fun _ _ _ _ _ => pg_name (i := 7) nd rfl (Or.inl rfl))
        (fun _ _ _ _ _ => pts_one (pt_val (pe_callB (id := "isinstance") (r := rIsi K) call_isi (by rfl) T.isinstance (by decide +kernel) (pa_cons (pe_ix (ix_tup : IxR _ (rIxT K)) (pv 0) (pv 7) (fun _ _ => rfl)) (pa_cons (pe_bltn (v := .ty "tuple") (by rfl) T2.tuple (by decide +kernel) rfl) pa_nil)))))
        (fun _ _ _ _ _ => pv 7))
      (pss_cons (ps_set (i := 3) nd rfl (Or.inl rfl) (pe_lst pa_nil))
      (pss_cons (ps_for PassesOwn.never rfl (pi_enumT (by rfl) T2.enumerate (pa_cons (pv 0) pa_nil)) (pg_tup rfl (pgs_cons (pg_name (i := 4) nd rfl (Or.inr rfl)) (pgs_cons (pg_name (i := 5) nd rfl (Or.inr rfl)) pgs_nil)))
        (pss_cons (ps_setLc (i := 6) (own := [("_law_at", 7)]) (g := gName 7) (tt := _) rfl nd rfl rfl (sw_true rfl rfl rfl (by decide +kernel)) (pi_list (pv 2))
          (blkOk_by (N := ["_law_words", "_law_spans_here", "_law_takes_here", "_law_found", "_law_place", "_law_word", "_law_some_here", "_law_at"]) (sc := defScope sOwners) (by decide +kernel)) (fun _ _ _ _ _ => pg_name (i := 7) nd rfl (Or.inl rfl))
          (fun _ _ _ _ _ => pts_one (PW.pt (pw_and (pt_chain op_lt op_lt (pv 7) (pv 4) (pe_ix (ix_list : IxR _ (rIxL K)) (pv 1) (pv 7) (fun _ _ => rfl)))
            (pw_and1 (pt_cmpR (op_eqW (Nat.lt_of_le_of_lt (Nat.le_add_right _ 64) hr.units) : OpR _ _ (rEqW K)) (pe_ix (ix_tup : IxR _ (rIxT K)) (pe_ix (ix_tup : IxR _ (rIxT K)) (pv 0) (pv 7) (fun _ _ => rfl)) pe_int (fun _ _ => rfl)) (pv 5) (nomark _))))))
          (fun _ _ _ _ _ => pv 7))
        (pss_one (ps_expr (pe_bm PySem.F.plainAttrs_list PySem.F.slot_list_append PySem.F.type_list_append mt_append (pv 3) (pa_cons
          (pe_ifExp (PW.pt (pw_and (pt_val (pe_callB call_isi (by rfl) T.isinstance (by decide +kernel) (pa_cons (pv 5) (pa_cons (pe_bltn (v := .ty "str") (by rfl) T2.str (by decide +kernel) rfl) pa_nil)))) (pw_and1 (pt_cmpR op_gt (pe_callB call_len_seq (by rfl) T.len PySem.boot_len (pa_cons (pv 6) pa_nil)) pe_int (nomark _)))))
            (pe_callB (cr_max rfl) (by rfl) T2.max (by decide +kernel) (pa_cons (pv 6) pa_nil)) pe_non) pa_nil))))))
      (pss_one (ps_ret (pv 3)))))), ?_⟩
    obtain ⟨a, vs, rfl, ha, hw, hl⟩ := id hv
    have lv := hw.1
    refine ⟨_, rfl, _, ws, rfl, hv, hk.wds, wh, fun e H1 he s1 e1 => ?_⟩
    have fe : H e = none := he
    have ha1 := s1 _ _ ha
    refine ⟨_, rfl, _, _, rfl, .inr (SqT.of ha1), _, rfl, by omega, by have := line63; omega, fun D hD => ?_⟩
    rw [show ((vs.length : Int)).toNat = ws.length by omega]
    have fD : H D = none := same_none s1 hD
    have eD : e ≠ D := ne_of_none e1 hD
    refine lc_range (lo := 0) (n := ws.length) (fun i H' => Same H1 H' ∧ H' D = some (.lst (intL (tkP ws i)))) ⟨same_new (same_refl H1) hD, upd_same⟩ ?_ ?_
    · rintro i H' hi ⟨h1, h2⟩
      refine ⟨rfl, ?_⟩
      rw [Int.zero_add]
      obtain ⟨wi, hwi⟩ : ∃ wi, ws[i]? = some wi := ⟨_, List.getElem?_eq_getElem hi⟩
      obtain ⟨vi, hvi⟩ : ∃ vi, vs[i]? = some vi := ⟨_, List.getElem?_eq_getElem (by omega)⟩
      have wd := (hw.2 _ _ _ hwi hvi).same (same_trans s1 h1)
      obtain ⟨tv, ty, kt⟩ := wd.tyT (hk wi (List.mem_of_getElem? hwi)).no
      have it : isT ws i = wi.thing := by unfold isT; rw [hwi]
      have ol := tkP_len (ws := ws) (k := i)
      refine ⟨_, rfl, _, rfl, a, _, _, _, rfl, rfl, SqT.of (h1 _ _ ha1), atI_nat hvi, _, _, _, _, _, rfl, .ty _, ty, kt, _, rfl, ?_⟩
      refine ite2 (fun c => ?_) (fun c => ?_)
      · refine ⟨_, rfl, _, h2, (by rw [intL_len]; exact room2 (by omega)), fun b u q => by rw [upd_ne (ne_of_none q hD)]; exact h1 b u q, ?_⟩
        rw [upd_same, tkP_succ, it, if_pos c, intL_snoc]
      · exact ⟨h1, by rw [tkP_succ, it, if_neg c]; exact h2⟩
    rintro H2 ⟨s12, d2⟩
    have s2 := same_trans s1 s12
    refine ⟨(by show 0 ≤ sizeLine; decide), fun fl hfl => ?_⟩
    have ffl : H fl = none := same_none s2 hfl
    have efl : e ≠ fl := ne_of_none (s12 _ _ e1) hfl
    have Dfl : D ≠ fl := ne_of_none d2 hfl
    have s3 := same_new (o := .lst []) s2 hfl
    have e3 : upd H2 fl (.lst []) e = some (.lst (enL ws 0)) := by rw [upd_ne efl]; exact s12 _ _ e1
    have d3 : upd H2 fl (.lst []) D = some (.lst (intL (tkP ws ws.length))) := by rw [upd_ne Dfl]; exact d2
    have f3 : upd H2 fl (.lst []) fl = some (.lst []) := upd_same
    generalize upd H2 fl (.lst []) = H3 at s3 e3 d3 f3
    refine ⟨_, rfl, a, vs, rfl, SqT.of (s3 _ _ ha), ?_⟩
    refine for_it walk_enumT (fun i σ H' => ∃ t4 t5 t6, σ = [some (.ref a), some (.ref e), some (.ref D), some (.ref fl), t4, t5, t6, none] ∧ Same H H' ∧ H' e = some (.lst (enL ws 0)) ∧ H' D = some (.lst (intL (tkP ws ws.length))) ∧ H' fl = some (.lst ((tkL ws ws.length).take i))) ⟨none, none, none, rfl, s3, e3, d3, by rw [List.take_zero]; exact f3⟩ (fun i σ H' _ ⟨_, _, _, _, h, _⟩ => SqT.of (h _ _ ha)) ?_ ?_
    · rintro i _ σ H' _ hi ⟨t4, t5, t6, rfl, h1, h2, h3, h4⟩ ⟨q, y, rfl, nq, rfl, hy⟩
      rw [lv] at hi
      have enq : e ≠ q := ne_of_none h2 nq
      have Dnq : D ≠ q := ne_of_none h3 nq
      have fnq : fl ≠ q := ne_of_none h4 nq
      have k1 := same_new (o := .tup [.int (i : Nat), y]) h1 nq
      have k2 : upd H' q (.tup [.int (i : Nat), y]) e = some (.lst (enL ws 0)) := by rw [upd_ne enq]; exact h2
      have k3 : upd H' q (.tup [.int (i : Nat), y]) D = some (.lst (intL (tkP ws ws.length))) := by rw [upd_ne Dnq]; exact h3
      have k4 : upd H' q (.tup [.int (i : Nat), y]) fl = some (.lst ((tkL ws ws.length).take i)) := by rw [upd_ne fnq]; exact h4
      refine ⟨q, _, rfl, SqT.of upd_same, rfl, _, _, rfl, _, _, rfl, rfl, ?_⟩
      generalize upd H' q (.tup [.int (i : Nat), y]) = G at k1 k2 k3 k4
      obtain ⟨wi, hwi⟩ : ∃ wi, ws[i]? = some wi := ⟨_, List.getElem?_eq_getElem hi⟩
      have wok := hk wi (List.mem_of_getElem? hwi)
      have wd := (hw.2 _ _ _ hwi hy).same k1
      have ilen : (intL (tkP ws ws.length)).length = (tkP ws ws.length).length := intL_len
      have tl := tkP_len (ws := ws) (k := ws.length)
      refine ⟨_, rfl, D, rfl, ⟨_, SqL.of k3⟩, fun D2 hD2 => ?_⟩
      have fD2 : H D2 = none := same_none k1 hD2
      have eD2 : e ≠ D2 := ne_of_none k2 hD2
      have DD2 : D ≠ D2 := ne_of_none k3 hD2
      have fD2' : fl ≠ D2 := ne_of_none k4 hD2
      refine lc_it walk_list (fun j H'' => Same G H'' ∧ H'' D2 = some (.lst (intL (((tkP ws ws.length).take j).filter (ofWk ws i wi.text))))) ⟨same_new (same_refl G) hD2, upd_same⟩ (fun j H'' _ p => SqL.of (p.1 _ _ k3)) ?_ ?_
      · rintro j x _ H'' hj ⟨g1, g2⟩ ⟨rfl, hx⟩
        rw [ilen] at hj
        obtain ⟨t, ht⟩ : ∃ t, (tkP ws ws.length)[j]? = some t := ⟨_, List.getElem?_eq_getElem hj⟩
        have ex : x = V.int (t : Int) := by
          unfold intL at hx
          rw [List.getElem?_map, ht] at hx
          exact (Option.some.inj hx).symm
        subst ex
        obtain ⟨tn, tt⟩ := mem_tkP.mp (List.mem_of_getElem? ht)
        obtain ⟨z, kd, hz, nz, nm⟩ := isT_pr hk tt
        obtain ⟨vt, hvt⟩ : ∃ vt, vs[t]? = some vt := ⟨_, List.getElem?_eq_getElem (by omega)⟩
        obtain ⟨pt, x', y', rfl, hpt, hx', _⟩ := hw.2 _ _ _ hz hvt
        obtain ⟨rfl, _⟩ := hx'
        have kk := same_trans k1 g1
        have cl : ((tkP ws ws.length).take j).length ≤ j := by rw [List.length_take]; omega
        have fl' := List.length_filter_le (ofWk ws i wi.text) ((tkP ws ws.length).take j)
        have eW : ofWk ws i wi.text t = (decide (t < i) && (decide (i < ofE ws t) && match wi.text with
            | some y => decide (some z = some y)
            | none => false)) := by unfold ofWk; rw [nm]
        have no : ofWk ws i wi.text t = false → Same G H'' ∧ H'' D2 = some (.lst (intL (((tkP ws ws.length).take (j + 1)).filter (ofWk ws i wi.text)))) := fun e => ⟨g1, by rw [take_filter ht, e, if_neg Bool.false_ne_true]; exact g2⟩
        refine ⟨rfl, ?_⟩
        refine ⟨_, rfl, _, rfl, _, _, rfl, rfl, _, rfl, ?_⟩
        refine ite2 (fun c1 => ?_) (fun c1 => ?_)
        · have c1 : t < i := by have := of_decide_eq_true c1; omega
          refine ⟨_, rfl, _, rfl, e, _, _, _, rfl, rfl, SqL.of (g1 _ _ k2), atI_nat (enL_get tn (Nat.zero_le _)), _, _, rfl, rfl, _, rfl, ?_⟩
          refine ite2 (fun c2 => ?_) (fun c2 => ?_)
          · have c2 : i < ofE ws t := by have := of_decide_eq_true c2; omega
            rw [decide_eq_true c1, decide_eq_true c2, Bool.true_and, Bool.true_and] at eW
            refine ⟨_, rfl, _, rfl, a, _, _, _, rfl, rfl, SqT.of (kk _ _ ha), atI_nat hvt, pt, _, _, _, rfl, rfl, SqT.of (kk _ _ hpt), rfl, _, rfl, _, eqNm (wd.same g1) wok.no, _, rfl, ?_⟩
            rw [← eW]
            refine ite2 (fun c3 => ?_) (fun c3 => ?_)
            · refine ⟨_, rfl, _, g2, (by rw [intL_len]; exact room2 (by omega)), fun b u r => by rw [upd_ne (ne_of_none r hD2)]; exact g1 b u r, ?_⟩
              rw [upd_same, take_filter ht, if_pos c3, intL_snoc]
            · exact no (Bool.eq_false_iff.mpr c3)
          · have c2 : decide (i < ofE ws t) = false := decide_eq_false fun r => c2 (decide_eq_true (by omega))
            refine ifF rfl ?_
            exact no (by rw [eW, c2, Bool.false_and, Bool.and_false])
        · have c1 : decide (t < i) = false := decide_eq_false fun r => c1 (decide_eq_true (by omega))
          refine ⟨_, rfl, ?_⟩
          refine ifF rfl ?_
          refine ifF rfl ?_
          exact no (by rw [eW, c1, Bool.false_and])
      · rintro H4 ⟨g1, g2⟩
        rw [ilen, List.take_length, ofW_eq (Nat.le_of_lt hi)] at g2
        have k1' := same_trans k1 g1
        have g3 := g1 _ _ k4
        have oo := own_of hwi
        have tk := tkL_more hi
        have tll : ((tkL ws ws.length).take i).length ≤ ws.length := by rw [List.length_take, tkL_len]; omega
        have fin : ∀ v, v = tkV ws i → ∃ t4 t5 t6, [some (V.ref a), some (.ref e), some (.ref D), some (.ref fl), some (.int (i : Nat)), some y, some (V.ref D2), none] = [some (.ref a), some (.ref e), some (.ref D), some (.ref fl), t4, t5, t6, none] ∧ Same H (upd H4 fl (.lst ((tkL ws ws.length).take i ++ [v]))) ∧ upd H4 fl (.lst ((tkL ws ws.length).take i ++ [v])) e = some (.lst (enL ws 0)) ∧ upd H4 fl (.lst ((tkL ws ws.length).take i ++ [v])) D = some (.lst (intL (tkP ws ws.length))) ∧ upd H4 fl (.lst ((tkL ws ws.length).take i ++ [v])) fl = some (.lst ((tkL ws ws.length).take (i + 1))) := fun v hv =>
          ⟨_, _, _, rfl, fun b o r => by rw [upd_ne (ne_of_none r ffl)]; exact k1' _ _ r, by rw [upd_ne efl]; exact g1 _ _ k2, by rw [upd_ne Dfl]; exact g1 _ _ k3, by rw [upd_same, tk, hv]⟩
        obtain ⟨tv, ty, kt⟩ := (wd.same g1).ty
        refine ⟨_, rfl, .inl ⟨rfl, _, SqL.of g3⟩, _, rfl, _, _, _, _, _, rfl, .ty _, ty, kt, _, rfl, ?_⟩
        refine ite2 (fun c => ?_) (fun c => ?_)
        · refine ⟨_, rfl, _, _, rfl, .inl (SqL.of g2), _, _, rfl, rfl, _, rfl, ?_⟩
          rw [intL_len]
          refine ite2 (fun d => ?_) (fun d => ?_)
          · have d : 0 < (ofW ws i wi.text).length := by have := of_decide_eq_true d; omega
            have em : intL (ofW ws i wi.text) = ((ofW ws i wi.text).map fun t : Nat => (t : Int)).map V.int := by unfold intL; rw [List.map_map]; rfl
            rw [em] at g2
            refine ⟨_, rfl, D2, _, rfl, SqL.of g2, (by rw [List.length_map]; exact d), fun m hm hle => ?_⟩
            obtain ⟨t, mt, rfl⟩ := List.mem_map.mp hm
            have lm := last_max ofW_lt mt fun x hx => by have := hle _ (List.mem_map.mpr ⟨x, hx, rfl⟩); omega
            have ev : V.int ((t : Nat) : Int) = tkV ws i := by unfold tkV; rw [oo, lm]
            exact ⟨fl, _, _, rfl, rfl, g3, room2 (by omega), fin _ ev⟩
          · have d : ofW ws i wi.text = [] := List.eq_nil_of_length_eq_zero (by
              have : ¬ (((ofW ws i wi.text).length : Nat) : Int) > 0 := fun r => d (decide_eq_true r)
              omega)
            have ev : V.non = tkV ws i := by unfold tkV; rw [oo, d]; rfl
            exact ⟨fl, _, _, rfl, rfl, g3, room2 (by omega), fin _ ev⟩
        · have en : own ws i = none := by
            unfold own
            rw [hwi]
            cases wi with
            | st z => exact absurd rfl c
            | pr o t => rfl
            | no => rfl
          have ev : V.non = tkV ws i := by unfold tkV; rw [en]
          refine ifF rfl ?_
          exact ⟨fl, _, _, rfl, rfl, g3, room2 (by omega), fin _ ev⟩
    · rintro σ H4 ⟨t4, t5, t6, rfl, h1, h2, h3, h4⟩
      rw [lv, List.take_of_length_le (by rw [tkL_len]; exact Nat.le_refl _)] at h4
      exact ⟨_, rfl, kq fl H4 ffl h1 h4⟩
end
end LG

set_option Elab.async false
set_option linter.all false
set_option maxRecDepth 100000
set_option maxHeartbeats 4100000
namespace LG
open PySem L2
abbrev sLOpen : Stmt := top 39
abbrev sLTakes : Stmt := top 46
abbrev sLStand : Stmt := top 41
def spLOpen (K : PySem.W.Frag) : Sp := fun vs H Q _ => ∃ (v : V) (ws : List Wd) (o : Addr) (p : Nat), vs = [v, .ref o, .int (p : Int)] ∧ PgAt K H ws v ∧ Woks ws ∧ H o = some (.lst (tkL ws ws.length)) ∧ p < ws.length ∧ Q (.bl (opn ws p)) H
def spLTakes (K : PySem.W.Frag) : Sp := fun vs H Q _ => ∃ (v : V) (ws : List Wd), vs = [v] ∧ PgAt K H ws v ∧ Woks ws ∧ ∀ l H', H l = none → Same H H' → H' l = some (.lst (intL (tkP ws ws.length))) → Q (.ref l) H'
def spLStand (K : PySem.W.Frag) : Sp := fun vs H Q _ => ∃ (v : V) (ws : List Wd) (z : Str), vs = [v, .str z] ∧ PgAt K H ws v ∧ Woks ws ∧ Whole ws ∧ ∀ H', Same H H' → Q (.int (nO ws (opL ws ws.length) z : Int)) H'
section
variable {P : Program} {w : World} {K : PySem.W.Frag} {mg : Str → Option Value} {base : Heap}
theorem scLOpen : FnScope ["_law_words", "_law_owners_here", "_law_place"] ["_law_words", "_law_owners_here", "_law_place"] (defScope sLOpen) := ⟨rfl, rfl, rfl, by decide +kernel, rfl, by decide +kernel, by decide +kernel⟩
theorem ok_lopen {f : Addr} {fd : FuncData} (F : Fn K mg "_law_is_open" sLOpen ["_law_words", "_law_owners_here", "_law_place"] f fd) (T : TxB mg) (T2 : TxD mg) : FnOk P w K mg base CX0 1 f fd ["_law_words", "_law_owners_here", "_law_place"] (spLOpen K) := by
  refine F.F.ok scLOpen (fun vs H Q E h => ?_) (fun cdv A outer s H vs Q E hr h => ?_)
  · obtain ⟨_, _, _, _, rfl, _⟩ := h
    rfl
  · obtain ⟨v, ws, o, p, rfl, hv, hk, ho, hp, kq⟩ := h
    refine ⟨_, pss_one (ps_ret (pe_and (pe_callB call_isi (by rfl) T.isinstance (by decide +kernel) (pa_cons (pe_ix ix_tup (pv 0) (pv 2) (fun _ _ => rfl)) (pa_cons (pe_bltn (v := .ty "str") (by rfl) T2.str (by decide +kernel) rfl) pa_nil)))
      (pe_and (pe_cmpR (op_neW (Nat.lt_of_le_of_lt (Nat.le_add_right _ 64) hr.units)) (pe_ix ix_tup (pv 0) (pv 2) (fun _ _ => rfl)) pe_str (nomark _)) (pe_one (pe_cmpR op_isN (pe_ix ix_list (pv 1) (pv 2) (fun _ _ => rfl)) pe_non (nomark _)))))), ?_⟩
    obtain ⟨a, vs, rfl, ha, hw, hl⟩ := hv
    have lv := hw.1
    obtain ⟨wp, hwp⟩ : ∃ wp, ws[p]? = some wp := ⟨_, List.getElem?_eq_getElem hp⟩
    obtain ⟨vp, hvp⟩ : ∃ vp, vs[p]? = some vp := ⟨_, List.getElem?_eq_getElem (by omega)⟩
    have wd := hw.2 _ _ _ hwp hvp
    have ok := hk wp (List.mem_of_getElem? hwp)
    have eo := opn_eq hwp
    rw [eo] at kq
    obtain ⟨tv, ty, kt⟩ := wd.ty
    refine ⟨_, rfl, _, rfl, a, _, _, _, rfl, rfl, SqT.of ha, atI_nat hvp, _, _, _, _, _, rfl, .ty _, ty, kt, _, rfl, ?_⟩
    cases wp with
    | pr o t => exact ifF rfl kq
    | no => exact absurd rfl ok.no
    | st z =>
      refine ifT rfl ?_
      refine ⟨_, rfl, _, rfl, a, _, _, _, rfl, rfl, SqT.of ha, atI_nat hvp, _, wd.eqUse ok.no, _, rfl, ?_⟩
      have e1 : opnW ws p (.st z) = (decide (z ≠ "@") && (own ws p).isNone) := rfl
      have e2 : (!(Wd.st z).use) = decide (z ≠ "@") := by show (!decide (z = "@")) = decide (z ≠ "@"); rw [decide_not]
      rw [e1] at kq
      rw [e2]
      refine ite2 (fun c => ?_) (fun c => ?_)
      · rw [c, Bool.true_and] at kq
        refine ⟨_, rfl, _, rfl, o, _, _, _, rfl, rfl, SqL.of ho, atI_nat (tkL_get hp hp), rfl, ?_⟩
        have : (own ws p).isNone = decide (tkV ws p = V.non) := by
          unfold tkV
          cases own ws p with
          | none => rfl
          | some t => simp
        rw [this] at kq
        exact kq
      · rw [Bool.eq_false_iff.mpr c, Bool.false_and] at kq
        exact kq
theorem scLTakes : FnScope ["_law_words", "_law_place"] ["_law_words"] (defScope sLTakes) := ⟨rfl, rfl, rfl, by decide +kernel, rfl, by decide +kernel, by decide +kernel⟩
theorem ok_ltakes {f : Addr} {fd : FuncData} (F : Fn K mg "_law_takes" sLTakes ["_law_words"] f fd) (T : TxB mg) (T2 : TxD mg) : FnOk P w K mg base CX0 1 f fd ["_law_words"] (spLTakes K) := by
  refine F.F.ok scLTakes (fun vs H Q E h => ?_) (fun cdv A outer s H vs Q E hr h => ?_)
  · obtain ⟨_, _, rfl, _⟩ := h
    rfl
  · obtain ⟨v, ws, rfl, hv, hk, kq⟩ := h
    have nd := scLTakes.nd
    refine ⟨_, pss_one (ps_ret (pe_lc (own := [("_law_place", 1)]) (g := gName 1) (tt := _) rfl nd (pi_range1 (by rfl) T.range (pa_cons (pe_callB call_len_seq (by rfl) T.len PySem.boot_len (pa_cons (pv 0) pa_nil)) pa_nil))
        (blkOk_by (N := ["_law_words", "_law_place"]) (sc := defScope sLTakes) (by decide +kernel)) (fun _ _ _ _ _ => pg_name (i := 1) nd rfl (Or.inl rfl))
        (fun _ _ _ _ _ => pts_one (pt_val (pe_callB (id := "isinstance") (r := rIsi K) call_isi (by rfl) T.isinstance (by decide +kernel) (pa_cons (pe_ix (ix_tup : IxR _ (rIxT K)) (pv 0) (pv 1) (fun _ _ => rfl)) (pa_cons (pe_bltn (v := .ty "tuple") (by rfl) T2.tuple (by decide +kernel) rfl) pa_nil)))))
        (fun _ _ _ _ _ => pv 1))), ?_⟩
    obtain ⟨a, vs, rfl, ha, hw, hl⟩ := hv
    have lv := hw.1
    refine ⟨_, rfl, _, _, rfl, .inr (SqT.of ha), _, rfl, by omega, by have := line63; omega, fun D hD => ?_⟩
    rw [show ((vs.length : Int)).toNat = ws.length by omega]
    refine lc_range (lo := 0) (n := ws.length) (fun i H' => Same H H' ∧ H' D = some (.lst (intL (tkP ws i)))) ⟨same_new (same_refl H) hD, upd_same⟩ ?_ ?_
    · rintro i H' hi ⟨h1, h2⟩
      refine ⟨rfl, ?_⟩
      rw [Int.zero_add]
      obtain ⟨wi, hwi⟩ : ∃ wi, ws[i]? = some wi := ⟨_, List.getElem?_eq_getElem hi⟩
      obtain ⟨vi, hvi⟩ : ∃ vi, vs[i]? = some vi := ⟨_, List.getElem?_eq_getElem (by omega)⟩
      have wd := (hw.2 _ _ _ hwi hvi).same h1
      obtain ⟨tv, ty, kt⟩ := wd.tyT (hk wi (List.mem_of_getElem? hwi)).no
      have it : isT ws i = wi.thing := by unfold isT; rw [hwi]
      have ol := tkP_len (ws := ws) (k := i)
      refine ⟨_, rfl, _, rfl, a, _, _, _, rfl, rfl, SqT.of (h1 _ _ ha), atI_nat hvi, _, _, _, _, _, rfl, .ty _, ty, kt, _, rfl, ?_⟩
      refine ite2 (fun c => ?_) (fun c => ?_)
      · refine ⟨_, rfl, _, h2, (by rw [intL_len]; exact room2 (by omega)), fun b u q => by rw [upd_ne (ne_of_none q hD)]; exact h1 b u q, ?_⟩
        rw [upd_same, tkP_succ, it, if_pos c, intL_snoc]
      · exact ⟨h1, by rw [tkP_succ, it, if_neg c]; exact h2⟩
    · rintro H' ⟨h1, h2⟩
      exact kq D H' hD h1 h2
/-- the places where a name stands open -/
def stP (ws : List Wd) (z : Str) (k : Nat) : List Nat := (opL ws k).filter fun p => decide (textAt ws p = some z)
theorem stP_succ {ws : List Wd} {z : Str} {k : Nat} : stP ws z (k + 1) = if (opn ws k && decide (textAt ws k = some z)) = true then stP ws z k ++ [k] else stP ws z k := by
  unfold stP
  rw [opL_succ]
  by_cases h : opn ws k = true
  · rw [if_pos h, h, Bool.true_and, List.filter_append]
    by_cases t : decide (textAt ws k = some z) = true
    · rw [if_pos t]; simp [of_decide_eq_true t]
    · rw [if_neg t]
      have : ¬ textAt ws k = some z := fun q => t (decide_eq_true q)
      simp [this]
  · rw [if_neg h, Bool.eq_false_iff.mpr h, Bool.false_and, if_neg Bool.false_ne_true]
theorem scLStand : FnScope ["_law_words", "_law_name", "_law_owners_here", "_law_place"] ["_law_words", "_law_name"] (defScope sLStand) := ⟨rfl, rfl, rfl, by decide +kernel, rfl, by decide +kernel, by decide +kernel⟩
theorem ok_lstand {f fW fS fO : Addr} {fd fdW fdS fdO : FuncData} (F : Fn K mg "_law_standing" sLStand ["_law_words", "_law_name"] f fd) (NW : Fn K mg "_law_owners" sOwners ["_law_words"] fW fdW) (NS : Fn K mg "_law_spans" sSpans ["_law_words"] fS fdS)
    (NO : Fn K mg "_law_is_open" sLOpen ["_law_words", "_law_owners_here", "_law_place"] fO fdO) (T : TxB mg) (T2 : TxD mg) : FnOk P w K mg base CX0 3 f fd ["_law_words", "_law_name"] (spLStand K) := by
  have GW : FnOk P w K mg base CX0 2 fW fdW ["_law_words"] (spOwners K) := ok_owners NW NS T T2
  have GO : FnOk P w K mg base CX0 1 fO fdO ["_law_words", "_law_owners_here", "_law_place"] (spLOpen K) := ok_lopen NO T T2
  refine F.F.ok scLStand (fun vs H Q E h => ?_) (fun cdv A outer s H vs Q E hr h => ?_)
  · obtain ⟨_, _, _, rfl, _⟩ := h
    rfl
  · obtain ⟨v, ws, z, rfl, hv, hk, wh, kq⟩ := h
    have nd := scLStand.nd
    have hr1 := hr.mono (show 1 ≤ 2 by decide)
    refine ⟨_, pss_cons (ps_set (i := 2) nd rfl (Or.inr rfl) (pe_call GW hr (by rfl) NW.m NW.F.kp NW.b .nil pass0 (pa_cons (pv 0) pa_nil)))
      (pss_one (ps_ret (pe_callB call_len_seq (by rfl) T.len PySem.boot_len (pa_cons (pe_lc (own := [("_law_place", 3)]) (g := gName 3) (tt := _) rfl nd (pi_range1 (by rfl) T.range (pa_cons (pe_callB call_len_seq (by rfl) T.len PySem.boot_len (pa_cons (pv 0) pa_nil)) pa_nil))
        (blkOk_by (N := ["_law_words", "_law_name", "_law_owners_here", "_law_place"]) (sc := defScope sLStand) (by decide +kernel)) (fun _ _ _ _ _ => pg_name (i := 3) nd rfl (Or.inl rfl))
        (fun _ _ _ _ _ => pts_one (PW.pt (pw_and (pt_val (pe_call GO hr1 (by rfl) NO.m NO.F.kp NO.b .nil pass0 (pa_cons (pv 0) (pa_cons (pv 2) (pa_cons (pv 3) pa_nil)))))
          (pw_and1 (pt_cmpR (op_eqW (Nat.lt_of_le_of_lt (Nat.le_add_right _ 64) hr.units) : OpR _ _ (rEqW K)) (pe_ix (ix_tup : IxR _ (rIxT K)) (pv 0) (pv 3) (fun _ _ => rfl)) (pv 1) (nomark _))))))
        (fun _ _ _ _ _ => pv 3)) pa_nil)))), ?_⟩
    refine ⟨_, rfl, _, ws, rfl, hv, hk, wh, fun o H1 ho s1 o1 => ?_⟩
    obtain ⟨a, vs, rfl, ha, hw, hl⟩ := id hv
    have lv := hw.1
    refine ⟨_, rfl, _, _, rfl, .inr (SqT.of (s1 _ _ ha)), _, rfl, by omega, by have := line63; omega, fun D hD => ?_⟩
    rw [show ((vs.length : Int)).toNat = ws.length by omega]
    refine lc_range (lo := 0) (n := ws.length) (fun i H' => Same H1 H' ∧ H' D = some (.lst (intL (stP ws z i)))) ⟨same_new (same_refl H1) hD, upd_same⟩ ?_ ?_
    · rintro i H' hi ⟨h1, h2⟩
      refine ⟨rfl, ?_⟩
      rw [Int.zero_add]
      have s2 := same_trans s1 h1
      obtain ⟨wi, hwi⟩ : ∃ wi, ws[i]? = some wi := ⟨_, List.getElem?_eq_getElem hi⟩
      obtain ⟨vi, hvi⟩ : ∃ vi, vs[i]? = some vi := ⟨_, List.getElem?_eq_getElem (by omega)⟩
      have ol : (stP ws z i).length ≤ i := Nat.le_trans (List.length_filter_le _ _) opL_len
      have no : (opn ws i && decide (textAt ws i = some z)) = false → Same H1 H' ∧ H' D = some (.lst (intL (stP ws z (i + 1)))) := fun e => ⟨h1, by rw [stP_succ, e, if_neg Bool.false_ne_true]; exact h2⟩
      refine ⟨_, rfl, _, rfl, _, rfl, _, ws, o, i, rfl, hv.same s2, hk, h1 _ _ o1, hi, _, rfl, ?_⟩
      refine ite2 (fun c => ?_) (fun c => ?_)
      · obtain ⟨y, hy, ty, _, _⟩ := opn_text c
        rw [hwi] at hy
        cases hy
        obtain ⟨rfl, _⟩ := hw.2 _ _ _ hwi hvi
        refine ⟨_, rfl, _, rfl, a, _, _, _, rfl, rfl, SqT.of (s2 _ _ ha), atI_nat hvi, _, rfl, _, .inl ⟨y, z, rfl, rfl, rfl⟩, _, rfl, ?_⟩
        have ed : decide (V.str y = V.str z) = (opn ws i && decide (textAt ws i = some z)) := by
          rw [c, ty, Bool.true_and, Bool.eq_iff_iff]; simp
        rw [ed]
        refine ite2 (fun d => ?_) (fun d => ?_)
        · refine ⟨_, rfl, _, h2, (by rw [intL_len]; exact room2 (by omega)), fun b u q => by rw [upd_ne (ne_of_none q hD)]; exact h1 b u q, ?_⟩
          rw [upd_same, stP_succ, if_pos d, intL_snoc]
        · exact no (Bool.eq_false_iff.mpr d)
      · refine ifF rfl ?_
        exact no (by rw [Bool.eq_false_iff.mpr c, Bool.false_and])
    · rintro H' ⟨h1, h2⟩
      refine ⟨_, _, rfl, .inl (SqL.of h2), ?_⟩
      rw [intL_len]
      exact kq H' (same_trans s1 h1)
end
end LG

set_option Elab.async false
set_option linter.all false
set_option maxRecDepth 100000
set_option maxHeartbeats 4100000
namespace LG
open PySem L2
abbrev sLIs : Stmt := top 32
theorem valV_mem : ∀ {kvs : List (Key × V)} {k : Key} {v : V}, (kvs.map (·.1)).Nodup → (k, v) ∈ kvs → valV kvs k = some v
  | p :: r, k, v, nd, h => by
    rw [List.map_cons, List.nodup_cons] at nd
    obtain q | q := List.mem_cons.mp h
    · rw [← q]; exact valV_pos rfl
    · have : ¬ p.1 = k := fun e => nd.1 (by rw [e]; exact List.mem_map.mpr ⟨(k, v), q, rfl⟩)
      rw [valV_neg this]
      exact valV_mem nd.2 q
theorem Cnt.len {f : Key → Option V} {ks ls : List (Key × V)} (h : Cnt f ks) (g : Cnt f ls) : ks.length = ls.length := by
  have mem : ∀ {a b : List (Key × V)}, Cnt f a → Cnt f b → ∀ x, x ∈ a.map (·.1) → x ∈ b.map (·.1) := fun {a b} ha hb x hx => by
    obtain ⟨p, hp, rfl⟩ := List.mem_map.mp hx
    have := valV_mem ha.1 hp
    rw [ha.2, ← hb.2] at this
    exact valV_in this
  have p := (List.perm_ext_iff_of_nodup h.1 g.1).mpr fun x => ⟨mem h g x, mem g h x⟩
  have := p.length_eq
  rwa [List.length_map, List.length_map] at this
theorem Cnt.hit {f : Key → Option V} {ks ls : List (Key × V)} (h : Cnt f ks) (g : Cnt f ls) {p : Key × V} (hp : p ∈ ks) : valV ls p.1 = some p.2 := by
  rw [g.2, ← h.2]; exact valV_mem h.1 hp
/-- all values are ints -/
def IntF (f : Key → Option V) : Prop := ∀ k v, f k = some v → ∃ i, v = .int i
theorem cf_int {ws : List Wd} {T O : List Nat} {m : Nat} : IntF (cf ws T O m) := by
  intro k v h
  cases k with
  | inl j =>
    unfold cf at h
    dsimp only at h
    split at h
    · cases h; exact ⟨_, rfl⟩
    · cases h
  | inr z =>
    unfold cf at h
    dsimp only at h
    split at h
    · cases h
    · cases h; exact ⟨_, rfl⟩
theorem seq_isF {K : PySem.W.Frag} {t : String} (h1 : kitB t "tuple" = some false) (h2 : kitB t "list" = some false) : PySem.W.kitAny K (.type t) [.type "tuple", .type "list"] = some false :=
  kitAny_cons (kit_ty h1) (fun _ => kitAny_cons (kit_ty h2) (fun _ => kitAny_nil) (fun z => nomatch z)) (fun z => nomatch z)
def spLIs0 : Sp := fun vs H Q _ => ∃ i : Int, vs = [.int i, .int i] ∧ ∀ H', Same H H' → Q (.bl true) H'
def spLIs1 : Sp := fun vs H Q _ => ∃ (a b : Addr) (f : Key → Option V) (ks ls : List (Key × V)), vs = [.ref a, .ref b] ∧ H a = some (.dK ks) ∧ H b = some (.dK ls) ∧ Cnt f ks ∧ Cnt f ls ∧ IntF f ∧ ls.length ≤ 3000000 ∧ a ≠ b ∧ ∀ H', Same H H' → Q (.bl true) H'
section
variable {P : Program} {w : World} {K : PySem.W.Frag} {mg : Str → Option Value} {base : Heap}
theorem scLIs : FnScope ["_law_told", "_law_due_here", "_law_k", "_law_key"] ["_law_told", "_law_due_here"] (defScope sLIs) := ⟨rfl, rfl, rfl, by decide +kernel, rfl, by decide +kernel, by decide +kernel⟩
theorem ok_lis0 {f : Addr} {fd : FuncData} (F : Fn K mg "_law_is" sLIs ["_law_told", "_law_due_here"] f fd) (T : TxB mg) (T2 : TxD mg) : FnOk P w K mg base CX0 1 f fd ["_law_told", "_law_due_here"] spLIs0 := by
  refine F.F.ok scLIs (fun vs H Q E h => ?_) (fun cdv A outer s H vs Q E hr h => ?_)
  · obtain ⟨_, rfl, _⟩ := h
    rfl
  · obtain ⟨i, rfl, kq⟩ := h
    refine ⟨_, pss_cons (ps_if (pt_val (pe_callB call_isiT (by rfl) T.isinstance (by decide +kernel) (pa_cons (pv 1) (pa_cons (pe_tup (pa_cons (pe_bltn (v := .ty "tuple") (by rfl) T2.tuple (by decide +kernel) rfl) (pa_cons (pe_bltn (v := .ty "list") (by rfl) T2.list (by decide +kernel) rfl) pa_nil))) pa_nil)))) pss_never pss_nil)
      (pss_cons (ps_if (pt_val (pe_callB call_isi (by rfl) T.isinstance (by decide +kernel) (pa_cons (pv 1) (pa_cons (pe_bltn (v := .ty "dict") (by rfl) T2.dict (by decide +kernel) rfl) pa_nil)))) pss_never pss_nil)
      (pss_one (ps_ret (pe_and (pe_cmpR op_eq (pe_callB call_isi (by rfl) T.isinstance (by decide +kernel) (pa_cons (pv 0) (pa_cons (pe_bltn (v := .ty "bool") (by rfl) T2.bool (by decide +kernel) rfl) pa_nil))) (pe_callB call_isi (by rfl) T.isinstance (by decide +kernel) (pa_cons (pv 1) (pa_cons (pe_bltn (v := .ty "bool") (by rfl) T2.bool (by decide +kernel) rfl) pa_nil))) (nomark _))
        (pe_one (pe_cmpR op_eq (pv 0) (pv 1) (nomark _))))))), ?_⟩
    refine ⟨_, rfl, (by show 2 ≤ sizeLine; decide), fun tp htp => ?_⟩
    refine ⟨_, _, _, _, _, _, rfl, upd_same, .cons (.ty _) (.cons (.ty _) .nil), .base (.int i), seq_isF (t := "int") (by decide +kernel) (by decide +kernel), _, rfl, ?_⟩
    refine ifF rfl ?_
    refine ⟨_, rfl, _, _, _, _, _, rfl, .ty _, .base (.int i), kit_ty (r := false) (by decide +kernel), _, rfl, ?_⟩
    refine ifF rfl ?_
    refine ⟨_, rfl, _, _, _, _, _, rfl, .ty _, .base (.int i), kit_ty (r := false) (by decide +kernel), _, rfl, _, _, _, _, _, rfl, .ty _, .base (.int i), kit_ty (r := false) (by decide +kernel), rfl, _, rfl, ?_⟩
    refine ifT (by decide) ?_
    refine ⟨_, rfl, _, rfl, rfl, ?_⟩
    rw [decide_eq_true rfl]
    exact kq _ (same_new (same_refl H) htp)
theorem ok_lis1 {f : Addr} {fd : FuncData} (F : Fn K mg "_law_is" sLIs ["_law_told", "_law_due_here"] f fd) (T : TxB mg) (T2 : TxD mg) : FnOk P w K mg base CX0 2 f fd ["_law_told", "_law_due_here"] spLIs1 := by
  have G : FnOk P w K mg base CX0 1 f fd ["_law_told", "_law_due_here"] spLIs0 := ok_lis0 F T T2
  refine F.F.ok scLIs (fun vs H Q E h => ?_) (fun cdv A outer s H vs Q E hr h => ?_)
  · obtain ⟨_, _, _, _, _, rfl, _⟩ := h
    rfl
  · obtain ⟨a, b, g, ks, ls, rfl, ha, hb, ca, cb, gi, ll, nab, kq⟩ := h
    have nd := scLIs.nd
    have hu := hu_of hr
    refine ⟨_, pss_cons (ps_if (pt_val (pe_callB call_isiT (by rfl) T.isinstance (by decide +kernel) (pa_cons (pv 1) (pa_cons (pe_tup (pa_cons (pe_bltn (v := .ty "tuple") (by rfl) T2.tuple (by decide +kernel) rfl) (pa_cons (pe_bltn (v := .ty "list") (by rfl) T2.list (by decide +kernel) rfl) pa_nil))) pa_nil)))) pss_never pss_nil)
      (pss_cons (ps_if (pt_val (pe_callB call_isi (by rfl) T.isinstance (by decide +kernel) (pa_cons (pv 1) (pa_cons (pe_bltn (v := .ty "dict") (by rfl) T2.dict (by decide +kernel) rfl) pa_nil))))
          (pss_one (ps_ret (pe_and (pe_callB call_isi (by rfl) T.isinstance (by decide +kernel) (pa_cons (pv 0) (pa_cons (pe_bltn (v := .ty "dict") (by rfl) T2.dict (by decide +kernel) rfl) pa_nil)))
            (pe_and (pe_cmpR (op_eq_dictA (Nat.lt_of_le_of_lt (Nat.le_add_right _ 64) hr.units)) (pv 0) (pv 1) (nomark _))
            (pe_one (pe_callB (cr_all rfl) (by rfl) T.all (by decide +kernel) (pa_cons (pe_lock (pe_lc (own := [("_law_key", 3)]) (g := gName 3) (tt := tYes) rfl nd (pi_keys (pv 1))
              (blkOk_by (N := ["_law_told", "_law_due_here", "_law_k", "_law_key"]) (sc := defScope sLIs) (by decide +kernel)) (fun _ _ _ _ _ => pg_name (i := 3) nd rfl (Or.inl rfl)) (fun _ _ _ _ _ => pts_nil)
              (fun _ _ _ _ _ => pe_call G hr (by rfl) F.m F.F.kp F.b .nil pass0 (pa_cons (pe_dget hu (pv 0) (pv 3) (fun _ _ => rfl)) (pa_cons (pe_dget hu (pv 1) (pv 3) (fun _ _ => rfl)) pa_nil))))) pa_nil)))))))
          pss_nil)
      pss_never), ?_⟩
    refine ⟨_, rfl, (by show 2 ≤ sizeLine; decide), fun tp htp => ?_⟩
    have s1 := same_new (o := .tup [.ty "tuple", .ty "list"]) (same_refl H) htp
    have ha1 := s1 _ _ ha
    have hb1 := s1 _ _ hb
    refine ⟨_, _, _, _, _, _, rfl, upd_same, .cons (.ty _) (.cons (.ty _) .nil), .base (.dK hb1), seq_isF (t := "dict") (by decide +kernel) (by decide +kernel), _, rfl, ?_⟩
    refine ifF rfl ?_
    generalize upd H tp (.tup [.ty "tuple", .ty "list"]) = H1 at s1 ha1 hb1
    refine ⟨_, rfl, _, _, _, _, _, rfl, .ty _, .base (.dK hb1), kit_ty (r := true) (by decide +kernel), _, rfl, ?_⟩
    refine ifT rfl ?_
    refine ⟨_, rfl, _, _, _, _, _, rfl, .ty _, .base (.dK ha1), kit_ty (r := true) (by decide +kernel), _, rfl, ?_⟩
    refine ifT rfl ?_
    refine ⟨_, rfl, _, rfl, a, b, ks, ls, rfl, rfl, ha1, hb1, ca.len cb, fun p hp => ⟨ca.hit cb hp, ?_⟩, _, rfl, ?_⟩
    · have := valV_mem ca.1 (show (p.1, p.2) ∈ ks from hp)
      rw [ca.2] at this
      obtain ⟨i, e⟩ := gi _ _ this
      rw [e]; rfl
    refine ifT rfl ?_
    refine ⟨b, _, hb1, trivial, fun od => ?_⟩
    have ha2 : upd H1 b (.frz od (.dK ls)) a = some (.dK ks) := by rw [upd_ne nab]; exact ha1
    refine ⟨_, rfl, b, od, rfl, .inl ⟨ls, upd_same, fun D hD => ?_⟩⟩
    have Db : D ≠ b := fun z => by rw [z, upd_same] at hD; cases hD
    have nD : H1 D = none := by rwa [upd_ne Db] at hD
    refine lc_it walk_keys (fun j H' => (∀ c o, c ≠ b → H1 c = some o → H' c = some o) ∧ H' b = some (.frz od (.dK ls)) ∧ H' D = some (.lst ((List.replicate j true).map V.bl))) ⟨fun c o n e => by rw [upd_ne (ne_of_none e nD), upd_ne n]; exact e, by rw [upd_ne Db.symm]; exact upd_same, upd_same⟩ (fun i H' _ p => p.2.1) ?_ ?_
    · rintro j _ _ H' hj ⟨h1, h2, h3⟩ ⟨rfl, k, v, hk, rfl⟩
      have mem := List.mem_of_getElem? hk
      have e1 := cb.hit ca mem
      have e2 := valV_mem cb.1 mem
      have e3 := e2
      rw [cb.2] at e3
      obtain ⟨i, rfl⟩ := gi _ _ e3
      refine ⟨rfl, ?_⟩
      refine yes_kept ?_
      have g1 : DGet H' a (kV k) (some (.int i)) := by rw [← e1]; exact DGet.k (h1 _ _ nab ha1)
      have g2 : DGet H' b (kV k) (some (.int i)) := by rw [← e2]; exact .inl ⟨ls, k, .inr ⟨od, h2⟩, rfl, rfl⟩
      refine ⟨_, rfl, _, rfl, a, _, rfl, g1, _, rfl, _, rfl, b, _, rfl, g2, i, rfl, fun H2 s2 => ?_⟩
      refine ⟨_, s2 _ _ h3, (by rw [List.length_map, List.length_replicate]; exact room2 (by omega)), fun c o n e => by rw [upd_ne (ne_of_none e nD)]; exact s2 _ _ (h1 c o n e), by rw [upd_ne Db.symm]; exact s2 _ _ h2, ?_⟩
      rw [upd_same, List.replicate_succ', List.map_append]; rfl
    · rintro H' ⟨h1, h2, h3⟩
      refine ⟨h2, D, _, rfl, SqL.of (by rw [upd_ne Db]; exact h3), ?_⟩
      have : (List.replicate ls.length true).all id = true := by simp
      rw [this]
      refine kq _ fun c o e => ?_
      have e1 := s1 _ _ e
      by_cases n : c = b
      · rw [n, upd_same]
        rw [n, hb1] at e1
        exact e1
      · rw [upd_ne n]; exact h1 c o n e1
end
end LG

set_option Elab.async false
set_option linter.all false
set_option maxRecDepth 100000
set_option maxHeartbeats 4100000
namespace LG
open PySem L2
abbrev sHeads : Stmt := top 42
theorem valV_sm : ∀ {kvs : List (Key × V)} {k : Key} {v : V}, valV kvs k = some v → (k, v) ∈ kvs
  | p :: r, k, v, h => by
    by_cases e : p.1 = k
    · rw [valV_pos e] at h
      cases h
      rw [← e]; exact List.mem_cons_self
    · rw [valV_neg e] at h
      exact List.mem_cons_of_mem _ (valV_sm h)
/-- names with kinds, in a dict -/
structure InD (K : PySem.W.Frag) (G : Hp) (kvs : List (Key × V)) : Prop where
  each : ∀ p ∈ kvs, ∃ z t, p.1 = .inr z ∧ nameB z = true ∧ ThAt K G t p.2 ∧ KdOk t
theorem InD.same {K : PySem.W.Frag} {G G' : Hp} {kvs : List (Key × V)} (h : InD K G kvs) (s : Same G G') : InD K G' kvs := ⟨fun p hp => by
  obtain ⟨z, t, e, n, ht, k⟩ := h.each p hp
  exact ⟨z, t, e, n, ht.same s, k⟩⟩
theorem InD.put {K : PySem.W.Frag} {G : Hp} {kvs : List (Key × V)} (h : InD K G kvs) {z : Str} {t : Th} {v : V} (n : nameB z = true) (ht : ThAt K G t v) (k : KdOk t) : InD K G (putK kvs (.inr z) v) := ⟨fun p hp => by
  unfold putK at hp
  split at hp
  · obtain ⟨q, hq, e⟩ := List.mem_map.mp hp
    split at e
    · rename_i e1
      rw [← e]
      exact ⟨z, t, e1, n, ht, k⟩
    · rw [← e]; exact h.each q hq
  · obtain q | q := List.mem_append.mp hp
    · exact h.each p q
    · rw [List.mem_singleton] at q
      rw [q]; exact ⟨z, t, rfl, n, ht, k⟩⟩
theorem InD.names {K : PySem.W.Frag} {G : Hp} {kvs : List (Key × V)} (h : InD K G kvs) : ∃ ks : List Str, kvs.map (·.1) = ks.map Sum.inr ∧ ∀ z ∈ ks, nameB z = true ∧ ∃ t v, valV kvs (.inr z) = some v ∧ ThAt K G t v ∧ KdOk t := by
  have e : ∀ l : List (Key × V), (∀ p ∈ l, ∃ z, p.1 = Sum.inr z) → ∃ ks : List Str, l.map (·.1) = ks.map Sum.inr := fun l => by
    induction l with
    | nil => (intro _; exact ⟨[], rfl⟩)
    | cons p r ih =>
      intro hl
      obtain ⟨z, ez⟩ := hl p List.mem_cons_self
      obtain ⟨ks, ek⟩ := ih fun q hq => hl q (List.mem_cons_of_mem _ hq)
      exact ⟨z :: ks, by rw [List.map_cons, List.map_cons, ez, ek]⟩
  obtain ⟨ks, ek⟩ := e kvs fun p hp => let ⟨z, _, ez, _⟩ := h.each p hp; ⟨z, ez⟩
  refine ⟨ks, ek, fun z hz => ?_⟩
  have mk : (Sum.inr z : Key) ∈ kvs.map (·.1) := by rw [ek]; exact List.mem_map.mpr ⟨z, hz, rfl⟩
  cases q : valV kvs (.inr z) with
  | none => exact absurd mk (valV_not q)
  | some v =>
    obtain ⟨y, t, ey, n, ht, k⟩ := h.each _ (valV_sm q)
    cases ey
    exact ⟨n, t, v, rfl, ht, k⟩
theorem fin_int {K : PySem.W.Frag} {G : Hp} {t : Th} {e : V} (ha : t.any = true) (h : ThAt K G t.fin e) : ∃ i : Int, e = .int i := by
  have l := Th.fin_letter ha
  cases q : t.fin with
  | int i => rw [q] at h; exact ⟨i, h⟩
  | bl b => rw [q] at l; cases l
  | non => rw [q] at l; cases l
  | tup => rw [q] at l; cases l
  | pr x y => rw [q] at l; cases l
def spHeads (K : PySem.W.Frag) : Sp := fun vs H Q _ => ∃ (d : Addr) (e : Int) (deep : Nat) (kvs : List (Key × V)) (G : Hp), vs = [.ref d, .int e, .int (deep : Int)] ∧ H d = some (.dK kvs) ∧ InD K G kvs ∧ Same G H ∧ kvs.length < 60 ∧
  ∀ l H' (xs : List Str), H l = none → Same H H' → H' l = some (.lst (xs.map V.str)) → xs.length < 60 → (∀ z ∈ xs, nameB z = true ∧ ∃ t v, valV kvs (.inr z) = some v ∧ ThAt K G t v ∧ KdOk t ∧ (deep = 0 → t.isPr = false)) → Q (.ref l) H'
section
variable {P : Program} {w : World} {K : PySem.W.Frag} {mg : Str → Option Value} {base : Heap}
theorem scHeads : FnScope ["_law_inner", "_law_end", "_law_deep", "_law_found", "_law_name"] ["_law_inner", "_law_end", "_law_deep"] (defScope sHeads) := ⟨rfl, rfl, rfl, by decide +kernel, rfl, by decide +kernel, by decide +kernel⟩
theorem ok_heads {f fE : Addr} {fd fdE : FuncData} (F : Fn K mg "_law_heads" sHeads ["_law_inner", "_law_end", "_law_deep"] f fd) (NE : Fn K mg "_law_ends" sLEnds ["_law_kind_here"] fE fdE) (T : TxB mg) (T2 : TxD mg) : FnOk P w K mg base CX0 2 f fd ["_law_inner", "_law_end", "_law_deep"] (spHeads K) := by
  have GE : FnOk P w K mg base CX0 1 fE fdE ["_law_kind_here"] (spLEnds K) := ok_lends NE T T2
  refine F.F.ok scHeads (fun vs H Q E h => ?_) (fun cdv A outer s H vs Q E hr h => ?_)
  · obtain ⟨_, _, _, _, _, rfl, _⟩ := h
    rfl
  · obtain ⟨d, e, deep, kvs, G, rfl, hd, hi, sG, hl, kq⟩ := h
    have nd := scHeads.nd
    have hu := hu_of hr
    refine ⟨_, pss_cons (ps_set (i := 3) nd rfl (Or.inl rfl) (pe_lst pa_nil))
      (pss_cons (ps_for PassesOwn.never rfl (pi_list (pe_callB (call_sortedD rfl) (by rfl) T2.sorted (by decide +kernel) (pa_cons (pv 0) pa_nil))) (pg_name (i := 4) nd rfl (Or.inl rfl))
        (pss_one (ps_if (PW.pt (pw_and (pt_cmpR op_eq (pe_ix ix_tup (pe_call GE hr (by rfl) NE.m NE.F.kp NE.b .nil pass0 (pa_cons (pe_dget hu (pv 0) (pv 4) (fun _ _ => rfl)) pa_nil)) pe_int (fun _ _ => rfl)) (pv 1) (nomark _))
            (pw_and1 (PW.pt (pw_or (pt_cmpR op_gt (pv 2) pe_int (nomark _)) (pw_or1 (pt_not (pt_val (pe_callB call_isi (by rfl) T.isinstance (by decide +kernel) (pa_cons (pe_dget hu (pv 0) (pv 4) (fun _ _ => rfl)) (pa_cons (pe_bltn (v := .ty "tuple") (by rfl) T2.tuple (by decide +kernel) rfl) pa_nil)))))))))))
          (pss_one (ps_expr (pe_bm PySem.F.plainAttrs_list PySem.F.slot_list_append PySem.F.type_list_append mt_append (pv 3) (pa_cons (pv 4) pa_nil)))) pss_nil)))
      (pss_one (ps_ret (pv 3)))), ?_⟩
    refine ⟨(by show 0 ≤ sizeLine; decide), fun fl hfl => ?_⟩
    have ndf : d ≠ fl := ne_of_none hd hfl
    have hd1 : upd H fl (.lst []) d = some (.dK kvs) := by rw [upd_ne ndf]; exact hd
    obtain ⟨ks, ek, hk⟩ := hi.names
    have kl : ks.length < 60 := by have := congrArg List.length ek; rw [List.length_map, List.length_map] at this; omega
    refine ⟨_, rfl, d, kvs, ks, rfl, .inl hd1, ek, by omega, fun ys q pm _ hq => ?_⟩
    have s1 := same_new (o := .lst []) (same_refl H) hfl
    have s2 := same_new (o := .lst (ys.map V.str)) s1 hq
    have nfq : fl ≠ q := ne_of_none upd_same hq
    have f2 : upd (upd H fl (.lst [])) q (.lst (ys.map V.str)) fl = some (.lst []) := by rw [upd_ne nfq]; exact upd_same
    have q2 : upd (upd H fl (.lst [])) q (.lst (ys.map V.str)) q = some (.lst (ys.map V.str)) := upd_same
    have yl : ys.length < 60 := by rw [pm.length_eq]; exact kl
    generalize upd (upd H fl (.lst [])) q (.lst (ys.map V.str)) = H2 at s2 f2 q2
    refine ⟨q, rfl, ⟨_, SqL.of q2⟩, ?_⟩
    refine for_it walk_list (fun i σ H' => ∃ (t4 : Option V) (xs : List Str), σ = [some (.ref d), some (.int e), some (.int (deep : Int)), some (.ref fl), t4] ∧ Same H H' ∧ H' q = some (.lst (ys.map V.str)) ∧ H' fl = some (.lst (xs.map V.str)) ∧ xs.length ≤ i ∧ ∀ z ∈ xs, nameB z = true ∧ ∃ t v, valV kvs (.inr z) = some v ∧ ThAt K G t v ∧ KdOk t ∧ (deep = 0 → t.isPr = false))
      ⟨none, [], rfl, s2, q2, f2, Nat.le_refl _, (fun z h => by cases h)⟩ (fun i σ H' _ ⟨_, _, _, _, h, _⟩ => SqL.of h) ?_ ?_
    · rintro i y σ H' _ hi' ⟨t4, xs, rfl, h1, h2, h3, h4, h5⟩ ⟨rfl, hy⟩
      rw [List.length_map] at hi'
      obtain ⟨z, hz⟩ : ∃ z, ys[i]? = some z := ⟨_, List.getElem?_eq_getElem hi'⟩
      rw [List.getElem?_map, hz] at hy
      cases hy
      obtain ⟨nz, t, v, hv, ht, ko⟩ := hk z (pm.mem_iff.mp (List.mem_of_getElem? hz))
      have hd' := h1 _ _ hd
      have g : ∀ G' : Hp, G' d = some (.dK kvs) → DGet G' d (kV (.inr z)) (some v) := fun G' q => by rw [← hv]; exact DGet.k q
      have sk : ∀ H3 : Hp, Same H H3 → H3 q = some (.lst (ys.map V.str)) → H3 fl = some (.lst (xs.map V.str)) → ∃ (t4 : Option V) (xs : List Str), [some (V.ref d), some (.int e), some (.int (deep : Int)), some (.ref fl), some (V.str z)] = [some (.ref d), some (.int e), some (.int (deep : Int)), some (.ref fl), t4] ∧ Same H H3 ∧ H3 q = some (.lst (ys.map V.str)) ∧ H3 fl = some (.lst (xs.map V.str)) ∧ xs.length ≤ i + 1 ∧ ∀ z ∈ xs, nameB z = true ∧ ∃ t v, valV kvs (.inr z) = some v ∧ ThAt K G t v ∧ KdOk t ∧ (deep = 0 → t.isPr = false) :=
        fun H3 a1 a2 a3 => ⟨_, xs, rfl, a1, a2, a3, by omega, h5⟩
      refine ⟨_, rfl, _, rfl, d, _, rfl, g _ hd', v, t, G, rfl, ht, same_trans sG h1, by have := ko.2.2; omega, ko.1, fun ps ev p0 q0 H3 eps hps hev s13 hp0 hq0 gp0 gq0 => ?_⟩
      obtain ⟨e', rfl⟩ := fin_int ko.1 hev
      have a1 := same_trans h1 s13
      refine ⟨p0, _, _, _, rfl, rfl, SqT.of gp0, rfl, _, rfl, rfl, _, rfl, ?_⟩
      refine ite2 (fun c => ?_) (fun c => ?_)
      · have add : (deep = 0 → t.isPr = false) → ∃ (t4 : Option V) (xs' : List Str), [some (V.ref d), some (.int e), some (.int (deep : Int)), some (.ref fl), some (V.str z)] = [some (.ref d), some (.int e), some (.int (deep : Int)), some (.ref fl), t4] ∧ Same H (upd H3 fl (.lst (xs.map V.str ++ [V.str z]))) ∧ upd H3 fl (.lst (xs.map V.str ++ [V.str z])) q = some (.lst (ys.map V.str)) ∧ upd H3 fl (.lst (xs.map V.str ++ [V.str z])) fl = some (.lst (xs'.map V.str)) ∧ xs'.length ≤ i + 1 ∧ ∀ z ∈ xs', nameB z = true ∧ ∃ t v, valV kvs (.inr z) = some v ∧ ThAt K G t v ∧ KdOk t ∧ (deep = 0 → t.isPr = false) := fun dp =>
          ⟨_, xs ++ [z], rfl, fun b o r => by rw [upd_ne (ne_of_none r hfl)]; exact a1 _ _ r, by rw [upd_ne nfq.symm]; exact s13 _ _ h2, by rw [upd_same, List.map_append]; rfl, by rw [List.length_append, List.length_singleton]; omega, fun x hx => by
            rcases List.mem_append.mp hx with r | r
            · exact h5 x r
            · rw [List.mem_singleton] at r
              rw [r]; exact ⟨nz, t, v, hv, ht, ko, dp⟩⟩
        refine ⟨_, rfl, _, _, rfl, rfl, _, rfl, ?_⟩
        refine ite2 (fun dd => ?_) (fun dd => ?_)
        · have d0 : ¬ deep = 0 := fun r => by have := of_decide_eq_true dd; omega
          refine ifT rfl ?_
          refine ⟨_, rfl, .inl ⟨rfl, _, SqL.of (s13 _ _ h3)⟩, _, rfl, fl, _, _, rfl, rfl, s13 _ _ h3, (by rw [List.length_map]; exact room2 (by omega)), add fun r => absurd r d0⟩
        · have d0 : deep = 0 := Classical.byContradiction fun r => dd (decide_eq_true (by omega))
          obtain ⟨tv, ty, k1, k2, k3⟩ := ((ht.same sG).same a1).ty
          have hd3 := a1 _ _ hd
          refine ⟨_, rfl, _, rfl, d, _, rfl, g _ hd3, _, _, _, _, _, rfl, .ty _, ty, k3, _, rfl, ?_⟩
          cases t with
          | pr x y =>
            refine ifF rfl ?_
            exact sk H3 a1 (s13 _ _ h2) (s13 _ _ h3)
          | int j =>
            refine ifT rfl ?_
            exact ⟨_, rfl, .inl ⟨rfl, _, SqL.of (s13 _ _ h3)⟩, _, rfl, fl, _, _, rfl, rfl, s13 _ _ h3, (by rw [List.length_map]; exact room2 (by omega)), add fun _ => rfl⟩
          | bl b => cases ko.1
          | non => cases ko.1
          | tup => cases ko.1
      · exact sk H3 a1 (s13 _ _ h2) (s13 _ _ h3)
    · rintro σ H3 ⟨t4, xs, rfl, h1, h2, h3, h4, h5⟩
      rw [List.length_map] at h4
      exact ⟨_, rfl, kq fl H3 xs hfl h1 h3 (by omega) h5⟩
end
end LG

set_option Elab.async false
set_option linter.all false
set_option maxRecDepth 100000
set_option maxHeartbeats 8100000
namespace LG
open PySem L2
abbrev sLFit : Stmt := top 43
def sixN : List V := [.str "x", .str "y", .str "z", .str "x", .str "u", .str "v"]
theorem sixN_ok : NmL sixN := by
  intro v hv
  simp only [sixN, List.mem_cons, List.not_mem_nil, or_false] at hv
  rcases hv with rfl | rfl | rfl | rfl | rfl | rfl <;> exact ⟨_, rfl, by decide +kernel⟩
def triN : List V := [.str "x", .str "y", .str "q"]
theorem triN_ok : NmL triN := by
  intro v hv
  simp only [triN, List.mem_cons, List.not_mem_nil, or_false] at hv
  rcases hv with rfl | rfl | rfl <;> exact ⟨_, rfl, by decide +kernel⟩
def szF : Nat → Nat
  | 0 => 3
  | d + 1 => 7 + 4 * szF d
theorem szF_ge : ∀ d, 3 ≤ szF d
  | 0 => Nat.le_refl _
  | d + 1 => by show 3 ≤ 7 + 4 * szF d; omega
def spLFit (K : PySem.W.Frag) (d : Nat) : Sp := fun vs H Q _ => ∃ (p c kd : Addr) (cells : List Int) (kvs : List (Key × V)) (t : Th) (v : V), vs = [.ref p, .ref kd, v, .int (d : Int)] ∧ HandAt H p c cells ∧ H kd = some (.dK kvs) ∧ kd ≠ p ∧ InD K (del H p) kvs ∧ kvs.length + 3 * (d + 1) < 50 ∧ ThAt K (del H p) t v ∧ KdOk t ∧ BackP K H p c cells (szF d) Q
/-- takes alone -/
def Tks (ws : List Wd) : Prop := ∀ w ∈ ws, ∃ z t, w = .pr (some z) t ∧ nameB z = true ∧ t.any = true
theorem One.takes : ∀ {ts ws : List Wd}, Tks ts → One ws → One (ts ++ ws)
  | [], ws, _, h => h
  | t :: ts, ws, ht, h => by
    obtain ⟨z, k, rfl, hz, hk⟩ := ht t List.mem_cons_self
    exact One.take hz hk (One.takes (fun w hw => ht w (List.mem_cons_of_mem _ hw)) h)
theorem same_dd {G G' : Hp} {D : Addr} {o : HO} (s : Same G G') : Same (del G D) (del (upd G' D o) D) := fun b u e => by
  by_cases hb : b = D
  · rw [hb, del_same] at e; cases e
  · rw [del_ne hb] at e ⊢; rw [upd_ne hb]; exact s b u e
theorem del_upd {H : Hp} {p D : Addr} {o : HO} (n : D ≠ p) : del (upd H D o) p = upd (del H p) D o := by
  funext b
  by_cases hb : b = p
  · rw [hb, del_same, upd_ne n.symm, del_same]
  · rw [del_ne hb]
    by_cases hd : b = D
    · rw [hd, upd_same, upd_same]
    · rw [upd_ne hd, upd_ne hd, del_ne hb]
theorem KdOk.left {t x : Th} (h : KdOk t) (hx : x ∈ t.lefts) : KdOk x := ⟨Th.lefts_any h.1 x hx, by have := Th.lefts_depth hx; have := h.2.1; omega, by have := Th.lefts_size hx; have := h.2.2; omega⟩
def PgH (K : PySem.W.Frag) (H : Hp) (p a : Addr) (ws : List Wd) : Prop := ∃ vs, H a = some (.tup vs) ∧ WdsAt K (del H p) ws vs
/-- while a program is drawn -/
structure FitI (K : PySem.W.Frag) (H H' : Hp) (p c : Addr) (cells : List Int) (di tk : Addr) (m : Nat) (kvs : List (Key × V)) (tw : List Wd) : Prop where
  hand : HandAt H' p c cells
  same : Same (del H p) (del H' p)
  dOf : H' di = some (.dK kvs)
  dp : di ≠ p
  ind : InD K (del H' p) kvs
  len : kvs.length ≤ m
  tks : PgH K H' p tk tw
  ok : Tks tw
theorem FitI.mono {K : PySem.W.Frag} {H H' H2 : Hp} {p c : Addr} {cells : List Int} {di tk : Addr} {m : Nat} {kvs : List (Key × V)} {tw : List Wd} (h : FitI K H H' p c cells di tk m kvs tw) (hA : HandAt H2 p c cells) (s : Same (del H' p) (del H2 p)) : FitI K H H2 p c cells di tk m kvs tw := by
  obtain ⟨vs, h1, h2⟩ := h.tks
  have ntk : tk ≠ p := by
    obtain ⟨l, e⟩ := h.hand.some
    rintro rfl
    rw [h1] at e; cases e
  exact ⟨hA, same_trans h.same s, stays s h.dp h.dOf, h.dp, h.ind.same s, h.len, ⟨vs, stays s ntk h1, h2.same s⟩, h.ok⟩
section
variable {P : Program} {w : World} {K : PySem.W.Frag} {mg : Str → Option Value} {base : Heap}
theorem scLFit : FnScope ["_law_hand_here", "_law_known_here", "_law_kind_here", "_law_deep", "_law_lefts", "_law_end", "_law_inner", "_law_taken", "_law_left", "_law_name", "_law_some_here", "_law_found", "_law_wider", "_law_body"] ["_law_hand_here", "_law_known_here", "_law_kind_here", "_law_deep"] (defScope sLFit) := ⟨rfl, rfl, rfl, by decide +kernel, rfl, by decide +kernel, by decide +kernel⟩
theorem ok_lfit1 {f fD fS fK fE fH : Addr} {fd fdD fdS fdK fdE fdH : FuncData} {d n : Nat} {spR : Sp} (F : Fn K mg "_law_fit" sLFit ["_law_hand_here", "_law_known_here", "_law_kind_here", "_law_deep"] f fd) (ND : Fn K mg "_law_draw" sDraw ["_law_hand_here", "_law_many"] fD fdD) (NS : Fn K mg "_law_some" sSome ["_law_hand_here", "_law_things"] fS fdS)
    (NK : Fn K mg "_law_kind" sKd ["_law_hand_here", "_law_deep"] fK fdK) (NE : Fn K mg "_law_ends" sLEnds ["_law_kind_here"] fE fdE) (NH : Fn K mg "_law_heads" sHeads ["_law_inner", "_law_end", "_law_deep"] fH fdH) (T : TxB mg) (T2 : TxD mg)
    (G : FnOk P w K mg base CX0 n f fd ["_law_hand_here", "_law_known_here", "_law_kind_here", "_law_deep"] spR) (hG : ∀ d', d = d' + 1 → spR = spLFit K d') (hn : 3 ≤ n) (hd : d ≤ 3) : FnOk P w K mg base CX0 (n + 1) f fd ["_law_hand_here", "_law_known_here", "_law_kind_here", "_law_deep"] (spLFit K d) := by
  have GD : FnOk P w K mg base CX0 1 fD fdD ["_law_hand_here", "_law_many"] spDraw := ok_draw ND.F T
  have GS : FnOk P w K mg base CX0 2 fS fdS ["_law_hand_here", "_law_things"] (spSome K) := ok_some NS.F T ND.F ND.b ND.m
  have GK : FnOk P w K mg base CX0 3 fK fdK ["_law_hand_here", "_law_deep"] (spKd K 1) := ok_kd NK ND T 1
  have GE : FnOk P w K mg base CX0 1 fE fdE ["_law_kind_here"] (spLEnds K) := ok_lends NE T T2
  have GH : FnOk P w K mg base CX0 2 fH fdH ["_law_inner", "_law_end", "_law_deep"] (spHeads K) := ok_heads NH NE T T2
  refine F.F.ok scLFit (fun vs H Q E h => ?_) (fun cdv A outer s H vs Q E hr h => ?_)
  · obtain ⟨_, _, _, _, _, _, _, rfl, _⟩ := h
    rfl
  · obtain ⟨p, c, kd, cells, kvs, t, v, rfl, hA, hkd, nkp, hin, hl, hv, ko, kq⟩ := h
    have nd := scLFit.nd
    have hu := hu_of hr
    have hr1 := hr.mono (show 1 ≤ n by omega)
    have hr2 := hr.mono (show 2 ≤ n by omega)
    have hr3 := hr.mono hn
    refine ⟨_, pss_cons (ps_asg (pe_call GE hr1 (by rfl) NE.m NE.F.kp NE.b .nil pass0 (pa_cons (pv 2) pa_nil)) (pg_tup rfl (pgs_cons (pg_name (i := 4) nd rfl (Or.inl rfl)) (pgs_cons (pg_name (i := 5) nd rfl (Or.inl rfl)) pgs_nil))))
      (pss_cons (ps_set (i := 6) nd rfl (Or.inl rfl) (pe_callTy call_dictD (by rfl) T2.dict (by decide +kernel) (pa_cons (pv 1) pa_nil)))
      (pss_cons (ps_set (i := 7) nd rfl (Or.inl rfl) (pe_tup pa_nil))
      (Evl.pss_cut (ps_for PassesOwn.never rfl (pi_list (pv 4)) (pg_name (i := 8) nd rfl (Or.inl rfl))
        (pss_cons (ps_set (i := 9) nd rfl (Or.inl rfl) (pe_call GS hr2 (by rfl) NS.m NS.F.kp NS.b .nil pass0 (pa_cons (pv 0) (pa_cons (pe_lst (pa_cons pe_str (pa_cons pe_str (pa_cons pe_str (pa_cons pe_str (pa_cons pe_str (pa_cons pe_str pa_nil))))))) pa_nil))))
        (pss_cons (ps_set (i := 7) nd rfl (Or.inl rfl) (pe_op op_catA (pv 7) (pe_tup (pa_cons (pe_tup (pa_cons (pv 9) (pa_cons (pv 8) pa_nil))) pa_nil))))
        (pss_one (ps_dput hu (pv 6) (pv 9) (pv 8) rfl)))))
      (Evl.pss_cut (ps_set (i := 10) nd rfl (Or.inl rfl) (pe_call GH hr2 (by rfl) NH.m NH.F.kp NH.b .nil pass0 (pa_cons (pv 6) (pa_cons (pv 5) (pa_cons (pv 3) pa_nil)))))
      (pss_cons (ps_if (pt_cmpR op_eq (pe_callB call_len_seq (by rfl) T.len PySem.boot_len (pa_cons (pv 10) pa_nil)) pe_int (nomark _))
        (pss_one (ps_ret (pe_op op_catA (pv 7) (pe_tup (pa_cons (pe_call GS hr2 (by rfl) NS.m NS.F.kp NS.b .nil pass0 (pa_cons (pv 0) (pa_cons (pe_op op_cat (pe_callB (call_sortedD rfl) (by rfl) T2.sorted (by decide +kernel) (pa_cons (pv 6) pa_nil)) (pe_lst (pa_cons pe_str pa_nil))) pa_nil))) pa_nil))))) pss_nil)
      (pss_cons (ps_set (i := 9) nd rfl (Or.inl rfl) (pe_call GS hr2 (by rfl) NS.m NS.F.kp NS.b .nil pass0 (pa_cons (pv 0) (pa_cons (pv 10) pa_nil))))
      (pss_cons (ps_set (i := 11) nd rfl (Or.inl rfl) (pe_tup (pa_cons (pv 9) pa_nil)))
      (Evl.pss_cut (ps_for PassesOwn.never rfl (pi_list (pe_ix ix_tup (pe_call GE hr1 (by rfl) NE.m NE.F.kp NE.b .nil pass0 (pa_cons (pe_dget hu (pv 6) (pv 9) (fun _ _ => rfl)) pa_nil)) pe_int (fun _ _ => rfl))) (pg_name (i := 8) nd rfl (Or.inl rfl))
        (pss_one (ps_set (i := 11) nd rfl (Or.inl rfl) (pe_op op_catA (pe_op op_catA (pe_tup (pa_cons pe_str pa_nil)) (pv 11)) (pe_call G hr (by rfl) F.m F.F.kp F.b .nil pass0 (pa_cons (pv 0) (pa_cons (pv 6) (pa_cons (pv 8) (pa_cons (pe_op op_sub (pv 3) pe_int) pa_nil)))))))))
      (Evl.pss_cut (ps_if (PW.pt (pw_and (pt_cmpR op_gt (pv 3) pe_int (nomark _)) (pw_and1 (pt_cmpR op_eq (pe_call GD hr1 (by rfl) ND.m ND.F.kp ND.b .nil pass0 (pa_cons (pv 0) (pa_cons pe_int pa_nil))) pe_int (nomark _)))))
        (pss_cons (ps_par (i := 9) (j := 8) (by rfl) nd rfl rfl (by decide) rfl rfl (pa_cons (pe_call GS hr2 (by rfl) NS.m NS.F.kp NS.b .nil pass0 (pa_cons (pv 0) (pa_cons (pe_lst (pa_cons pe_str (pa_cons pe_str (pa_cons pe_str pa_nil)))) pa_nil))) (pa_cons (pe_call GK hr3 (by rfl) NK.m NK.F.kp NK.b .nil pass0 (pa_cons (pv 0) (pa_cons pe_int pa_nil))) pa_nil)) (by rfl))
        (pss_cons (ps_set (i := 12) nd rfl (Or.inl rfl) (pe_callTy call_dictD (by rfl) T2.dict (by decide +kernel) (pa_cons (pv 6) pa_nil)))
        (pss_cons (ps_dput hu (pv 12) (pv 9) (pv 8) rfl)
        (pss_cons (ps_set (i := 13) nd rfl (Or.inl rfl) (pe_call G hr (by rfl) F.m F.F.kp F.b .nil pass0 (pa_cons (pv 0) (pa_cons (pv 12) (pa_cons (pv 5) (pa_cons (pe_op op_sub (pv 3) pe_int) pa_nil))))))
        (pss_one (ps_set (i := 11) nd rfl (Or.inl rfl) (pe_op op_catA (pe_op op_catA (pe_tup (pa_cons pe_str (pa_cons (pe_tup (pa_cons (pv 9) (pa_cons (pv 8) pa_nil))) pa_nil))) (pv 13)) (pe_call G hr (by rfl) F.m F.F.kp F.b .nil pass0 (pa_cons (pv 0) (pa_cons (pv 6) (pa_cons (pv 8) (pa_cons (pe_op op_sub (pv 3) pe_int) pa_nil)))))))))))) pss_nil)
      (pss_one (ps_ret (pe_op op_catA (pv 7) (pv 11))))))))))))), ?_⟩
    refine ⟨_, rfl, v, t, del H p, rfl, hv, del_le, by have := ko.2.2; omega, ko.1, fun ps ev p0 q0 H1 eps hps hev s1 hp0 hq0 gp0 gq0 => ?_⟩
    obtain ⟨e, rfl⟩ := fin_int ko.1 hev
    have ke : KdOk (.int e) := by
      have l := Th.fin_letter ko.1
      cases q : t.fin with
      | int i =>
        rw [q] at l hev
        have : V.int e = V.int i := hev
        cases this
        exact ⟨l, Nat.zero_le _, (by show 1 < 8; decide)⟩
      | bl b => rw [q] at l; cases l
      | non => rw [q] at l; cases l
      | tup => rw [q] at l; cases l
      | pr x y => rw [q] at l; cases l
    have pl : ps.length ≤ 2 := by have := congrArg List.length eps; rw [List.length_map] at this; have := Th.lefts_len (t := t); have := ko.2.1; omega
    have psk : ∀ s ∈ ps, KdOk s.1 := fun s hs => ko.left (by rw [← eps]; exact List.mem_map.mpr ⟨s, hs, rfl⟩)
    have hA1 := hA.same s1
    have nq0 : q0 ≠ p := hA.fresh hq0
    refine ⟨p0, _, rfl, SqT.of gp0, rfl, _, _, rfl, _, _, rfl, rfl, ?_⟩
    refine ⟨_, rfl, kd, kvs, rfl, .inl (s1 _ _ hkd), fun di hdi => ?_⟩
    have fdi : H di = none := same_none s1 hdi
    have ndp : di ≠ p := hA.fresh fdi
    have ndc : di ≠ c := fun z => by rw [z, hA.cl] at fdi; cases fdi
    have s2 := same_new (o := .dK kvs) s1 hdi
    have d2 : upd H1 di (.dK kvs) di = some (.dK kvs) := upd_same
    have q2 : upd H1 di (.dK kvs) q0 = some (.lst (ps.map (·.2))) := by rw [upd_ne (ne_of_none gq0 hdi)]; exact gq0
    generalize upd H1 di (.dK kvs) = H2 at s2 d2 q2
    refine ⟨(by show 0 ≤ sizeLine; decide), fun tk htk => ?_⟩
    have ftk : H tk = none := same_none s2 htk
    have s3 := same_new (o := .tup []) s2 htk
    have d3 : upd H2 tk (.tup []) di = some (.dK kvs) := by rw [upd_ne (ne_of_none d2 htk)]; exact d2
    have q3 : upd H2 tk (.tup []) q0 = some (.lst (ps.map (·.2))) := by rw [upd_ne (ne_of_none q2 htk)]; exact q2
    have t3 : upd H2 tk (.tup []) tk = some (.tup []) := upd_same
    have q0d : q0 ≠ di := ne_of q3 d3 (fun z => by cases z)
    generalize upd H2 tk (.tup []) = H3 at s3 d3 q3 t3
    refine ⟨fun σ' H' => ∃ (tk : Addr) (t8 t9 : Option V) (kvs' : List (Key × V)) (tw : List Wd), σ' = [some (.ref p), some (.ref kd), some v, some (.int (d : Int)), some (.ref q0), some (.int e), some (.ref di), some (.ref tk), t8, t9, none, none, none, none] ∧ FitI K H H' p c cells di tk (kvs.length + 2) kvs' tw ∧ tw.length ≤ 2, ?_, ?_⟩
    · refine ⟨_, rfl, q0, rfl, ⟨_, SqL.of q3⟩, ?_⟩
      refine for_it walk_list (fun i σ H' => ∃ (tk : Addr) (t8 t9 : Option V) (kvs' : List (Key × V)) (tw : List Wd) (vs : List V), σ = [some (.ref p), some (.ref kd), some v, some (.int (d : Int)), some (.ref q0), some (.int e), some (.ref di), some (.ref tk), t8, t9, none, none, none, none] ∧ HandAt H' p c cells ∧ Same (del H p) (del H' p) ∧ H' q0 = some (.lst (ps.map (·.2))) ∧ H' di = some (.dK kvs') ∧ InD K (del H p) kvs' ∧ kvs'.length ≤ kvs.length + i ∧ H' tk = some (.tup vs) ∧ WdsAt K (del (del H' p) di) tw vs ∧ Tks tw ∧ tw.length = i)
        ⟨tk, none, none, kvs, [], [], rfl, hA.same s3, del_same_of s3, q3, d3, hin, Nat.le_refl _, t3, WdsAt.nil, (fun w h => by cases h), rfl⟩ (fun i σ H' _ ⟨_, _, _, _, _, _, _, _, _, h, _⟩ => SqL.of h) ?_ ?_
      · rintro i x σ _ H' hi ⟨tk, t8, t9, kvs', tw, vs, rfl, a1, a2, a3, a4, a5, a6, a7, a8, a9, a10⟩ ⟨rfl, hx⟩
        rw [List.length_map] at hi
        obtain ⟨sx, hsx⟩ : ∃ sx, ps[i]? = some sx := ⟨_, List.getElem?_eq_getElem hi⟩
        rw [List.getElem?_map, hsx] at hx
        cases hx
        have hs := List.mem_of_getElem? hsx
        have ddi : del H p di = none := by rw [del_ne ndp]; exact fdi
        refine ⟨_, rfl, (by show 6 ≤ sizeLine; decide), fun l0 hl0 => ?_⟩
        have nl0 := a1.fresh hl0
        refine ⟨p, c, l0, cells, sixN, rfl, a1.same (same_new (same_refl _) hl0), SqL.of upd_same, nl0, by decide, by decide, fun k y H5 hk hA5 o5 => ?_⟩
        obtain ⟨z, rfl, hz⟩ := sixN_ok y (List.mem_of_getElem? hk)
        have s5 : Same (del H' p) (del H5 p) := same_trans (del_same_of (same_new (same_refl _) hl0)) (del_off o5)
        have ntk : tk ≠ p := by
          obtain ⟨l, e⟩ := a1.some
          rintro rfl
          rw [a7] at e; cases e
        refine ⟨_, rfl, _, rfl, _, rfl, (by show 2 ≤ sizeLine; decide), fun x1 hx1 => ?_⟩
        have n1 := hA5.fresh hx1
        have hA6 := hA5.same (same_new (o := .tup [.str z, sx.2]) (same_refl _) hx1)
        have s6 := newOff (o := .tup [.str z, sx.2]) s5 hx1
        have f1 : upd H5 x1 (.tup [.str z, sx.2]) x1 = some (.tup [.str z, sx.2]) := upd_same
        generalize upd H5 x1 (.tup [.str z, sx.2]) = H6 at hA6 s6 f1
        refine ⟨(by show 1 ≤ sizeLine; decide), fun x2 hx2 => ?_⟩
        have n2 := hA6.fresh hx2
        have hA7 := hA6.same (same_new (o := .tup [.ref x1]) (same_refl _) hx2)
        have s7 := newOff (o := .tup [.ref x1]) s6 hx2
        have f2 : upd H6 x2 (.tup [.ref x1]) x2 = some (.tup [.ref x1]) := upd_same
        have f3 : upd H6 x2 (.tup [.ref x1]) x1 = some (.tup [.str z, sx.2]) := by rw [upd_ne (ne_of_none f1 hx2)]; exact f1
        generalize upd H6 x2 (.tup [.ref x1]) = H7 at hA7 s7 f2 f3
        have fin : ∀ (tk2 : Addr) (H8 : Hp), HandAt H8 p c cells → Same (del H7 p) (del H8 p) → H8 tk2 = some (.tup (vs ++ [.ref x1])) → ∃ (u1 : Addr) (u2 u3 : Option V) (u4 : List (Key × V)) (u5 : List Wd) (u6 : List V), [some (V.ref p), some (.ref kd), some v, some (.int (d : Int)), some (.ref q0), some (.int e), some (.ref di), some (.ref tk2), some sx.2, some (.str z), none, none, none, none] = [some (.ref p), some (.ref kd), some v, some (.int (d : Int)), some (.ref q0), some (.int e), some (.ref di), some (.ref u1), u2, u3, none, none, none, none] ∧
            HandAt (upd H8 di (.dK (putK kvs' (.inr z) sx.2))) p c cells ∧ Same (del H p) (del (upd H8 di (.dK (putK kvs' (.inr z) sx.2))) p) ∧ upd H8 di (.dK (putK kvs' (.inr z) sx.2)) q0 = some (.lst (ps.map (·.2))) ∧ upd H8 di (.dK (putK kvs' (.inr z) sx.2)) di = some (.dK u4) ∧ InD K (del H p) u4 ∧ u4.length ≤ kvs.length + (i + 1) ∧ upd H8 di (.dK (putK kvs' (.inr z) sx.2)) u1 = some (.tup u6) ∧ WdsAt K (del (del (upd H8 di (.dK (putK kvs' (.inr z) sx.2))) p) di) u5 u6 ∧ Tks u5 ∧ u5.length = i + 1 := fun tk2 H8 b1 b2 b3 => by
          have s8 : Same (del H' p) (del H8 p) := same_trans s7 b2
          have x1p : H8 x1 = some (.tup [.str z, sx.2]) := stays b2 n1 f3
          have d8 : H8 di = some (.dK kvs') := stays s8 ndp a4
          have ntd : tk2 ≠ di := ne_of b3 d8 (fun z => by cases z)
          have x1d : x1 ≠ di := ne_of x1p d8 (fun z => by cases z)
          have base : Same (del H p) (del (del H8 p) di) := fun b o r => by
            have r2 := (same_trans a2 s8) b o r
            rw [del_ne (ne_of_none r ddi)]; exact r2
          refine ⟨tk2, _, _, putK kvs' (.inr z) sx.2, tw ++ [.pr (some z) sx.1], vs ++ [.ref x1], rfl, b1.upd ndp ndc, same_upd (same_trans a2 s8) ddi, by rw [upd_ne q0d]; exact stays s8 nq0 a3, upd_same, a5.put hz (hps sx hs) (psk sx hs), Nat.le_trans (length_putK _ _ _) (by omega), by rw [upd_ne ntd]; exact b3, ?_, fun y hy => ?_, by rw [List.length_append, List.length_singleton, a10]⟩
          · rw [del_upd ndp]
            have w8 : WdsAt K (del (del H8 p) di) (tw ++ [.pr (some z) sx.1]) (vs ++ [.ref x1]) := (a8.same (del_same_of s8)).app (WdsAt.one (WdAt.tk hz (by rw [del_ne x1d, del_ne n1]; exact x1p) ((hps sx hs).same base) (by have := (psk sx hs).2.2; omega)))
            exact w8.same (same_dd (same_refl _))
          · rcases List.mem_append.mp hy with r | r
            · exact a9 y r
            · rw [List.mem_singleton] at r
              rw [r]; exact ⟨z, sx.1, rfl, hz, (psk sx hs).1⟩
        have t7 : H7 tk = some (.tup vs) := stays s7 ntk a7
        have d7 : H7 di = some (.dK kvs') := stays s7 ndp a4
        have vl : vs.length ≤ 2 := by rw [a8.1]; omega
        have kl : kvs'.length < 3000 := by omega
        refine ⟨tk, x2, vs, _, rfl, rfl, SqT.of t7, SqT.of f2, (by show vs.length + 1 ≤ sizeLine; exact big2 (by omega)), fun hv0 => ?_, (fun _ h => by cases h), fun _ _ x3 hx3 => ?_⟩
        · subst hv0
          exact ⟨_, rfl, _, rfl, _, rfl, di, _, rfl, DPut.k (k := .inr z) d7 (room2 (by omega)), fin x2 H7 hA7 (same_refl _) f2⟩
        · have n3 : di ≠ x3 := ne_of_none d7 hx3
          have hA8 := hA7.same (same_new (o := .tup (vs ++ [.ref x1])) (same_refl _) hx3)
          have s8 := newOff (o := .tup (vs ++ [.ref x1])) (same_refl (del H7 p)) hx3
          have d8 : upd H7 x3 (.tup (vs ++ [.ref x1])) di = some (.dK kvs') := by rw [upd_ne n3]; exact d7
          exact ⟨_, rfl, _, rfl, _, rfl, di, _, rfl, DPut.k (k := .inr z) d8 (room2 (by omega)), fin x3 _ hA8 s8 upd_same⟩
      · rintro σ H' ⟨tk, t8, t9, kvs', tw, vs, rfl, a1, a2, a3, a4, a5, a6, a7, a8, a9, a10⟩
        rw [List.length_map] at a6 a10
        exact ⟨tk, t8, t9, kvs', tw, rfl, ⟨a1, a2, a4, ndp, a5.same a2, by omega, ⟨vs, a7, a8.same del_le⟩, a9⟩, by omega⟩
    · rintro σ H4 ⟨tk, t8, t9, kvs', tw, rfl, I, twl⟩
      have fins : ∀ (H8 : Hp) (fa : Addr) (ws : List Wd) (fvs : List V), HandAt H8 p c cells → Same (del H4 p) (del H8 p) → H8 fa = some (.tup fvs) → WdsAt K (del H8 p) ws fvs → One ws → ws.length + 2 ≤ szF d → rCatA K (.ref tk) (.ref fa) H8 Q := fun H8 fa ws fvs b1 b2 b3 b4 b5 b6 => by
        have J := I.mono b1 b2
        obtain ⟨vs, h1, h2⟩ := J.tks
        have sz3 : szF d ≤ 339 := by
          have : d = 0 ∨ d = 1 ∨ d = 2 ∨ d = 3 := by omega
          rcases this with rfl | rfl | rfl | rfl <;> decide
        have o := One.takes J.ok b5
        have ll : (tw ++ ws).length ≤ szF d := by rw [List.length_append]; omega
        refine ⟨tk, fa, vs, fvs, rfl, rfl, SqT.of h1, SqT.of b3, by rw [h2.1, b4.1]; exact big2 (by omega), fun e0 => ?_, fun _ e0 => ?_, fun _ _ r hr => ?_⟩
        · have e1 : tw = [] := List.eq_nil_of_length_eq_zero (by rw [← h2.1, e0]; rfl)
          rw [e1, List.nil_append] at o
          exact kq ws fa fvs H8 b1 J.same b3 b4 o (by omega)
        · exact absurd (List.eq_nil_of_length_eq_zero (by rw [← b4.1, e0]; rfl)) b5.ne
        · exact kq (tw ++ ws) r _ _ (b1.same (same_new (same_refl _) hr)) (newOff J.same hr) upd_same ((h2.app b4).same (del_same_of (same_new (same_refl _) hr))) o ll
      refine ⟨fun σ' H' => ∃ (sl : Addr) (xs : List Str), σ' = [some (.ref p), some (.ref kd), some v, some (.int (d : Int)), some (.ref q0), some (.int e), some (.ref di), some (.ref tk), t8, t9, some (.ref sl), none, none, none] ∧ Same H4 H' ∧ H' sl = some (.lst (xs.map V.str)) ∧ sl ≠ p ∧ xs.length < 60 ∧ ∀ z ∈ xs, nameB z = true ∧ ∃ t v, valV kvs' (.inr z) = some v ∧ ThAt K (del H4 p) t v ∧ KdOk t ∧ (d = 0 → t.isPr = false), ?_, ?_⟩
      · refine ⟨_, rfl, _, rfl, _, rfl, di, e, d, kvs', del H4 p, rfl, I.dOf, I.ind, del_le, by have := I.len; omega, fun sl H5 xs hsl s5 sl5 xl xok => ?_⟩
        exact ⟨sl, xs, rfl, s5, sl5, I.hand.fresh hsl, xl, xok⟩
      · rintro σ H5 ⟨sl, xs, rfl, s5, sl5, slp, xl, xok⟩
        have J := I.mono (I.hand.same s5) (del_same_of s5)
        refine ⟨_, rfl, _, _, rfl, .inl (SqL.of sl5), rfl, _, rfl, ?_⟩
        rw [List.length_map]
        refine ite2 (fun cz => ?_) (fun cz => ?_)
        · obtain ⟨ks, ek, hk⟩ := J.ind.names
          have kl : ks.length < 60 := by have := congrArg List.length ek; rw [List.length_map, List.length_map] at this; have := J.len; omega
          refine ⟨_, rfl, _, rfl, _, rfl, di, kvs', ks, rfl, .inl J.dOf, ek, by omega, fun ys q pm _ hq => ?_⟩
          have yl : ys.length < 60 := by rw [pm.length_eq]; exact kl
          have g1 := same_new (o := .lst (ys.map V.str)) (same_refl H5) hq
          refine ⟨(by show 1 ≤ sizeLine; decide), fun l1 hl1 => ?_⟩
          have g2 := same_new (o := .lst [.str "w"]) g1 hl1
          have e1 : upd (upd H5 q (.lst (ys.map V.str))) l1 (.lst [.str "w"]) q = some (.lst (ys.map V.str)) := by rw [upd_ne (ne_of_none upd_same hl1)]; exact upd_same
          have e2 : upd (upd H5 q (.lst (ys.map V.str))) l1 (.lst [.str "w"]) l1 = some (.lst [.str "w"]) := upd_same
          generalize upd (upd H5 q (.lst (ys.map V.str))) l1 (.lst [.str "w"]) = H6 at g2 e1 e2
          refine ⟨q, l1, _, _, rfl, rfl, e1, e2, (by rw [List.length_map]; show ys.length + 1 ≤ sizeLine; exact big2 (by omega)), fun r hr => ?_⟩
          have g3 := same_new (o := .lst (ys.map V.str ++ [.str "w"])) g2 hr
          have hA6 := J.hand.same g3
          have nm : NmL (ys.map V.str ++ [.str "w"]) := fun y hy => by
            rcases List.mem_append.mp hy with m | m
            · obtain ⟨z, mz, rfl⟩ := List.mem_map.mp m
              exact ⟨z, rfl, (hk z (pm.mem_iff.mp mz)).1⟩
            · rw [List.mem_singleton] at m
              exact ⟨_, m, by decide +kernel⟩
          refine ⟨p, c, r, cells, _, rfl, hA6, SqL.of upd_same, J.hand.fresh (same_none g2 hr), (by rw [List.length_append]; show 0 < _ + 1; omega), (by rw [List.length_append, List.length_map]; show ys.length + 1 < 1000; omega), fun k y H7 hk7 hA7 o7 => ?_⟩
          obtain ⟨z, rfl, hz⟩ := nm y (List.mem_of_getElem? hk7)
          refine ⟨(by show 1 ≤ sizeLine; decide), fun a ha => ?_⟩
          have s57 : Same (del H4 p) (del H7 p) := same_trans (del_same_of (same_trans s5 g3)) (del_off o7)
          exact fins _ a [.st z] _ (hA7.same (same_new (same_refl _) ha)) (newOff s57 ha) upd_same (WdsAt.one (WdAt.nm hz)) (One.name hz) (by have := szF_ge d; show 1 + 2 ≤ szF d; omega)
        · have x0 : 0 < xs.length := by
            rcases Nat.eq_zero_or_pos xs.length with r | r
            · exact absurd (decide_eq_true (by rw [r]; rfl)) cz
            · exact r
          refine ⟨_, rfl, _, rfl, p, c, sl, cells, _, rfl, J.hand, SqL.of sl5, slp, (by rw [List.length_map]; exact x0), (by rw [List.length_map]; omega), fun k y H6 hk6 hA6 o6 => ?_⟩
          obtain ⟨z, mz, rfl⟩ := List.mem_map.mp (List.mem_of_getElem? hk6)
          obtain ⟨nz, th, vh, hvh, tth, koh, hd0⟩ := xok z mz
          have s6 : Same (del H4 p) (del H6 p) := same_trans (del_same_of s5) (del_off o6)
          refine ⟨_, rfl, (by show 1 ≤ sizeLine; decide), fun f0 hf0 => ?_⟩
          have hA7 := hA6.same (same_new (o := .tup [.str z]) (same_refl _) hf0)
          have s7 := newOff (o := .tup [.str z]) s6 hf0
          have g7 : upd H6 f0 (.tup [.str z]) f0 = some (.tup [.str z]) := upd_same
          have f0p := hA6.fresh hf0
          generalize upd H6 f0 (.tup [.str z]) = H7 at hA7 s7 g7
          have J7 := I.mono hA7 s7
          have gd : DGet H7 di (kV (.inr z)) (some vh) := by rw [← hvh]; exact DGet.k J7.dOf
          refine ⟨fun σ' H' => ∃ (t8 : Option V) (fa : Addr) (ws : List Wd) (fvs : List V), σ' = [some (.ref p), some (.ref kd), some v, some (.int (d : Int)), some (.ref q0), some (.int e), some (.ref di), some (.ref tk), t8, some (.str z), some (.ref sl), some (.ref fa), none, none] ∧ HandAt H' p c cells ∧ Same (del H4 p) (del H' p) ∧ H' fa = some (.tup fvs) ∧ WdsAt K (del H' p) ws fvs ∧ One ws ∧ ws.length + 2 ≤ szF d, ?_, ?_⟩
          · refine ⟨_, rfl, _, rfl, di, _, rfl, gd, vh, th, del H4 p, rfl, tth, same_trans s7 del_le, by have := koh.2.2; omega, koh.1, fun ps2 ev2 pp qq H8 eps2 hps2 hev2 s78 hpp hqq gpp gqq => ?_⟩
            have pl2 : ps2.length ≤ 2 := by have := congrArg List.length eps2; rw [List.length_map] at this; have := Th.lefts_len (t := th); have := koh.2.1; omega
            have psk2 : ∀ s ∈ ps2, KdOk s.1 := fun s hs => koh.left (by rw [← eps2]; exact List.mem_map.mpr ⟨s, hs, rfl⟩)
            have qqp := hA7.fresh hqq
            have hA8 := hA7.same s78
            have s8 : Same (del H4 p) (del H8 p) := same_trans s7 (del_same_of s78)
            refine ⟨pp, _, _, _, rfl, rfl, SqT.of gpp, rfl, qq, rfl, ⟨_, SqL.of gqq⟩, ?_⟩
            refine for_it walk_list (fun i σ' H' => ∃ (t8 : Option V) (fa : Addr) (ws : List Wd) (fvs : List V), σ' = [some (.ref p), some (.ref kd), some v, some (.int (d : Int)), some (.ref q0), some (.int e), some (.ref di), some (.ref tk), t8, some (.str z), some (.ref sl), some (.ref fa), none, none] ∧ HandAt H' p c cells ∧ Same (del H4 p) (del H' p) ∧ H' qq = some (.lst (ps2.map (·.2))) ∧ H' fa = some (.tup fvs) ∧ fa ≠ p ∧ WdsAt K (del H' p) ws fvs ∧ One ws ∧ ws.length ≤ 1 + i * (1 + szF (d - 1)))
              ⟨t8, f0, [.st z], _, rfl, hA8, s8, gqq, s78 _ _ g7, f0p, WdsAt.one (WdAt.nm nz), One.name nz, by show 1 ≤ 1 + 0 * _; omega⟩ (fun i σ' H' _ ⟨_, _, _, _, _, _, _, h, _⟩ => SqL.of h) ?_ ?_
            · rintro i x σ' Hq H' hi ⟨t8, fa, ws, fvs, rfl, a1, a2, a3, a4, a4p, a5, a6, a7⟩ ⟨rfl, hx⟩
              rw [List.length_map] at hi
              obtain ⟨sx, hsx⟩ : ∃ sx, ps2[i]? = some sx := ⟨_, List.getElem?_eq_getElem hi⟩
              rw [List.getElem?_map, hsx] at hx
              cases hx
              have hs := List.mem_of_getElem? hsx
              obtain ⟨d', rfl⟩ : ∃ d', d = d' + 1 := by
                refine ⟨d - 1, ?_⟩
                have : d ≠ 0 := fun r => by
                  have np := hd0 r
                  have : th.lefts = [] := by cases th <;> first | rfl | cases np
                  rw [this] at eps2
                  have := List.map_eq_nil_iff.mp eps2
                  rw [this] at hi
                  exact (absurd hi (Nat.not_lt_zero _))
                omega
              have eR := hG d' rfl
              subst eR
              have ed : ((d' + 1 : Nat) : Int) - 1 = (d' : Int) := by omega
              have sS : szF d' ≤ 83 := by
                have : d' = 0 ∨ d' = 1 ∨ d' = 2 := by omega
                rcases this with rfl | rfl | rfl <;> decide
              have e2 : d' + 1 - 1 = d' := rfl
              rw [e2] at a7 ⊢
              have i2 : i < 2 := by omega
              have a7' : ws.length ≤ 1 + 1 * (1 + szF d') := Nat.le_trans a7 (Nat.add_le_add_left (Nat.mul_le_mul_right _ (by omega)) 1)
              have f0v : fvs ≠ [] := fun q => a6.ne (List.eq_nil_of_length_eq_zero (by rw [← a5.1, q]; rfl))
              refine ⟨(by show 1 ≤ sizeLine; decide), fun u1 hu1 => ?_⟩
              have n1 := a1.fresh hu1
              have hAa := a1.same (same_new (o := .tup [.str "@"]) (same_refl _) hu1)
              have sa := newOff (o := .tup [.str "@"]) (same_refl (del H' p)) hu1
              have ga : upd H' u1 (.tup [.str "@"]) u1 = some (.tup [.str "@"]) := upd_same
              have fa1 := stays sa a4p a4
              refine ⟨_, rfl, u1, fa, _, fvs, rfl, rfl, SqT.of ga, SqT.of fa1, (by rw [a5.1]; show 1 + ws.length ≤ sizeLine; exact big2 (by omega)), (fun h => by cases h), (fun _ h => absurd h f0v), fun _ _ u2 hu2 => ?_⟩
              have n2 := hAa.fresh hu2
              have hAb := hAa.same (same_new (o := .tup ([.str "@"] ++ fvs)) (same_refl _) hu2)
              have sb := newOff (o := .tup ([.str "@"] ++ fvs)) sa hu2
              have gb : upd (upd H' u1 (.tup [.str "@"])) u2 (.tup ([.str "@"] ++ fvs)) u2 = some (.tup ([.str "@"] ++ fvs)) := upd_same
              have Jb := I.mono hAb (same_trans a2 sb)
              refine ⟨_, rfl, _, rfl, _, rfl, _, rfl, _, _, rfl, rfl, p, c, di, cells, kvs', sx.1, sx.2, (by show [V.ref p, V.ref di, sx.2, V.int (((d' + 1 : Nat) : Int) - 1)] = _; rw [ed]), hAb, Jb.dOf, Jb.dp, Jb.ind, by have := Jb.len; omega, (hps2 sx hs).same (same_trans a2 sb), psk2 sx hs, fun ws2 a2' vs2 Hc hAc sbc hc wc oc lc => ?_⟩
              have v2 : vs2 ≠ [] := fun q => oc.ne (List.eq_nil_of_length_eq_zero (by rw [← wc.1, q]; rfl))
              have ww := ((WdsAt.one WdAt.us).app ((a5.same sb).same sbc)).app wc
              refine ⟨u2, a2', _, vs2, rfl, rfl, SqT.of (stays sbc n2 gb), SqT.of hc, (by rw [List.length_append, a5.1, wc.1]; show 1 + ws.length + ws2.length ≤ sizeLine; exact big2 (by omega)), (fun h => by cases h), (fun _ h => absurd h v2), fun _ _ u3 hu3 => ?_⟩
              have sc := newOff (o := .tup (([.str "@"] ++ fvs) ++ vs2)) (same_trans sb sbc) hu3
              refine ⟨_, u3, [.st "@"] ++ ws ++ ws2, _, rfl, hAc.same (same_new (same_refl _) hu3), same_trans a2 sc, stays sc qqp a3, upd_same, hAc.fresh hu3, ww.same (del_same_of (same_new (same_refl _) hu3)), ?_, ?_⟩
              · have := One.use a6 oc
                rwa [List.append_assoc]
              · rw [List.length_append, List.length_append, List.length_singleton, Nat.succ_mul]
                omega
            · rintro σ' H' ⟨t8, fa, ws, fvs, rfl, a1, a2, a3, a4, a4p, a5, a6, a7⟩
              rw [List.length_map] at a7
              refine ⟨t8, fa, ws, fvs, rfl, a1, a2, a4, a5, a6, ?_⟩
              by_cases r : d = 0
              · have np := hd0 r
                have : th.lefts = [] := by cases th <;> first | rfl | cases np
                rw [this] at eps2
                have := List.map_eq_nil_iff.mp eps2
                rw [this] at a7
                have := szF_ge d
                simp at a7
                omega
              · obtain ⟨d', rfl⟩ : ∃ d', d = d' + 1 := ⟨d - 1, by omega⟩
                have e1 : szF (d' + 1) = 7 + 4 * szF d' := rfl
                have e2 : d' + 1 - 1 = d' := rfl
                rw [e2] at a7
                have : ps2.length * (1 + szF d') ≤ 2 * (1 + szF d') := Nat.mul_le_mul_right _ pl2
                omega
          · rintro σ' H9 ⟨t8, fa, ws, fvs, rfl, a1, a2, a3, a4, a5, a6⟩
            refine ⟨fun σ' H' => ∃ (u8 u9 u12 u13 : Option V) (fa : Addr) (ws : List Wd) (fvs : List V), σ' = [some (.ref p), some (.ref kd), some v, some (.int (d : Int)), some (.ref q0), some (.int e), some (.ref di), some (.ref tk), u8, u9, some (.ref sl), some (.ref fa), u12, u13] ∧ HandAt H' p c cells ∧ Same (del H4 p) (del H' p) ∧ H' fa = some (.tup fvs) ∧ WdsAt K (del H' p) ws fvs ∧ One ws ∧ ws.length + 2 ≤ szF d, ?_, ?_⟩
            · refine ⟨_, rfl, _, _, rfl, rfl, _, rfl, ?_⟩
              refine ite2 (fun cd => ?_) (fun cd => ?_)
              · obtain ⟨d', rfl⟩ : ∃ d', d = d' + 1 := ⟨d - 1, by have := of_decide_eq_true cd; omega⟩
                have eR := hG d' rfl
                subst eR
                have ed : ((d' + 1 : Nat) : Int) - 1 = (d' : Int) := by omega
                have sS : szF d' ≤ 83 := by
                  have : d' = 0 ∨ d' = 1 ∨ d' = 2 := by omega
                  rcases this with rfl | rfl | rfl <;> decide
                have sE : szF (d' + 1) = 7 + 4 * szF d' := rfl
                refine ⟨_, rfl, p, c, cells, 6, rfl, a1, by decide, by decide, fun r1 Ha z0 z6 hAa oa => ?_⟩
                have sa : Same (del H4 p) (del Ha p) := same_trans a2 (del_off oa)
                refine ⟨rfl, _, rfl, ?_⟩
                refine ite2 (fun _ => ?_) (fun _ => ?_)
                · refine ⟨_, rfl, (by show 3 ≤ sizeLine; decide), fun l3 hl3 => ?_⟩
                  refine ⟨p, c, l3, cells, triN, rfl, hAa.same (same_new (same_refl _) hl3), SqL.of upd_same, hAa.fresh hl3, by decide, by decide, fun k y Hb hk3 hAb o3 => ?_⟩
                  obtain ⟨z2, rfl, hz2⟩ := triN_ok y (List.mem_of_getElem? hk3)
                  have sb : Same (del H4 p) (del Hb p) := same_trans sa (same_trans (del_same_of (same_new (same_refl _) hl3)) (del_off o3))
                  refine ⟨_, rfl, p, c, cells, rfl, hAb, fun t2 v2 Hc hAc sbc ht2 g2 => ?_⟩
                  have k2 : KdOk t2 := ⟨g2.1, by have := g2.2.1; omega, by have := g2.2.2; have : (2 : Nat) ^ (1 + 1) = 4 := rfl; omega⟩
                  refine ⟨_, _, rfl, ?_⟩
                  have sc := same_trans sb sbc
                  have Jc := I.mono hAc sc
                  have kl := Jc.len
                  refine ⟨_, rfl, di, kvs', rfl, .inl Jc.dOf, fun wi hwi => ?_⟩
                  have nwp := hAc.fresh hwi
                  have nwc : wi ≠ c := fun q => by rw [q, hAc.cl] at hwi; cases hwi
                  have dW : del Hc p wi = none := by rw [del_ne nwp]; exact hwi
                  refine ⟨_, rfl, _, rfl, _, rfl, wi, _, rfl, DPut.k (k := .inr z2) upd_same (room2 (by omega)), ?_⟩
                  have hAd : HandAt (upd (upd Hc wi (.dK kvs')) wi (.dK (putK kvs' (.inr z2) v2))) p c cells := (hAc.upd nwp nwc).upd nwp nwc
                  have sd : Same (del Hc p) (del (upd (upd Hc wi (.dK kvs')) wi (.dK (putK kvs' (.inr z2) v2))) p) := same_upd (same_upd (same_refl _) dW) dW
                  have dd : upd (upd Hc wi (.dK kvs')) wi (.dK (putK kvs' (.inr z2) v2)) wi = some (.dK (putK kvs' (.inr z2) v2)) := upd_same
                  have wl := length_putK kvs' (.inr z2) v2
                  generalize upd (upd Hc wi (.dK kvs')) wi (.dK (putK kvs' (.inr z2) v2)) = Hd at hAd sd dd
                  refine ⟨_, rfl, _, rfl, _, rfl, _, rfl, _, _, rfl, rfl, p, c, wi, cells, putK kvs' (.inr z2) v2, .int e, .int e, (by show [V.ref p, V.ref wi, V.int e, V.int (((d' + 1 : Nat) : Int) - 1)] = _; rw [ed]), hAd, dd, nwp, (Jc.ind.same sd).put hz2 (ht2.same sd) k2, by omega, rfl, ke, fun wsb ab vsb He hAe sde hb wb ob lb => ?_⟩
                  have abp : ab ≠ p := by
                    obtain ⟨l, q⟩ := hAe.some
                    rintro rfl
                    rw [hb] at q; cases q
                  have vb : vsb ≠ [] := fun q => ob.ne (List.eq_nil_of_length_eq_zero (by rw [← wb.1, q]; rfl))
                  refine ⟨_, rfl, _, rfl, (by show 2 ≤ sizeLine; decide), fun x1 hx1 => ?_⟩
                  have m1 := hAe.fresh hx1
                  have hAf := hAe.same (same_new (o := .tup [.str z2, v2]) (same_refl _) hx1)
                  have sf := newOff (o := .tup [.str z2, v2]) (same_refl (del He p)) hx1
                  have e1 : upd He x1 (.tup [.str z2, v2]) x1 = some (.tup [.str z2, v2]) := upd_same
                  generalize upd He x1 (.tup [.str z2, v2]) = Hf at hAf sf e1
                  refine ⟨(by show 2 ≤ sizeLine; decide), fun x2 hx2 => ?_⟩
                  have m2 := hAf.fresh hx2
                  have hAg := hAf.same (same_new (o := .tup [.str "@", .ref x1]) (same_refl _) hx2)
                  have sg := newOff (o := .tup [.str "@", .ref x1]) (same_refl (del Hf p)) hx2
                  have e2 : upd Hf x2 (.tup [.str "@", .ref x1]) x2 = some (.tup [.str "@", .ref x1]) := upd_same
                  generalize upd Hf x2 (.tup [.str "@", .ref x1]) = Hg at hAg sg e2
                  have sfg := same_trans sf sg
                  have wt : WdAt K (del Hg p) (.pr (some z2) t2) (.ref x1) := WdAt.tk hz2 (by rw [del_ne m1]; exact stays sg m1 e1) (((ht2.same sd).same sde).same sfg) (by have := k2.2.2; omega)
                  refine ⟨_, rfl, x2, ab, _, vsb, rfl, rfl, SqT.of e2, SqT.of (stays sfg abp hb), (by rw [wb.1]; show 2 + wsb.length ≤ sizeLine; exact big2 (by omega)), (fun h => by cases h), (fun _ h => absurd h vb), fun _ _ x3 hx3 => ?_⟩
                  have m3 := hAg.fresh hx3
                  have hAh := hAg.same (same_new (o := .tup ([.str "@", .ref x1] ++ vsb)) (same_refl _) hx3)
                  have sh := newOff (o := .tup ([.str "@", .ref x1] ++ vsb)) (same_refl (del Hg p)) hx3
                  have e3 : upd Hg x3 (.tup ([.str "@", .ref x1] ++ vsb)) x3 = some (.tup ([.str "@", .ref x1] ++ vsb)) := upd_same
                  generalize upd Hg x3 (.tup ([.str "@", .ref x1] ++ vsb)) = Hh at hAh sh e3
                  have seh := same_trans sfg sh
                  have s4h : Same (del H4 p) (del Hh p) := same_trans sc (same_trans sd (same_trans sde seh))
                  have Jh := I.mono hAh s4h
                  refine ⟨_, rfl, _, rfl, _, rfl, _, rfl, _, _, rfl, rfl, p, c, di, cells, kvs', t2, v2, (by show [V.ref p, V.ref di, v2, V.int (((d' + 1 : Nat) : Int) - 1)] = _; rw [ed]), hAh, Jh.dOf, Jh.dp, Jh.ind, by omega, (((ht2.same sd).same sde).same seh), k2, fun wsc ac vsc Hi hAi shi hc wc oc lc => ?_⟩
                  have vc : vsc ≠ [] := fun q => oc.ne (List.eq_nil_of_length_eq_zero (by rw [← wc.1, q]; rfl))
                  have ww := ((((WdsAt.one WdAt.us).app (WdsAt.one wt)).app (wb.same sfg)).same (same_trans sh shi)).app wc
                  refine ⟨x3, ac, _, vsc, rfl, rfl, SqT.of (stays shi m3 e3), SqT.of hc, (by rw [List.length_append, wb.1, wc.1]; show 2 + wsb.length + wsc.length ≤ sizeLine; exact big2 (by omega)), (fun h => by cases h), (fun _ h => absurd h vc), fun _ _ x5 hx5 => ?_⟩
                  refine ⟨_, _, _, _, x5, ([.st "@"] ++ [.pr (some z2) t2] ++ wsb) ++ wsc, _, rfl, hAi.same (same_new (same_refl _) hx5), newOff (same_trans s4h shi) hx5, upd_same, ww.same (del_same_of (same_new (same_refl _) hx5)), One.use (One.take hz2 g2.1 ob) oc, ?_⟩
                  (simp only [List.length_append, List.length_singleton])
                  omega
                · have fap : fa ≠ p := by
                    obtain ⟨l, q⟩ := a1.some
                    rintro rfl
                    rw [a3] at q; cases q
                  exact ⟨_, _, _, _, fa, ws, fvs, rfl, hAa, sa, stays (del_off oa) fap a3, a4.same (del_off oa), a5, a6⟩
              · refine ifF rfl ?_
                exact ⟨_, _, _, _, fa, ws, fvs, rfl, a1, a2, a3, a4, a5, a6⟩
            · rintro σ' H10 ⟨u8, u9, u12, u13, fa, ws, fvs, rfl, b1, b2, b3, b4, b5, b6⟩
              exact ⟨_, rfl, _, rfl, fins H10 fa ws fvs b1 b2 b3 b4 b5 b6⟩
end
end LG

set_option Elab.async false
set_option linter.all false
set_option maxRecDepth 100000
set_option maxHeartbeats 4100000
namespace LG
open PySem L2
abbrev sSomeP : Stmt := top 36
def spSomeP (K : PySem.W.Frag) : Sp := fun vs H Q _ => ∃ (p c : Addr) (cells : List Int) (kn : V) (ks : List ((Str × Th) × V)), vs = [.ref p, kn, .int 3] ∧ HandAt H p c cells ∧ KnAt K (del H p) ks kn ∧ ks.length ≤ 9 ∧ BackP K H p c cells 60 Q
theorem mergeK_in {K : PySem.W.Frag} {G : Hp} : ∀ {l : List (Key × V)} {kvs : List (Key × V)}, InD K G kvs → InD K G l → InD K G (mergeK kvs l) ∧ (mergeK kvs l).length ≤ kvs.length + l.length
  | [], kvs, h, _ => ⟨h, Nat.le_refl _⟩
  | q :: l, kvs, h, g => by
    obtain ⟨z, t, e, n, ht, k⟩ := g.each q List.mem_cons_self
    have h' : InD K G (putK kvs q.1 q.2) := by rw [e]; exact h.put n ht k
    obtain ⟨a, b⟩ := mergeK_in h' ⟨fun x hx => g.each x (List.mem_cons_of_mem _ hx)⟩
    refine ⟨a, Nat.le_trans b ?_⟩
    have := length_putK kvs q.1 q.2
    rw [List.length_cons]; omega
theorem InD.nil {K : PySem.W.Frag} {G : Hp} : InD K G [] := ⟨fun p h => by cases h⟩
/-- names with kinds as a dict -/
theorem kn_dict {K : PySem.W.Frag} {G H : Hp} : ∀ {ks : List ((Str × Th) × V)}, Same G H → (∀ s ∈ ks, PairAt K G s.1 s.2 ∧ nameB s.1.1 = true ∧ KdOk s.1.2) → ∃ (as : List Addr) (kvs : List (Key × V)), ks.map (·.2) = as.map V.ref ∧ Paired (fun p kv => SqT K H p [kV kv.1, kv.2]) as kvs ∧ InD K G kvs ∧ kvs.length = ks.length
  | [], _, _ => ⟨[], [], rfl, .nil, .nil, rfl⟩
  | s :: r, sG, h => by
    obtain ⟨as, kvs, e1, e2, e3, e4⟩ := kn_dict (ks := r) sG fun x hx => h x (List.mem_cons_of_mem _ hx)
    obtain ⟨⟨a, y, ea, ha, hy⟩, n, k⟩ := h s List.mem_cons_self
    refine ⟨a :: as, (.inr s.1.1, y) :: kvs, by rw [List.map_cons, List.map_cons, e1, ea], .cons (SqT.of (sG _ _ ha)) e2, ⟨fun p hp => ?_⟩, by rw [List.length_cons, List.length_cons, e4]⟩
    rcases List.mem_cons.mp hp with q | q
    · rw [q]; exact ⟨s.1.1, s.1.2, rfl, n, hy, k⟩
    · exact e3.each p q
section
variable {P : Program} {w : World} {K : PySem.W.Frag} {mg : Str → Option Value} {base : Heap}
theorem ok_lfit {f fD fS fK fE fH : Addr} {fd fdD fdS fdK fdE fdH : FuncData} (F : Fn K mg "_law_fit" sLFit ["_law_hand_here", "_law_known_here", "_law_kind_here", "_law_deep"] f fd) (ND : Fn K mg "_law_draw" sDraw ["_law_hand_here", "_law_many"] fD fdD) (NS : Fn K mg "_law_some" sSome ["_law_hand_here", "_law_things"] fS fdS)
    (NK : Fn K mg "_law_kind" sKd ["_law_hand_here", "_law_deep"] fK fdK) (NE : Fn K mg "_law_ends" sLEnds ["_law_kind_here"] fE fdE) (NH : Fn K mg "_law_heads" sHeads ["_law_inner", "_law_end", "_law_deep"] fH fdH) (T : TxB mg) (T2 : TxD mg) : ∀ d : Nat, d ≤ 3 → FnOk P w K mg base CX0 (d + 4) f fd ["_law_hand_here", "_law_known_here", "_law_kind_here", "_law_deep"] (spLFit K d) := by
  have G0 : FnOk P w K mg base CX0 3 f fd ["_law_hand_here", "_law_known_here", "_law_kind_here", "_law_deep"] (fun _ _ _ _ => False) := F.F.ok scLFit (fun vs H Q E h => h.elim) (fun cdv A outer s H vs Q E hr h => h.elim)
  intro d
  induction d with
  | zero => intro _; exact ok_lfit1 F ND NS NK NE NH T T2 G0 (fun d' e => by omega) (by decide) (by decide)
  | succ d ih =>
    intro hd
    refine ok_lfit1 F ND NS NK NE NH T T2 (ih (by omega)) (fun d' e => ?_) (by omega) hd
    have : d' = d := by omega
    rw [this]
theorem scSomeP : FnScope ["_law_hand_here", "_law_known_here", "_law_deep", "_law_turn", "_law_found", "_law_name", "_law_kind_here"] ["_law_hand_here", "_law_known_here", "_law_deep"] (defScope sSomeP) := ⟨rfl, rfl, rfl, by decide +kernel, rfl, by decide +kernel, by decide +kernel⟩
theorem ok_somep {f fD fS fK fE fH fF fL : Addr} {fd fdD fdS fdK fdE fdH fdF fdL : FuncData} (F : Fn K mg "_law_some_program" sSomeP ["_law_hand_here", "_law_known_here", "_law_deep"] f fd) (NF : Fn K mg "_law_fit" sLFit ["_law_hand_here", "_law_known_here", "_law_kind_here", "_law_deep"] fF fdF) (NL : Fn K mg "_law_loose" sLoose ["_law_hand_here", "_law_names", "_law_deep"] fL fdL)
    (ND : Fn K mg "_law_draw" sDraw ["_law_hand_here", "_law_many"] fD fdD) (NS : Fn K mg "_law_some" sSome ["_law_hand_here", "_law_things"] fS fdS) (NK : Fn K mg "_law_kind" sKd ["_law_hand_here", "_law_deep"] fK fdK) (NE : Fn K mg "_law_ends" sLEnds ["_law_kind_here"] fE fdE) (NH : Fn K mg "_law_heads" sHeads ["_law_inner", "_law_end", "_law_deep"] fH fdH) (T : TxB mg) (T2 : TxD mg) :
    FnOk P w K mg base CX0 8 f fd ["_law_hand_here", "_law_known_here", "_law_deep"] (spSomeP K) := by
  have GD : FnOk P w K mg base CX0 1 fD fdD ["_law_hand_here", "_law_many"] spDraw := ok_draw ND.F T
  have GF : FnOk P w K mg base CX0 7 fF fdF ["_law_hand_here", "_law_known_here", "_law_kind_here", "_law_deep"] (spLFit K 3) := ok_lfit NF ND NS NK NE NH T T2 3 (by decide)
  have GL : FnOk P w K mg base CX0 7 fL fdL ["_law_hand_here", "_law_names", "_law_deep"] (spLoose K 3) := ok_loose NL ND NS NK T 3 (by decide)
  have GK : FnOk P w K mg base CX0 4 fK fdK ["_law_hand_here", "_law_deep"] (spKd K 2) := ok_kd NK ND T 2
  refine F.F.ok scSomeP (fun vs H Q E h => ?_) (fun cdv A outer s H vs Q E hr h => ?_)
  · obtain ⟨_, _, _, _, _, rfl, _⟩ := h
    rfl
  · obtain ⟨p, c, cells, kn, ks, rfl, hA, hk, kl, kq⟩ := h
    have nd := scSomeP.nd
    have hr1 := hr.mono (show 1 ≤ 7 by decide)
    have hr4 := hr.mono (show 4 ≤ 7 by decide)
    refine ⟨_, pss_cons (ps_for PassesOwn.never rfl (pi_range1 (by rfl) T.range (pa_cons pe_int pa_nil)) (pg_name (i := 3) nd rfl (Or.inl rfl))
        (Evl.pss_cut (ps_if (pt_cmpR op_eq (pe_call GD hr1 (by rfl) ND.m ND.F.kp ND.b .nil pass0 (pa_cons (pv 0) (pa_cons pe_int pa_nil))) pe_int (nomark _))
          (pss_one (ps_set (i := 4) nd rfl (Or.inl rfl) (pe_call GL hr (by rfl) NL.m NL.F.kp NL.b .nil pass0 (pa_cons (pv 0) (pa_cons (pe_op op_cat
            (pe_lc (own := [("_law_name", 5), ("_law_kind_here", 6)]) (g := gTup K 2 (gCons (gName 5) (gCons (gName 6) gNil))) (tt := tYes) rfl nd (pi_tup (pv 1))
              (blkOk_by (N := ["_law_hand_here", "_law_known_here", "_law_deep", "_law_turn", "_law_found", "_law_name", "_law_kind_here"]) (sc := defScope sSomeP) (by decide +kernel)) (fun _ _ _ _ _ => pg_tup rfl (pgs_cons (pg_name (i := 5) nd rfl (Or.inl rfl)) (pgs_cons (pg_name (i := 6) nd rfl (Or.inl rfl)) pgs_nil))) (fun _ _ _ _ _ => pts_nil)
              (fun _ _ _ _ _ => pv 5)) (pe_lst (pa_cons pe_str (pa_cons pe_str (pa_cons pe_str pa_nil))))) (pa_cons (pv 2) pa_nil))))))
          (pss_one (ps_set (i := 4) nd rfl (Or.inl rfl) (pe_call GF hr (by rfl) NF.m NF.F.kp NF.b .nil pass0 (pa_cons (pv 0) (pa_cons (pe_callTy (cr_dictF rfl) (by rfl) T2.dict (by decide +kernel) (pa_cons (pv 1) pa_nil)) (pa_cons (pe_call GK hr4 (by rfl) NK.m NK.F.kp NK.b .nil pass0 (pa_cons (pv 0) (pa_cons pe_int pa_nil))) (pa_cons (pv 2) pa_nil))))))))
        (pss_one (ps_if (pt_cmpR op_le (pe_callB call_len_seq (by rfl) T.len PySem.boot_len (pa_cons (pv 4) pa_nil)) pe_int (nomark _)) (pss_one (ps_ret (pv 4))) pss_nil))))
      (pss_one (ps_ret (pe_tup (pa_cons (pe_tup (pa_cons pe_str (pa_cons pe_int pa_nil))) (pa_cons pe_str pa_nil))))), ?_⟩
    refine ⟨6, rfl, by decide, by decide, for_range (lo := 0) (n := 6) (fun i σ H' => ∃ (t3 t4 : Option V), σ = [some (.ref p), some kn, some (.int 3), t3, t4, none, none] ∧ HandAt H' p c cells ∧ Same (del H p) (del H' p)) ⟨none, none, rfl, hA, same_refl _⟩ ?_ ?_⟩
    · rintro i σ H1 hi ⟨t3, t4, rfl, hA1, s1⟩
      have hk1 := hk.same s1
      refine ⟨fun σ' H' => ∃ (a : Addr) (ws : List Wd) (vs : List V), σ' = [some (.ref p), some kn, some (.int 3), some (.int (0 + (i : Int))), some (.ref a), none, none] ∧ HandAt H' p c cells ∧ Same (del H p) (del H' p) ∧ H' a = some (.tup vs) ∧ WdsAt K (del H' p) ws vs ∧ One ws ∧ ws.length ≤ 3000, ?_, ?_⟩
      · refine ⟨_, rfl, p, c, cells, 4, rfl, hA1, by decide, by decide, fun r H2 z0 z4 hA2 o2 => ?_⟩
        have s2 := same_trans s1 (del_off o2)
        have hk2 := hk1.same (del_off o2)
        refine ⟨rfl, _, rfl, ?_⟩
        refine ite2 (fun _ => ?_) (fun _ => ?_)
        · obtain ⟨a, o, rfl, ha, od, hp⟩ := hk2
          have anp : a ≠ p := by rintro rfl; rw [del_same] at ha; cases ha
          have ha2 : SqT K H2 a (ks.map (·.2)) := .inl (.inr ⟨o, by rw [del_ne anp] at ha; exact ha⟩)
          have keep : ∀ H', Same H2 H' → SqT K H' a (ks.map (·.2)) := fun H' s => .inl (.inr ⟨o, s _ _ (by rw [del_ne anp] at ha; exact ha)⟩)
          refine ⟨_, rfl, _, rfl, a, rfl, ⟨_, ha2⟩, fun D hD => ?_⟩
          refine lc_it walk_tup (fun i H' => Same H2 H' ∧ H' D = some (.lst ((ks.take i).map fun s => V.str s.1.1))) ⟨same_new (same_refl H2) hD, by rw [List.take_zero]; exact upd_same⟩ (fun i H' _ q => keep H' q.1) ?_ ?_
          · rintro j x _ H' hj ⟨h1, h2⟩ ⟨rfl, hx⟩
            rw [List.length_map] at hj
            obtain ⟨sx, hsx⟩ : ∃ sx, ks[j]? = some sx := ⟨_, List.getElem?_eq_getElem hj⟩
            rw [List.getElem?_map, hsx] at hx
            cases hx
            obtain ⟨⟨b, y, eb, hb, _⟩, nb, _⟩ := hp sx (List.mem_of_getElem? hsx)
            have bnp : b ≠ p := by rintro rfl; rw [del_same] at hb; cases hb
            rw [del_ne bnp] at hb
            refine ⟨b, _, eb, SqT.of (h1 _ _ hb), rfl, _, _, rfl, _, _, rfl, rfl, ?_⟩
            refine ⟨rfl, ?_⟩
            refine yes_kept ?_
            refine ⟨_, rfl, _, h2, (by rw [List.length_map, List.length_take]; exact room2 (by omega)), fun c u q => by rw [upd_ne (ne_of_none q hD)]; exact h1 c u q, ?_⟩
            rw [upd_same, List.take_add_one, hsx, List.map_append]; rfl
          · rintro H3 ⟨h1, h2⟩
            rw [List.length_map, List.take_length] at h2
            refine ⟨(by show 3 ≤ sizeLine; decide), fun l1 hl1 => ?_⟩
            have g1 := same_new (o := .lst [.str "x", .str "y", .str "z"]) h1 hl1
            have e1 : upd H3 l1 (.lst [.str "x", .str "y", .str "z"]) D = some (.lst (ks.map fun s => V.str s.1.1)) := by rw [upd_ne (ne_of_none h2 hl1)]; exact h2
            have e2 : upd H3 l1 (.lst [.str "x", .str "y", .str "z"]) l1 = some (.lst [.str "x", .str "y", .str "z"]) := upd_same
            generalize upd H3 l1 (.lst [.str "x", .str "y", .str "z"]) = H4 at g1 e1 e2
            refine ⟨D, l1, _, _, rfl, rfl, e1, e2, (by rw [List.length_map]; show ks.length + 3 ≤ sizeLine; exact big2 (by omega)), fun r hr => ?_⟩
            have g2 := same_new (o := .lst ((ks.map fun s => V.str s.1.1) ++ [.str "x", .str "y", .str "z"])) g1 hr
            have hA5 := hA2.same g2
            have nm : NmL ((ks.map fun s => V.str s.1.1) ++ [.str "x", .str "y", .str "z"]) := fun v hv => by
              rcases List.mem_append.mp hv with m | m
              · obtain ⟨s, ms, rfl⟩ := List.mem_map.mp m
                exact ⟨_, rfl, (hp s ms).2.1⟩
              · simp only [List.mem_cons, List.not_mem_nil, or_false] at m
                rcases m with rfl | rfl | rfl <;> exact ⟨_, rfl, by decide +kernel⟩
            refine ⟨_, rfl, p, c, r, cells, _, rfl, hA5, upd_same, hA2.fresh (same_none g1 hr), nm, (by rw [List.length_append]; show 0 < _ + 3; omega), (by rw [List.length_append, List.length_map]; show ks.length + 3 < 1000; omega), fun ws b vs H6 hA6 s56 hb wb ob lb => ?_⟩
            exact ⟨b, ws, vs, rfl, hA6, same_trans s2 (same_trans (del_same_of g2) s56), hb, wb, ob, by have : szL 3 = 15 := rfl; omega⟩
        · obtain ⟨a, o, rfl, ha, od, hp⟩ := hk2
          obtain ⟨as, kvs, e1, e2, e3, e4⟩ := kn_dict (H := H2) del_le hp
          have anp : a ≠ p := by rintro rfl; rw [del_same] at ha; cases ha
          have ha2 : H2 a = some (.frz o (.tup (as.map V.ref))) := by rw [del_ne anp] at ha; rw [← e1]; exact ha
          refine ⟨_, rfl, _, rfl, a, o, as, kvs, rfl, ha2, od, e2, fun D hD => ?_⟩
          have nDp := hA2.fresh hD
          obtain ⟨i1, i2⟩ := mergeK_in InD.nil e3
          rw [List.length_nil, Nat.zero_add, e4] at i2
          have hA3 := hA2.same (same_new (o := .dK (mergeK [] kvs)) (same_refl _) hD)
          have s23 := newOff (o := .dK (mergeK [] kvs)) (same_refl (del H2 p)) hD
          have g3 : upd H2 D (.dK (mergeK [] kvs)) D = some (.dK (mergeK [] kvs)) := upd_same
          generalize upd H2 D (.dK (mergeK [] kvs)) = H3 at hA3 s23 g3
          refine ⟨_, rfl, p, c, cells, rfl, hA3, fun t v H4 hA4 s34 ht g => ?_⟩
          have s24 := same_trans s23 s34
          refine ⟨_, rfl, p, c, D, cells, mergeK [] kvs, t, v, rfl, hA4, stays s34 nDp g3, nDp, i1.same s24, by omega, ht, g, fun ws b vs H5 hA5 s45 hb wb ob lb => ?_⟩
          exact ⟨b, ws, vs, rfl, hA5, same_trans s2 (same_trans s24 s45), hb, wb, ob, by have : szF 3 = 339 := rfl; omega⟩
      · rintro σ H2 ⟨a, ws, vs, rfl, b1, b2, b3, b4, b5, b6⟩
        refine ⟨_, rfl, _, _, rfl, .inr (SqT.of b3), _, _, rfl, rfl, _, rfl, ?_⟩
        refine ite2 (fun c => ?_) (fun _ => ?_)
        · have : ws.length ≤ 60 := by have := of_decide_eq_true c; rw [b4.1] at this; omega
          exact ⟨_, rfl, kq ws a vs H2 b1 b2 b3 b4 b5 this⟩
        · exact ⟨_, _, rfl, b1, b2⟩
    · rintro σ H1 ⟨t3, t4, rfl, hA1, s1⟩
      refine ⟨(by show 2 ≤ sizeLine; decide), fun x1 hx1 => ?_⟩
      have n1 := hA1.fresh hx1
      have hA2 := hA1.same (same_new (o := .tup [.str "x", .int 0]) (same_refl _) hx1)
      have s2 := newOff (o := .tup [.str "x", .int 0]) s1 hx1
      have g1 : upd H1 x1 (.tup [.str "x", .int 0]) x1 = some (.tup [.str "x", .int 0]) := upd_same
      generalize upd H1 x1 (.tup [.str "x", .int 0]) = H2 at hA2 s2 g1
      refine ⟨(by show 2 ≤ sizeLine; decide), fun x2 hx2 => ?_⟩
      have nx : nameB "x" = true := by decide +kernel
      have wt : WdAt K (del H2 p) (.pr (some "x") (.int 0)) (.ref x1) := WdAt.tk nx (by rw [del_ne n1]; exact g1) rfl (by decide)
      exact kq ([.pr (some "x") (.int 0)] ++ [.st "x"]) x2 _ _ (hA2.same (same_new (same_refl _) hx2)) (newOff s2 hx2) upd_same (((WdsAt.one wt).app (WdsAt.one (WdAt.nm nx))).same (del_same_of (same_new (same_refl _) hx2))) (One.take nx rfl (One.name nx)) (by decide)
end
end LG

set_option Elab.async false
set_option linter.all false
set_option maxRecDepth 100000
set_option maxHeartbeats 4100000
namespace LG
open PySem L2
abbrev sNamed : Stmt := top 45
/-- the word at a place with the taken names told anew -/
def renAt (ws : List Wd) (nm : Nat → Str) (i : Nat) : Wd := match ws[i]? with
  | some (.pr _ k) => .pr (some (nm i)) k
  | some (.st z) => .st (match own ws i with
    | some t => nm t
    | none => z)
  | _ => .no
def renWd (ws : List Wd) (nm : Nat → Str) (i : Nat) : Wd → Wd
  | .pr _ k => .pr (some (nm i)) k
  | .st z => .st (match own ws i with
    | some t => nm t
    | none => z)
  | .no => .no
theorem renAt_eq {ws : List Wd} {nm : Nat → Str} {i : Nat} {w : Wd} (h : ws[i]? = some w) : renAt ws nm i = renWd ws nm i w := by
  unfold renAt
  rw [h]
  cases w <;> rfl
def renW (ws : List Wd) (nm : Nat → Str) : List Wd := (List.range ws.length).map (renAt ws nm)
theorem renW_len {ws : List Wd} {nm : Nat → Str} : (renW ws nm).length = ws.length := by unfold renW; rw [List.length_map, List.length_range]
theorem renW_get {ws : List Wd} {nm : Nat → Str} {i : Nat} (h : i < ws.length) : (renW ws nm)[i]? = some (renAt ws nm i) := by unfold renW; rw [List.getElem?_map, List.getElem?_range h]; rfl
theorem renW_take {ws : List Wd} {nm : Nat → Str} {i : Nat} (h : i < ws.length) : (renW ws nm).take (i + 1) = (renW ws nm).take i ++ [renAt ws nm i] := by rw [List.take_add_one, renW_get h]; rfl
def spNamed (K : PySem.W.Frag) : Sp := fun vs H Q _ => ∃ (v : V) (ws : List Wd) (dn : Addr) (kvs : List (Key × V)) (nm : Nat → Str), vs = [v, .ref dn] ∧ PgAt K H ws v ∧ Woks ws ∧ Whole ws ∧ H dn = some (.dK kvs) ∧ (∀ t, isT ws t = true → valV kvs (.inl (t : Int)) = some (.str (nm t)) ∧ nameB (nm t) = true) ∧
  ∀ a H', H a = none → Same H H' → PgAt K H' (renW ws nm) (.ref a) → Q (.ref a) H'
section
variable {P : Program} {w : World} {K : PySem.W.Frag} {mg : Str → Option Value} {base : Heap}
theorem scNamed : FnScope ["_law_words", "_law_names", "_law_owners_here", "_law_found", "_law_place", "_law_word"] ["_law_words", "_law_names"] (defScope sNamed) := ⟨rfl, rfl, rfl, by decide +kernel, rfl, by decide +kernel, by decide +kernel⟩
theorem ok_named {f fW fS : Addr} {fd fdW fdS : FuncData} (F : Fn K mg "_law_named" sNamed ["_law_words", "_law_names"] f fd) (NW : Fn K mg "_law_owners" sOwners ["_law_words"] fW fdW) (NS : Fn K mg "_law_spans" sSpans ["_law_words"] fS fdS) (T : TxB mg) (T2 : TxD mg) : FnOk P w K mg base CX0 3 f fd ["_law_words", "_law_names"] (spNamed K) := by
  have GW : FnOk P w K mg base CX0 2 fW fdW ["_law_words"] (spOwners K) := ok_owners NW NS T T2
  refine F.F.ok scNamed (fun vs H Q E h => ?_) (fun cdv A outer s H vs Q E hr h => ?_)
  · obtain ⟨_, _, _, _, _, rfl, _⟩ := h
    rfl
  · obtain ⟨v, ws, dn, kvs, nm, rfl, hv, hk, wh, hdn, hnm, kq⟩ := h
    have nd := scNamed.nd
    have hu := hu_of hr
    refine ⟨_, pss_cons (ps_set (i := 2) nd rfl (Or.inl rfl) (pe_call GW hr (by rfl) NW.m NW.F.kp NW.b .nil pass0 (pa_cons (pv 0) pa_nil)))
      (pss_cons (ps_set (i := 3) nd rfl (Or.inl rfl) (pe_lst pa_nil))
      (pss_cons (ps_for PassesOwn.never rfl (pi_enumT (by rfl) T2.enumerate (pa_cons (pv 0) pa_nil)) (pg_tup rfl (pgs_cons (pg_name (i := 4) nd rfl (Or.inl rfl)) (pgs_cons (pg_name (i := 5) nd rfl (Or.inl rfl)) pgs_nil)))
        (pss_one (ps_if (pt_val (pe_callB call_isi (by rfl) T.isinstance (by decide +kernel) (pa_cons (pv 5) (pa_cons (pe_bltn (v := .ty "tuple") (by rfl) T2.tuple (by decide +kernel) rfl) pa_nil))))
          (pss_one (ps_expr (pe_bm PySem.F.plainAttrs_list PySem.F.slot_list_append PySem.F.type_list_append mt_append (pv 3) (pa_cons (pe_tup (pa_cons (pe_dget hu (pv 1) (pv 4) (fun _ _ => rfl)) (pa_cons (pe_ix ix_tup (pv 5) pe_int (fun _ _ => rfl)) pa_nil))) pa_nil))))
          (pss_one (ps_expr (pe_bm PySem.F.plainAttrs_list PySem.F.slot_list_append PySem.F.type_list_append mt_append (pv 3) (pa_cons (pe_ifExp (pt_cmpR op_isN (pe_ix ix_list (pv 2) (pv 4) (fun _ _ => rfl)) pe_non (nomark _)) (pv 5) (pe_dget hu (pv 1) (pe_ix ix_list (pv 2) (pv 4) (fun _ _ => rfl)) (fun _ _ => rfl))) pa_nil)))))))
      (pss_one (ps_ret (pe_callTy call_tuple_of (by rfl) T2.tuple (by decide +kernel) (pa_cons (pv 3) pa_nil)))))), ?_⟩
    refine ⟨_, rfl, _, ws, rfl, hv, hk, wh, fun o H1 ho s1 o1 => ?_⟩
    obtain ⟨a, vs, rfl, ha, hw, hl⟩ := id hv
    have lv := hw.1
    refine ⟨(by show 0 ≤ sizeLine; decide), fun fl hfl => ?_⟩
    have ffl : H fl = none := same_none s1 hfl
    have ofl : o ≠ fl := ne_of_none o1 hfl
    have s2 := same_new (o := .lst []) s1 hfl
    have o2 : upd H1 fl (.lst []) o = some (.lst (tkL ws ws.length)) := by rw [upd_ne ofl]; exact o1
    have f2 : upd H1 fl (.lst []) fl = some (.lst []) := upd_same
    generalize upd H1 fl (.lst []) = H2 at s2 o2 f2
    refine ⟨_, rfl, a, vs, rfl, SqT.of (s2 _ _ ha), ?_⟩
    refine for_it walk_enumT (fun i σ H' => ∃ (t4 t5 : Option V) (xs : List V), σ = [some (.ref a), some (.ref dn), some (.ref o), some (.ref fl), t4, t5] ∧ Same H H' ∧ H' o = some (.lst (tkL ws ws.length)) ∧ H' fl = some (.lst xs) ∧ WdsAt K (del H' fl) ((renW ws nm).take i) xs) ⟨none, none, [], rfl, s2, o2, f2, by rw [List.take_zero]; exact WdsAt.nil⟩ (fun i σ H' _ ⟨_, _, _, _, h, _⟩ => SqT.of (h _ _ ha)) ?_ ?_
    · rintro i _ σ H' _ hi ⟨t4, t5, xs, rfl, h1, h2, h3, h4⟩ ⟨q, y, rfl, nq, rfl, hy⟩
      rw [lv] at hi
      have onq : o ≠ q := ne_of_none h2 nq
      have fnq : fl ≠ q := ne_of_none h3 nq
      have k1 := same_new (o := .tup [.int (i : Nat), y]) h1 nq
      have k2 : upd H' q (.tup [.int (i : Nat), y]) o = some (.lst (tkL ws ws.length)) := by rw [upd_ne onq]; exact h2
      have k3 : upd H' q (.tup [.int (i : Nat), y]) fl = some (.lst xs) := by rw [upd_ne fnq]; exact h3
      have k4 : Same (del H' fl) (del (upd H' q (.tup [.int (i : Nat), y])) fl) := del_same_of (same_new (same_refl _) nq)
      refine ⟨q, _, rfl, SqT.of upd_same, rfl, _, _, rfl, _, _, rfl, rfl, ?_⟩
      generalize upd H' q (.tup [.int (i : Nat), y]) = G at k1 k2 k3 k4
      obtain ⟨wi, hwi⟩ : ∃ wi, ws[i]? = some wi := ⟨_, List.getElem?_eq_getElem hi⟩
      have wok := hk wi (List.mem_of_getElem? hwi)
      have wd0 := hw.2 _ _ _ hwi hy
      have wd := wd0.same k1
      have base : Same H (del G fl) := fun b u r => by rw [del_ne (ne_of_none r ffl)]; exact k1 _ _ r
      obtain ⟨tv, ty, kt⟩ := wd.tyT wok.no
      have hdn' := k1 _ _ hdn
      have xl : xs.length ≤ ws.length := by rw [h4.1, List.length_take, renW_len]; omega
      have h4' := h4.same k4
      have put : ∀ (v' : V) (G2 : Hp), Same H G2 → Same (del G fl) (del G2 fl) → G2 o = some (.lst (tkL ws ws.length)) → G2 fl = some (.lst xs) → WdAt K (del G2 fl) (renAt ws nm i) v' → ∃ (t4 t5 : Option V) (xs' : List V), [some (V.ref a), some (.ref dn), some (.ref o), some (.ref fl), some (.int (i : Nat)), some y] = [some (.ref a), some (.ref dn), some (.ref o), some (.ref fl), t4, t5] ∧ Same H (upd G2 fl (.lst (xs ++ [v']))) ∧ upd G2 fl (.lst (xs ++ [v'])) o = some (.lst (tkL ws ws.length)) ∧ upd G2 fl (.lst (xs ++ [v'])) fl = some (.lst xs') ∧ WdsAt K (del (upd G2 fl (.lst (xs ++ [v']))) fl) ((renW ws nm).take (i + 1)) xs' := fun v' G2 b1 b2 b3 b4 b5 =>
        ⟨_, _, xs ++ [v'], rfl, fun b u r => by rw [upd_ne (ne_of_none r ffl)]; exact b1 _ _ r, by rw [upd_ne ofl]; exact b3, upd_same, by
          rw [renW_take hi]
          exact ((h4'.same b2).app (WdsAt.one b5)).same (fun b u r => by
            by_cases hb : b = fl
            · rw [hb, del_same] at r; cases r
            · rw [del_ne hb] at r ⊢; rw [upd_ne hb]; exact r)⟩
      refine ⟨_, rfl, _, _, _, _, _, rfl, .ty _, ty, kt, _, rfl, ?_⟩
      have er := renAt_eq (nm := nm) hwi
      rw [er] at put
      cases wi with
      | no => exact absurd rfl wok.no
      | pr oz kd =>
        refine ifT rfl ?_
        obtain ⟨nv, nb⟩ := hnm i (by unfold isT; rw [hwi]; rfl)
        have gd : DGet G dn (kV (.inl ((i : Nat) : Int))) (some (.str (nm i))) := by rw [← nv]; exact DGet.k hdn'
        obtain ⟨pt, x', y', rfl, hpt, _, _, hty, hts⟩ := wd0
        have hpt' := k1 _ _ hpt
        refine ⟨_, rfl, .inl ⟨rfl, _, SqL.of k3⟩, _, rfl, _, rfl, dn, _, rfl, gd, _, rfl, pt, _, _, _, rfl, rfl, SqT.of hpt', rfl, (by show 2 ≤ sizeLine; decide), fun x1 hx1 => ?_⟩
        have g := same_new (o := .tup [.str (nm i), y']) (same_refl G) hx1
        have fx : fl ≠ x1 := ne_of_none k3 hx1
        refine ⟨fl, _, _, rfl, rfl, g _ _ k3, room2 (by omega), put _ _ (same_trans k1 g) (del_same_of g) (g _ _ k2) (g _ _ k3) ?_⟩
        exact WdAt.tk nb (by rw [del_ne fx.symm]; exact upd_same) (hty.same (same_trans base (del_same_of g))) hts
      | st z =>
        refine ifF rfl ?_
        obtain ⟨rfl, hz⟩ := wd0
        refine ⟨_, rfl, .inl ⟨rfl, _, SqL.of k3⟩, _, rfl, _, rfl, o, _, _, _, rfl, rfl, SqL.of k2, atI_nat (tkL_get hi hi), rfl, _, rfl, ?_⟩
        cases q : own ws i with
        | none =>
          have ev : tkV ws i = .non := by unfold tkV; rw [q]
          have en : renWd ws nm i (.st z) = .st z := by unfold renWd; rw [q]
          rw [en] at put
          rw [ev]
          refine ifT (by decide) ?_
          exact ⟨_, rfl, fl, _, _, rfl, rfl, k3, room2 (by omega), put _ G k1 (same_refl _) k2 k3 ⟨rfl, hz⟩⟩
        | some t =>
          have ev : tkV ws i = .int (t : Int) := by unfold tkV; rw [q]
          have en : renWd ws nm i (.st z) = .st (nm t) := by unfold renWd; rw [q]
          rw [en] at put
          obtain ⟨_, _, _, _, tt, _⟩ := own_some q
          obtain ⟨nv, nb⟩ := hnm t tt
          have gd : DGet G dn (kV (.inl ((t : Nat) : Int))) (some (.str (nm t))) := by rw [← nv]; exact DGet.k hdn'
          have tg := tkL_get hi hi
          rw [ev] at tg ⊢
          refine ifF (by rfl) ?_
          exact ⟨_, rfl, _, rfl, _, rfl, o, _, _, _, rfl, rfl, SqL.of k2, atI_nat tg, dn, _, rfl, gd, fl, _, _, rfl, rfl, k3, room2 (by omega), put _ G k1 (same_refl _) k2 k3 (WdAt.nm nb)⟩
    · rintro σ H3 ⟨t4, t5, xs, rfl, h1, h2, h3, h4⟩
      rw [lv, List.take_of_length_le (by rw [renW_len]; exact Nat.le_refl _)] at h4
      refine ⟨_, rfl, fl, xs, rfl, .inl ⟨SqL.of h3, fun r hr => ?_⟩⟩
      have g := same_new (o := .tup xs) (same_refl H3) hr
      exact kq r _ (same_none h1 hr) (same_trans h1 g) ⟨r, xs, rfl, upd_same, (h4.same del_le).same g, by rw [renW_len]; exact hl⟩
end
end LG

set_option Elab.async false
set_option linter.all false
set_option maxRecDepth 100000
set_option maxHeartbeats 2000000
namespace LG
open PySem L2
/-! ### taken names told anew change no count: mathematics alone -/
/-- names for takes: names, unlike, none of them open -/
structure NmOk (ws : List Wd) (nm : Nat → Str) : Prop where
  nb : ∀ t, isT ws t = true → nameB (nm t) = true
  inj : ∀ t u, isT ws t = true → isT ws u = true → nm t = nm u → t = u
  bar : ∀ t p, isT ws t = true → opn ws p = true → textAt ws p ≠ some (nm t)
theorem pend_congr : ∀ {xs ys : List Wd}, xs.map (fun w => (w.use, w.thing)) = ys.map (fun w => (w.use, w.thing)) → pend xs = pend ys
  | [], [], _ => rfl
  | [], y :: ys, h => by cases h
  | x :: xs, [], h => by cases h
  | x :: xs, y :: ys, h => by
    (rw [List.map_cons, List.map_cons] at h)
    injection h with h1 h2
    injection h1 with u t
    unfold pend
    rw [pend_congr h2, u, t]
section
variable {ws : List Wd} {nm : Nat → Str}
theorem own_name (hk : Woks ws) {p t : Nat} {z : Str} (h : ws[p]? = some (.st z)) (o : own ws p = some t) : z ≠ "@" := by
  rintro rfl
  rw [own_use hk h] at o; cases o
theorem ren_flags (hk : Woks ws) (N : NmOk ws nm) : (renW ws nm).map (fun w => (w.use, w.thing)) = ws.map fun w => (w.use, w.thing) := by
  apply List.ext_getElem?
  intro i
  (rw [List.getElem?_map, List.getElem?_map])
  by_cases h : i < ws.length
  · obtain ⟨w, hw⟩ : ∃ w, ws[i]? = some w := ⟨_, List.getElem?_eq_getElem h⟩
    rw [renW_get h, renAt_eq hw, hw, Option.map_some, Option.map_some]
    cases w with
    | pr o k => rfl
    | no => rfl
    | st z =>
      unfold renWd
      cases q : own ws i with
      | none => rfl
      | some t =>
        obtain ⟨_, _, _, _, tt, _⟩ := own_some q
        have u1 : (Wd.st z).use = false := decide_eq_false (own_name hk hw q)
        have u2 : (Wd.st (nm t)).use = false := decide_eq_false (by
          intro e
          have := N.nb t tt
          rw [e, name_at] at this; cases this)
        show some ((Wd.st (nm t)).use, false) = some ((Wd.st z).use, false)
        rw [u1, u2]
  · rw [List.getElem?_eq_none (by rw [renW_len]; omega), List.getElem?_eq_none (by omega)]
theorem ren_ofE (hk : Woks ws) (N : NmOk ws nm) (i : Nat) : ofE (renW ws nm) i = ofE ws i := by
  have e : pend ((renW ws nm).drop i) = pend (ws.drop i) := pend_congr (by rw [List.map_drop, List.map_drop, ren_flags hk N])
  unfold ofE
  rw [e]
theorem ren_whole (hk : Woks ws) (N : NmOk ws nm) (wh : Whole ws) : Whole (renW ws nm) := by
  unfold Whole
  rw [renW_len, pend_congr (ren_flags hk N)]; exact wh
theorem ren_isT (t : Nat) : isT (renW ws nm) t = isT ws t := by
  unfold isT
  by_cases h : t < ws.length
  · obtain ⟨w, hw⟩ : ∃ w, ws[t]? = some w := ⟨_, List.getElem?_eq_getElem h⟩
    rw [renW_get h, renAt_eq hw, hw]
    cases w <;> rfl
  · rw [List.getElem?_eq_none (by rw [renW_len]; omega), List.getElem?_eq_none (by omega)]
theorem ren_nmOf {t : Nat} (h : isT ws t = true) : nmOf (renW ws nm) t = some (nm t) := by
  have hl := isT_lt h
  obtain ⟨w, hw⟩ : ∃ w, ws[t]? = some w := ⟨_, List.getElem?_eq_getElem hl⟩
  unfold isT at h
  rw [hw] at h
  unfold nmOf
  rw [renW_get hl, renAt_eq hw]
  cases w with
  | pr o k => rfl
  | st z => cases h
  | no => cases h
theorem ren_arnd (hk : Woks ws) (N : NmOk ws nm) (p : Nat) : arnd (renW ws nm) p = arnd ws p := by
  unfold arnd
  congr 1
  funext t
  rw [ren_isT, ren_ofE hk N]
theorem ren_own (hk : Woks ws) (N : NmOk ws nm) (p : Nat) : own (renW ws nm) p = own ws p := by
  by_cases h : p < ws.length
  · obtain ⟨w, hw⟩ : ∃ w, ws[p]? = some w := ⟨_, List.getElem?_eq_getElem h⟩
    have e1 : (renW ws nm)[p]? = some (renWd ws nm p w) := by rw [renW_get h, renAt_eq hw]
    cases w with
    | pr o k =>
      have a : own ws p = none := by unfold own; rw [hw]
      have b : own (renW ws nm) p = none := by unfold own; rw [e1]; rfl
      rw [a, b]
    | no =>
      have a : own ws p = none := by unfold own; rw [hw]
      have b : own (renW ws nm) p = none := by unfold own; rw [e1]; rfl
      rw [a, b]
    | st z =>
      cases q : own ws p with
      | some t =>
        obtain ⟨_, _, _, tp, tt, te⟩ := own_some q
        have e2 : renWd ws nm p (.st z) = .st (nm t) := by unfold renWd; rw [q]
        rw [e2] at e1
        have b : own (renW ws nm) p = (byNm (renW ws nm) (nm t) (arnd ws p)).getLast? := by unfold own; rw [e1, ren_arnd hk N]
        rw [b]
        have mt : t ∈ byNm (renW ws nm) (nm t) (arnd ws p) := by
          unfold byNm
          rw [List.mem_filter]
          exact ⟨mem_arnd.mpr ⟨tp, tt, te⟩, decide_eq_true (ren_nmOf tt)⟩
        have all : ∀ u ∈ byNm (renW ws nm) (nm t) (arnd ws p), u = t := fun u hu => by
          unfold byNm at hu
          rw [List.mem_filter, decide_eq_true_eq] at hu
          have ut := (mem_arnd.mp hu.1).2.1
          have := hu.2
          rw [ren_nmOf ut] at this
          exact N.inj u t ut tt (Option.some.inj this)
        rcases nil_or_snoc (byNm (renW ws nm) (nm t) (arnd ws p)) with e | ⟨L, x, e⟩
        · rw [e] at mt; cases mt
        · rw [e]
          have := all x (by rw [e]; simp)
          rw [this]; simp
      | none =>
        have e2 : renWd ws nm p (.st z) = .st z := by unfold renWd; rw [q]
        rw [e2] at e1
        have b : own (renW ws nm) p = (byNm (renW ws nm) z (arnd ws p)).getLast? := by unfold own; rw [e1, ren_arnd hk N]
        have nil : byNm (renW ws nm) z (arnd ws p) = [] := by
          unfold byNm
          rw [List.filter_eq_nil_iff]
          intro u hu hz
          rw [decide_eq_true_eq] at hz
          have ut := (mem_arnd.mp hu).2.1
          rw [ren_nmOf ut] at hz
          have ez : nm u = z := Option.some.inj hz
          by_cases at_ : z = "@"
          · have := N.nb u ut
            rw [ez, at_, name_at] at this; cases this
          · have op : opn ws p = true := by
              rw [opn_eq hw]
              show (decide (z ≠ "@") && (own ws p).isNone) = true
              rw [q]
              simp [at_]
            refine N.bar u p ut op ?_
            unfold textAt
            rw [hw, ez]; rfl
        rw [b, nil]; rfl
  · have a : own ws p = none := by unfold own; rw [List.getElem?_eq_none (by omega)]
    have b : own (renW ws nm) p = none := by unfold own; rw [List.getElem?_eq_none (by rw [renW_len]; omega)]
    rw [a, b]
theorem ren_opn (hk : Woks ws) (N : NmOk ws nm) (p : Nat) : opn (renW ws nm) p = opn ws p := by
  by_cases h : p < ws.length
  · obtain ⟨w, hw⟩ : ∃ w, ws[p]? = some w := ⟨_, List.getElem?_eq_getElem h⟩
    have e1 : (renW ws nm)[p]? = some (renWd ws nm p w) := by rw [renW_get h, renAt_eq hw]
    rw [opn_eq hw, opn_eq e1]
    cases w with
    | pr o k => rfl
    | no => rfl
    | st z =>
      unfold renWd
      cases q : own ws p with
      | none => show (decide (z ≠ "@") && (own (renW ws nm) p).isNone) = (decide (z ≠ "@") && (own ws p).isNone); rw [ren_own hk N]
      | some t =>
        show (decide (nm t ≠ "@") && (own (renW ws nm) p).isNone) = (decide (z ≠ "@") && (own ws p).isNone)
        rw [ren_own hk N, q]
        simp
  · unfold opn
    rw [List.getElem?_eq_none (by rw [renW_len]; omega), List.getElem?_eq_none (by omega)]
theorem ren_text (hk : Woks ws) {p : Nat} (h : opn ws p = true) : textAt (renW ws nm) p = textAt ws p := by
  obtain ⟨z, hz, _, _, on⟩ := opn_text h
  have hl := (List.getElem?_eq_some_iff.mp hz).1
  unfold textAt
  rw [renW_get hl, renAt_eq hz, hz]
  show (renWd ws nm p (.st z)).text = some z
  unfold renWd
  rw [on]; rfl
theorem cnt_congr {fit : Th → Bool} : ∀ {xs ys : List Wd}, xs.map (fun w => (w.use, w.name, w.take fit)) = ys.map (fun w => (w.use, w.name, w.take fit)) → cntC fit xs = cntC fit ys
  | [], [], _ => rfl
  | [], y :: ys, h => by cases h
  | x :: xs, [], h => by cases h
  | x :: xs, y :: ys, h => by
    (rw [List.map_cons, List.map_cons] at h)
    injection h with h1 h2
    injection h1 with u h3
    injection h3 with n t
    rw [cntC, cntC, cnt_congr h2]
    congr 1
    funext m
    unfold stepC
    rw [u, n, t]
theorem ren_prog (hk : Woks ws) (N : NmOk ws nm) (hp : Prog ws) : Prog (renW ws nm) := by
  refine ⟨?_⟩
  have e : cntC Th.any (renW ws nm) = cntC Th.any ws := cnt_congr (by
    apply List.ext_getElem?
    intro i
    (rw [List.getElem?_map, List.getElem?_map])
    by_cases h : i < ws.length
    · obtain ⟨w, hw⟩ : ∃ w, ws[i]? = some w := ⟨_, List.getElem?_eq_getElem h⟩
      have ok := hk w (List.mem_of_getElem? hw)
      rw [renW_get h, renAt_eq hw, hw, Option.map_some, Option.map_some]
      cases w with
      | no => rfl
      | pr o k =>
        cases o with
        | none => exact absurd ok id
        | some z =>
          have n1 : nameB z = true := ok
          have n2 : nameB (nm i) = true := N.nb i (by unfold isT; rw [hw]; rfl)
          show some (false, false, (nameB (nm i) && k.any)) = some (false, false, (nameB z && k.any))
          rw [n1, n2]
      | st z =>
        unfold renWd
        cases q : own ws i with
        | none => rfl
        | some t =>
          obtain ⟨_, _, _, _, tt, _⟩ := own_some q
          have nz := own_name hk hw q
          have n1 : nameB z = true := by
            rcases ok with r | r
            · exact absurd r nz
            · exact r
          have n2 := N.nb t tt
          have u1 : (Wd.st z).use = false := decide_eq_false nz
          have u2 : (Wd.st (nm t)).use = false := decide_eq_false (by intro e; rw [e, name_at] at n2; cases n2)
          show some ((Wd.st (nm t)).use, nameB (nm t), false) = some ((Wd.st z).use, nameB z, false)
          rw [u1, u2, n1, n2]
    · rw [List.getElem?_eq_none (by rw [renW_len]; omega), List.getElem?_eq_none (by omega)])
  have := hp.ok
  unfold progB at this ⊢
  rw [e]; exact this
theorem ren_cnt (hk : Woks ws) (N : NmOk ws nm) : cntF (renW ws nm) = cntF ws := by
  have eo : ∀ k, opL (renW ws nm) k = opL ws k := fun k => by unfold opL; congr 1; funext p; exact ren_opn hk N p
  have et : ∀ k, tkP (renW ws nm) k = tkP ws k := fun k => by unfold tkP; congr 1; funext p; exact ren_isT p
  unfold cntF
  rw [renW_len, eo, et]
  funext k
  cases k with
  | inl j =>
    have e : nT (renW ws nm) ws.length j = nT ws ws.length j := by
      unfold nT ownI
      congr 2
      funext p
      rw [ren_own hk N]
    unfold cf
    dsimp only
    rw [e]
  | inr z =>
    have e : nO (renW ws nm) (opL ws ws.length) z = nO ws (opL ws ws.length) z := by
      unfold nO
      congr 1
      apply List.filter_congr
      intro p hp
      rw [ren_text hk (mem_opL.mp hp).2]
    unfold cf
    dsimp only
    rw [e]
end
end LG

set_option Elab.async false
set_option linter.all false
set_option maxRecDepth 100000
set_option maxHeartbeats 4100000
namespace LG
open PySem L2
abbrev sDue : Stmt := top 48
section
variable {X : Cx}
/-- xs.count(y), whatever flat things -/
def rCntV (K : PySem.W.Frag) : V → List V → Hp → VK → Prop := fun x xs H Q => ∃ (p : Addr) (ys : List V) (y : V), x = .ref p ∧ xs = [y] ∧ flatV y = true ∧ SqL K H p ys ∧ ys.all flatV = true ∧ Q (.int ((ys.countP fun z => eqV z y : Nat) : Int)) H
theorem countU {y : V} : ∀ {ys : List V} {us : List Value}, Vals ys us → ys.all flatV = true → us.countP (eqU y) = ys.countP fun z => eqV z y
  | _, _, .nil, _ => rfl
  | z :: zs, u :: us, .cons r t, f => by
    (rw [List.all_cons, Bool.and_eq_true] at f)
    rw [List.countP_cons, List.countP_cons, countU t f.2, eqU_of r f.1]
theorem mt_countV : MtR X "list.count" (rCntV X.K) := by
  (intro pins s σ H x xs v us Q I rx rxs h)
  obtain ⟨p, ys, y, rfl, rfl, fy, hs, fl, q⟩ := h
  cases rx
  (obtain ⟨u, rfl, ru⟩ := rxs.one)
  obtain ⟨its, rv, ⟨⟨cls, dd, data, sl⟩, n, ho, hc, _, hd⟩, _⟩ := I.list hs
  cases (show cls = _ from hc)
  cases (show data = _ from hd)
  refine call_meets PySem.F.slot_list_count ⟨_, ho, rfl⟩ PySem.F.entry_list_count (PySem.F.args_list_count_2 _ _) (SeqAt.list_countAt p its.toArray n dd sl u (eqU y)) ⟨ho, fun z hz => mem_eqAt ru fy rv fl z (by simpa using hz), ?_⟩
  refine ⟨.int ((ys.countP fun z => eqV z y : Nat) : Int), H, I.tok _, ⟨s.toks, ?_⟩, q⟩
  show Value.int ((its.toArray.toList.countP (eqU y) : Nat) : Int) s.toks = Value.int ((ys.countP fun z => eqV z y : Nat) : Int) s.toks
  rw [countU rv fl]
end
/-- the texts that stand open, each once -/
def spLOpn (K : PySem.W.Frag) : Sp := fun vs H Q _ => ∃ (v : V) (ws : List Wd), vs = [v] ∧ PgAt K H ws v ∧ Woks ws ∧ Whole ws ∧ ws.length ≤ 60 ∧ ∀ l H' (xs : List Str), H l = none → Same H H' → H' l = some (.lst (xs.map V.str)) → xs.Nodup → (∀ z, z ∈ xs ↔ 0 < nO ws (opL ws ws.length) z) → xs.length ≤ (opL ws ws.length).length → PyProof.Rows.sortedS xs = true → Q (.ref l) H'
def spDue (K : PySem.W.Frag) : Sp := fun vs H Q _ => ∃ (v : V) (ws : List Wd), vs = [v] ∧ PgAt K H ws v ∧ Woks ws ∧ Whole ws ∧ ws.length ≤ 60 ∧ ∀ d H' kvs, H d = none → Same H H' → H' d = some (.dK kvs) → Cnt (cntF ws) kvs → kvs.length ≤ 3000000 → Q (.ref d) H'
theorem tkL_flat {ws : List Wd} {k : Nat} : (tkL ws k).all flatV = true := by
  rw [List.all_eq_true]
  intro v hv
  unfold tkL at hv
  obtain ⟨j, _, rfl⟩ := List.mem_map.mp hv
  split
  · cases own ws j <;> rfl
  · rfl
theorem tkL_count {ws : List Wd} {p : Nat} : (tkL ws ws.length).countP (fun z => eqV z (V.int (p : Int))) = nT ws ws.length (p : Int) := by
  unfold tkL nT
  rw [List.countP_map, List.countP_eq_length_filter]
  congr 1
  apply List.filter_congr
  intro j hj
  (have hj' := List.mem_range.mp hj)
  show eqV (if j < ws.length then _ else _) _ = _
  rw [if_pos hj']
  unfold ownI
  cases own ws j with
  | none => rfl
  | some t =>
    show ((t : Int) == (p : Int)) = decide (some (t : Int) = some (p : Int))
    rw [Bool.eq_iff_iff]; simp
/-- open names first, then takes: what is told so far -/
def df (ws : List Wd) (xs : List Str) (T : List Nat) : Key → Option V
  | .inl j => if (T.any fun t : Nat => decide ((t : Int) = j)) = true then some (.int (nT ws ws.length j : Int)) else none
  | .inr z => if z ∈ xs then some (.int (nO ws (opL ws ws.length) z : Int)) else none
theorem df_nil {ws : List Wd} : df ws [] [] = fun _ => none := by
  funext k
  cases k with
  | inl j => rfl
  | inr z => unfold df; simp
theorem df_name {ws : List Wd} {xs : List Str} {z : Str} (j : Key) : df ws (xs ++ [z]) [] j = if j = .inr z then some (.int (nO ws (opL ws ws.length) z : Int)) else df ws xs [] j := by
  cases j with
  | inl i => rw [if_neg (fun z => by cases z)]; rfl
  | inr y =>
    unfold df
    dsimp only
    by_cases e : y = z
    · subst e
      rw [if_pos (by simp), if_pos rfl]
    · rw [if_neg (fun q => e (Sum.inr.inj q))]
      by_cases m : y ∈ xs
      · rw [if_pos m, if_pos (by simp [m])]
      · rw [if_neg m, if_neg (by simp [m, e])]
theorem df_take {ws : List Wd} {xs : List Str} {T : List Nat} {t : Nat} (j : Key) : df ws xs (T ++ [t]) j = if j = .inl (t : Int) then some (.int (nT ws ws.length (t : Int) : Int)) else df ws xs T j := by
  cases j with
  | inr z => rw [if_neg (fun z => by cases z)]; rfl
  | inl i =>
    unfold df
    dsimp only
    by_cases e : (t : Int) = i
    · subst e
      rw [if_pos (List.any_eq_true.mpr ⟨t, by simp, decide_eq_true rfl⟩), if_pos rfl]
    · have e1 : ((T ++ [t]).any fun u : Nat => decide ((u : Int) = i)) = T.any fun u : Nat => decide ((u : Int) = i) := by
        rw [List.any_append]; simp [e]
      rw [if_neg (fun z => e (Sum.inl.inj z).symm), e1]
theorem df_all {ws : List Wd} {xs : List Str} (h : ∀ z, z ∈ xs ↔ 0 < nO ws (opL ws ws.length) z) : df ws xs (tkP ws ws.length) = cntF ws := by
  funext k
  cases k with
  | inl j => rfl
  | inr z =>
    unfold df cntF cf
    dsimp only
    by_cases e : nO ws (opL ws ws.length) z = 0
    · rw [if_pos e, if_neg (fun q => by have := (h z).mp q; omega)]
    · rw [if_neg e, if_pos ((h z).mpr (by omega))]
section
variable {P : Program} {w : World} {K : PySem.W.Frag} {mg : Str → Option Value} {base : Heap}
theorem scDue : FnScope ["_law_words", "_law_owners_here", "_law_found", "_law_name", "_law_place"] ["_law_words"] (defScope sDue) := ⟨rfl, rfl, rfl, by decide +kernel, rfl, by decide +kernel, by decide +kernel⟩
theorem ok_due {f fW fS fN fO fT fP : Addr} {fd fdW fdS fdN fdO fdT fdP : FuncData} (F : Fn K mg "_law_due" sDue ["_law_words"] f fd) (NW : Fn K mg "_law_owners" sOwners ["_law_words"] fW fdW) (NS : Fn K mg "_law_spans" sSpans ["_law_words"] fS fdS) (NN : Fn K mg "_law_standing" sLStand ["_law_words", "_law_name"] fN fdN)
    (NO : Fn K mg "_law_is_open" sLOpen ["_law_words", "_law_owners_here", "_law_place"] fO fdO) (NT : Fn K mg "_law_takes" sLTakes ["_law_words"] fT fdT) {st : Stmt} (NP : Fn K mg "_law_open" st ["_law_words"] fP fdP) (GP : FnOk P w K mg base CX0 4 fP fdP ["_law_words"] (spLOpn K)) (T : TxB mg) (T2 : TxD mg) : FnOk P w K mg base CX0 5 f fd ["_law_words"] (spDue K) := by
  have GW : FnOk P w K mg base CX0 2 fW fdW ["_law_words"] (spOwners K) := ok_owners NW NS T T2
  have GN : FnOk P w K mg base CX0 3 fN fdN ["_law_words", "_law_name"] (spLStand K) := ok_lstand NN NW NS NO T T2
  have GT : FnOk P w K mg base CX0 1 fT fdT ["_law_words"] (spLTakes K) := ok_ltakes NT T T2
  refine F.F.ok scDue (fun vs H Q E h => ?_) (fun cdv A outer s H vs Q E hr h => ?_)
  · obtain ⟨_, _, rfl, _⟩ := h
    rfl
  · obtain ⟨v, ws, rfl, hv, hk, wh, w60, kq⟩ := h
    have nd := scDue.nd
    have hu := hu_of hr
    have hr1 := hr.mono (show 1 ≤ 4 by decide)
    have hr2 := hr.mono (show 2 ≤ 4 by decide)
    have hr3 := hr.mono (show 3 ≤ 4 by decide)
    refine ⟨_, pss_cons (ps_set (i := 1) nd rfl (Or.inl rfl) (pe_call GW hr2 (by rfl) NW.m NW.F.kp NW.b .nil pass0 (pa_cons (pv 0) pa_nil)))
      (pss_cons (ps_set (i := 2) nd rfl (Or.inl rfl) pe_dnewK)
      (pss_cons (ps_for PassesOwn.never rfl (pi_list (pe_call GP hr (by rfl) NP.m NP.F.kp NP.b .nil pass0 (pa_cons (pv 0) pa_nil))) (pg_name (i := 3) nd rfl (Or.inl rfl))
        (pss_one (ps_dput hu (pv 2) (pv 3) (pe_call GN hr3 (by rfl) NN.m NN.F.kp NN.b .nil pass0 (pa_cons (pv 0) (pa_cons (pv 3) pa_nil))) rfl)))
      (pss_cons (ps_for PassesOwn.never rfl (pi_list (pe_call GT hr1 (by rfl) NT.m NT.F.kp NT.b .nil pass0 (pa_cons (pv 0) pa_nil))) (pg_name (i := 4) nd rfl (Or.inl rfl))
        (pss_one (ps_dput hu (pv 2) (pv 4) (pe_bm PySem.F.plainAttrs_list PySem.F.slot_list_count PySem.F.type_list_count mt_countV (pv 1) (pa_cons (pv 4) pa_nil)) rfl)))
      (pss_one (ps_ret (pv 2)))))), ?_⟩
    refine ⟨_, rfl, _, ws, rfl, hv, hk, wh, fun o H1 ho s1 o1 D hD => ?_⟩
    have nD : H D = none := same_none s1 hD
    have oD : o ≠ D := ne_of_none o1 hD
    have s2 := same_new (o := .dK []) s1 hD
    have o2 : upd H1 D (.dK []) o = some (.lst (tkL ws ws.length)) := by rw [upd_ne oD]; exact o1
    have d2 : upd H1 D (.dK []) D = some (.dK []) := upd_same
    generalize upd H1 D (.dK []) = H2 at s2 o2 d2
    have hl : ws.length ≤ 1000000 := by obtain ⟨a, vs, _, _, _, q⟩ := hv; exact q
    have olen := opL_len (ws := ws) (k := ws.length)
    have tlen := tkP_len (ws := ws) (k := ws.length)
    refine ⟨_, rfl, v, ws, rfl, hv.same s2, hk, wh, w60, fun l H3 xs hl3 s23 hx xnd xm xl _ => ?_⟩
    have s3 := same_trans s2 s23
    have nl : H l = none := same_none s2 hl3
    have lD : l ≠ D := (ne_of_none d2 hl3).symm
    refine ⟨l, rfl, ⟨_, SqL.of hx⟩, ?_⟩
    refine for_it walk_list (fun i σ H' => ∃ t3, σ = [some v, some (.ref o), some (.ref D), t3, none] ∧ Same H H' ∧ H' o = some (.lst (tkL ws ws.length)) ∧ H' l = some (.lst (xs.map V.str)) ∧ ∃ kvs, H' D = some (.dK kvs) ∧ Cnt (df ws (xs.take i) []) kvs ∧ kvs.length ≤ i) ⟨none, rfl, s3, s23 _ _ o2, hx, [], s23 _ _ d2, by rw [List.take_zero, df_nil]; exact Cnt.nil, Nat.le_refl _⟩ (fun i σ H' _ ⟨_, _, _, _, h, _⟩ => SqL.of h) ?_ ?_
    · rintro i y σ Hq H' hi ⟨t3, rfl, h1, h2, h3, kvs, h4, h5, h6⟩ ⟨rfl, hy⟩
      rw [List.length_map] at hi
      obtain ⟨z, hz⟩ : ∃ z, xs[i]? = some z := ⟨_, List.getElem?_eq_getElem hi⟩
      rw [List.getElem?_map, hz] at hy
      cases hy
      refine ⟨_, rfl, _, rfl, v, ws, z, rfl, hv.same h1, hk, wh, fun H4 s4 => ?_⟩
      refine ⟨_, rfl, _, rfl, D, _, rfl, DPut.k (k := .inr z) (s4 _ _ h4) (room2 (by omega)), ?_⟩
      refine ⟨_, rfl, fun b u q => by rw [upd_ne (ne_of_none q nD)]; exact s4 _ _ (h1 b u q), by rw [upd_ne oD]; exact s4 _ _ h2, by rw [upd_ne lD]; exact s4 _ _ h3, _, upd_same, ?_, Nat.le_trans (length_putK _ _ _) (by omega)⟩
      rw [List.take_add_one, hz]
      exact h5.put fun j => df_name j
    · rintro σ H4 ⟨t3, rfl, h1, h2, h3, kvs, h4, h5, h6⟩
      rw [List.length_map] at h5 h6
      rw [List.take_length] at h5
      refine ⟨_, rfl, v, ws, rfl, hv.same h1, hk, fun tl H5 htl s45 ht => ?_⟩
      have tD : tl ≠ D := (ne_of_none h4 htl).symm
      have it : (intL (tkP ws ws.length)).length = (tkP ws ws.length).length := intL_len
      refine ⟨tl, rfl, ⟨_, SqL.of ht⟩, ?_⟩
      refine for_it walk_list (fun i σ H' => ∃ t3 t4, σ = [some v, some (.ref o), some (.ref D), t3, t4] ∧ Same H H' ∧ H' o = some (.lst (tkL ws ws.length)) ∧ H' tl = some (.lst (intL (tkP ws ws.length))) ∧ ∃ kvs, H' D = some (.dK kvs) ∧ Cnt (df ws xs ((tkP ws ws.length).take i)) kvs ∧ kvs.length ≤ ws.length + i) ⟨_, none, rfl, same_trans h1 s45, s45 _ _ h2, ht, kvs, s45 _ _ h4, by rw [List.take_zero]; exact h5, by omega⟩ (fun i σ H' _ ⟨_, _, _, _, _, h, _⟩ => SqL.of h) ?_ ?_
      · rintro i y σ Hq H' hi ⟨t3, t4, rfl, a1, a2, a3, kvs2, a4, a5, a6⟩ ⟨rfl, hy⟩
        rw [it] at hi
        obtain ⟨p, hp⟩ : ∃ p, (tkP ws ws.length)[i]? = some p := ⟨_, List.getElem?_eq_getElem hi⟩
        have ey : y = V.int (p : Int) := by
          unfold intL at hy
          rw [List.getElem?_map, hp] at hy
          exact (Option.some.inj hy).symm
        subst ey
        refine ⟨_, rfl, .inl ⟨rfl, _, SqL.of a2⟩, _, rfl, o, _, _, rfl, rfl, rfl, SqL.of a2, tkL_flat, ?_⟩
        rw [tkL_count]
        refine ⟨_, rfl, _, rfl, D, _, rfl, DPut.k (k := .inl (p : Int)) a4 (room2 (by omega)), ?_⟩
        refine ⟨_, _, rfl, fun b u q => by rw [upd_ne (ne_of_none q nD)]; exact a1 b u q, by rw [upd_ne oD]; exact a2, by rw [upd_ne tD]; exact a3, _, upd_same, ?_, Nat.le_trans (length_putK _ _ _) (by omega)⟩
        rw [List.take_add_one, hp]
        exact a5.put fun j => df_take j
      · rintro σ H6 ⟨t3, t4, rfl, a1, a2, a3, kvs2, a4, a5, a6⟩
        rw [it, List.take_length, df_all xm] at a5
        rw [it] at a6
        exact ⟨_, rfl, kq D H6 kvs2 nD a1 a4 a5 (by omega)⟩
end
end LG

set_option Elab.async false
set_option linter.all false
set_option maxRecDepth 100000
set_option maxHeartbeats 4100000
namespace LG
open PySem PySem.Spec PyProof.Rows L2
/-- list(a text) -/
def signL (z : Str) : List V := z.cps.toList.map fun c => V.str ⟨#[c]⟩
def rListS : List V → Hp → VK → Prop := fun vs H Q => ∃ z : Str, vs = [.str z] ∧ z.length ≤ sizeLine ∧ ∀ q, H q = none → Q (.ref q) (upd H q (.lst (signL z)))
theorem cr_listS {X : Cx} (hc : X.calm = true) : CallR X (.type "list") rListS := by
  rintro pins s σ H vs us Q I r ⟨z, rfl, hz, q⟩
  (obtain ⟨u, rfl, rx⟩ := vals1 r)
  obtain ⟨t, rfl⟩ := rx
  refine call_list_str (I.ok.hd hc) z t (fun h' tk acc c' hk e' hi => ?_) hz
  have e : acc.toList.length = z.cps.size := by rw [Array.length_toList]; exact hi.1
  have vs : Vals (signL z) acc.toList := by
    refine vals_of_idx _ _ (by unfold signL; rw [List.length_map, e, Array.length_toList]) fun j u hj => ?_
    have hs := hi.2 j u (by rw [← hj, Array.getElem?_toList])
    obtain ⟨c, u', hc', rfl⟩ := hs
    exact ⟨.str ⟨#[c]⟩, by unfold signL; rw [List.getElem?_map, Array.getElem?_toList, hc']; rfl, ⟨u', rfl⟩⟩
  refine ⟨.ref s.heap.objs.size, upd H s.heap.objs.size (.lst (signL z)), I.laid hk (Nat.le_refl _) (show ObjOk X.prog X.w _ _ _ (.lst _) from ⟨?_, acc.toList, c', vs, ?_⟩), rfl, q _ (I.hok.fresh (Nat.le_refl _))⟩
  · unfold signL; rw [List.length_map, Array.length_toList]; exact hz
  · (rw [Array.toArray_toList]; exact e')
end LG

set_option Elab.async false
set_option linter.all false
set_option maxRecDepth 100000
set_option maxHeartbeats 4100000
namespace LG
open PySem L2
/-! ### names enough: mathematics alone -/
def oneL : List Str := letters.cps.toList.map fun c => ⟨#[c]⟩
def twoL (k : Nat) : List Str := (oneL.take k).flatMap fun a => oneL.map fun b => a ++ b
def allL : List Str := oneL ++ twoL 4
theorem oneL_len : oneL.length = 26 := by decide +kernel
theorem allL_len : allL.length = 130 := by decide +kernel
theorem allL_nodup : allL.Nodup := by decide +kernel
theorem allL_ok : ∀ z ∈ allL, nameB z = true := by decide +kernel
theorem nodup_sub : ∀ {l xs : List Str}, l.Nodup → (∀ z ∈ l, z ∈ xs) → l.length ≤ xs.length
  | [], _, _, _ => (Nat.zero_le _)
  | a :: l, xs, nd, h => by
    rw [List.nodup_cons] at nd
    have ha := h a List.mem_cons_self
    have := nodup_sub (xs := xs.erase a) nd.2 fun z hz => (List.mem_erase_of_ne (show z ≠ a from fun e => nd.1 (by rw [← e]; exact hz))).mpr (h z (List.mem_cons_of_mem _ hz))
    rw [List.length_erase_of_mem ha] at this
    have := List.length_pos_of_mem ha
    rw [List.length_cons]; omega
theorem two_filters {α : Type} (p : α → Bool) : ∀ l : List α, (l.filter p).length + (l.filter fun z => !p z).length = l.length
  | [] => rfl
  | a :: l => by
    have ih := two_filters p l
    (rw [List.filter_cons, List.filter_cons])
    cases h : p a with
    | true => simp only [if_true, Bool.not_true, Bool.false_eq_true, if_false, List.length_cons]; omega
    | false => simp only [Bool.false_eq_true, if_false, Bool.not_false, if_true, List.length_cons]; omega
/-- the names that are left -/
def leftL (xs : List Str) : List Str := allL.filter fun z => !inV (.str z) (xs.map V.str)
theorem inV_mem {xs : List Str} {z : Str} : inV (.str z) (xs.map V.str) = true ↔ z ∈ xs := by
  unfold inV
  rw [List.any_map, List.any_eq_true]
  constructor
  · rintro ⟨y, hy, e⟩
    have : (y == z) = true := e
    rw [beq_iff_eq] at this
    rw [← this]; exact hy
  · intro h
    exact ⟨z, h, (beq_iff_eq (α := Str)).mpr rfl⟩
theorem leftL_len {xs : List Str} (h : xs.length ≤ 60) : 60 ≤ (leftL xs).length := by
  have e := two_filters (fun z => inV (.str z) (xs.map V.str)) allL
  rw [allL_len] at e
  have : (allL.filter fun z => inV (.str z) (xs.map V.str)).length ≤ xs.length := nodup_sub (List.Pairwise.sublist List.filter_sublist allL_nodup) fun z hz => inV_mem.mp (List.mem_filter.mp hz).2
  unfold leftL
  omega
theorem leftL_ok {xs : List Str} {z : Str} (h : z ∈ leftL xs) : nameB z = true ∧ z ∉ xs := by
  unfold leftL at h
  rw [List.mem_filter] at h
  refine ⟨allL_ok z h.1, fun m => ?_⟩
  rw [inV_mem.mpr m] at h
  exact absurd h.2 (by decide)
theorem leftL_nodup {xs : List Str} : (leftL xs).Nodup := List.Pairwise.sublist List.filter_sublist allL_nodup
theorem valV_sm' : ∀ {kvs : List (Key × V)} {k : Key} {v : V}, valV kvs k = some v → (k, v) ∈ kvs
  | p :: r, k, v, h => by
    by_cases e : p.1 = k
    · rw [valV_pos e] at h
      cases h
      rw [← e]; exact List.mem_cons_self
    · rw [valV_neg e] at h
      exact List.mem_cons_of_mem _ (valV_sm' h)
theorem mergeK_val : ∀ {l acc : List (Key × V)} {k : Key}, (l.map (·.1)).Nodup → valV (mergeK acc l) k = match valV l k with
    | some v => some v
    | none => valV acc k
  | [], acc, k, _ => rfl
  | q :: l, acc, k, nd => by
    rw [List.map_cons, List.nodup_cons] at nd
    show valV (mergeK (putK acc q.1 q.2) l) k = _
    rw [mergeK_val nd.2]
    by_cases e : q.1 = k
    · have : valV l k = none := by
        cases r : valV l k with
        | none => rfl
        | some v => exact absurd (List.mem_map.mpr ⟨_, valV_sm' r, e.symm ▸ rfl⟩) nd.1
      rw [this, valV_pos e]
      show valV (putK acc q.1 q.2) k = some q.2
      rw [valV_put, if_pos e.symm]
    · rw [valV_neg e]
      cases valV l k with
      | some v => rfl
      | none => show valV (putK acc q.1 q.2) k = valV acc k; rw [valV_put, if_neg (fun z => e z.symm)]
end LG

set_option Elab.async false
set_option linter.all false
set_option maxRecDepth 100000
set_option maxHeartbeats 8100000
namespace LG
open PySem L2
abbrev sStd : Stmt := top 47
def spStd (K : PySem.W.Frag) : Sp := fun vs H Q _ => ∃ (v : V) (ws : List Wd), vs = [v] ∧ PgAt K H ws v ∧ Woks ws ∧ Whole ws ∧ ws.length ≤ 60 ∧ ∀ a H' nm, H a = none → Same H H' → NmOk ws nm → PgAt K H' (renW ws nm) (.ref a) → Q (.ref a) H'
theorem slice4 : Txt.slice letters none (some 4) = "abcd" := by decide +kernel
theorem twoL_succ {k : Nat} {c : Nat} (h : ("abcd" : Str).cps[k]? = some c) : twoL (k + 1) = twoL k ++ oneL.map fun b => (⟨#[c]⟩ : Str) ++ b := by
  have hk : k < 4 := by
    have := (Array.getElem?_eq_some_iff.mp h).1
    exact this
  have e : oneL[k]? = some (⟨#[c]⟩ : Str) := by
    have : k = 0 ∨ k = 1 ∨ k = 2 ∨ k = 3 := by omega
    rcases this with rfl | rfl | rfl | rfl <;> (have h' := h; revert h'; intro h'; cases h'; decide +kernel)
  unfold twoL
  rw [List.take_add_one, e, List.flatMap_append]
  simp
theorem twoL_len {k : Nat} : (twoL k).length ≤ 26 * 26 := by
  unfold twoL
  rw [List.length_flatMap]
  have : ((oneL.take k).map fun a => (oneL.map fun b => a ++ b).length) = (oneL.take k).map fun _ => 26 := List.map_congr_left fun a _ => by rw [List.length_map, oneL_len]
  rw [this]
  have l : (oneL.take k).length ≤ 26 := by rw [List.length_take, oneL_len]; omega
  generalize oneL.take k = L at l
  have : (L.map fun _ => 26).sum = 26 * L.length := by
    induction L with
    | nil => rfl
    | cons a r ih => rw [List.map_cons, List.sum_cons, ih (by rw [List.length_cons] at l; omega), List.length_cons]; omega
  omega
theorem tkP_nodup {ws : List Wd} {k : Nat} : (tkP ws k).Nodup := List.Pairwise.sublist List.filter_sublist List.nodup_range
def kvT (T : List Nat) (f : Nat → V) : List (Key × V) := T.map fun (t : Nat) => ((.inl (t : Int) : Key), f t)
theorem valV_kvT : ∀ {T : List Nat} {f : Nat → V} {t : Nat}, t ∈ T → valV (kvT T f) (.inl (t : Int)) = some (f t)
  | [], _, _, h => by cases h
  | a :: T, f, t, h => by
    unfold kvT
    rw [List.map_cons]
    by_cases e : a = t
    · rw [e, valV_pos rfl]
    · rw [valV_neg (fun q => e (by injection q with q; exact Int.ofNat.inj q))]
      obtain rfl | h := List.mem_cons.mp h
      · exact absurd rfl e
      · exact valV_kvT h
theorem kvT_nodup {T : List Nat} {f : Nat → V} (h : T.Nodup) : ((kvT T f).map (·.1)).Nodup := by
  unfold kvT
  rw [List.map_map]
  refine List.Pairwise.map (S := fun (a b : Key) => a ≠ b) (R := fun (a b : Nat) => a ≠ b) _ ?_ h
  intro a b ne q
  have q' : (Sum.inl (a : Int) : Key) = .inl (b : Int) := q
  injection q' with q'
  exact ne (Int.ofNat.inj q')
def nmL (xs : List Str) (T : List Nat) (t : Nat) : Str := (leftL xs).getD (T.idxOf t) ""
theorem nmL_at {xs : List Str} {T : List Nat} (nd : T.Nodup) {i : Nat} (h : i < T.length) (hl : T.length ≤ (leftL xs).length) : (leftL xs)[i]? = some (nmL xs T T[i]) := by
  unfold nmL
  rw [List.Nodup.idxOf_getElem nd i h, List.getD_eq_getElem?_getD, List.getElem?_eq_getElem (by omega)]; rfl
theorem nmL_mem {xs : List Str} {T : List Nat} {t : Nat} (h : t ∈ T) (hl : T.length ≤ (leftL xs).length) : nmL xs T t ∈ leftL xs := by
  have hi := List.idxOf_lt_length_iff.mpr h
  unfold nmL
  rw [List.getD_eq_getElem?_getD, List.getElem?_eq_getElem (by omega)]
  exact List.getElem_mem _
theorem nmL_inj {xs : List Str} {T : List Nat} {t u : Nat} (ht : t ∈ T) (hu : u ∈ T) (hl : T.length ≤ (leftL xs).length) (e : nmL xs T t = nmL xs T u) : t = u := by
  have h1 := List.idxOf_lt_length_iff.mpr ht
  have h2 := List.idxOf_lt_length_iff.mpr hu
  unfold nmL at e
  rw [List.getD_eq_getElem?_getD, List.getElem?_eq_getElem (by omega), List.getD_eq_getElem?_getD, List.getElem?_eq_getElem (by omega)] at e
  have e' : (leftL xs)[T.idxOf t] = (leftL xs)[T.idxOf u] := e
  have := (List.getElem_inj leftL_nodup).mp e'
  have a := List.getElem_idxOf h1
  have b := List.getElem_idxOf h2
  rw [← a, ← b]
  simp only [this]
theorem nmL_ok {ws : List Wd} {xs : List Str} (hx : ∀ z, z ∈ xs ↔ 0 < nO ws (opL ws ws.length) z) (hl : (tkP ws ws.length).length ≤ (leftL xs).length) : NmOk ws (nmL xs (tkP ws ws.length)) := by
  have lt : ∀ t, isT ws t = true → t ∈ tkP ws ws.length := fun t h => mem_tkP.mpr ⟨isT_lt h, h⟩
  refine ⟨fun t h => (leftL_ok (nmL_mem (lt t h) hl)).1, fun t u h k e => nmL_inj (lt t h) (lt u k) hl e, fun t p h o e => ?_⟩
  refine (leftL_ok (nmL_mem (lt t h) hl)).2 ((hx _).mpr ?_)
  obtain ⟨z, hz, _⟩ := opn_text o
  have pl : p < ws.length := (List.getElem?_eq_some_iff.mp hz).1
  unfold nO
  refine List.length_pos_of_mem (a := p) (List.mem_filter.mpr ⟨?_, by rw [e]; exact decide_eq_true rfl⟩)
  exact mem_opL.mpr ⟨pl, o⟩
theorem mapS_at {xs : List Str} {j : Nat} {y : V} (h : (xs.map V.str)[j]? = some y) : ∃ z, y = .str z ∧ xs[j]? = some z := by
  rw [List.getElem?_map] at h
  cases e : xs[j]? with
  | none => (rw [e] at h; cases h)
  | some z => rw [e] at h; cases h; exact ⟨z, rfl, rfl⟩
theorem strs_flat {xs : List Str} : (xs.map V.str).all flatV = true := by
  rw [List.all_map, List.all_eq_true]
  exact fun _ _ => rfl
section
variable {P : Program} {w : World} {K : PySem.W.Frag} {mg : Str → Option Value} {base : Heap}
theorem scStd : FnScope ["_law_words", "_law_barred", "_law_letters", "_law_names", "_law_one", "_law_takes_here", "_law_other", "_law_name", "_law_at"] ["_law_words"] (defScope sStd) := ⟨rfl, rfl, rfl, by decide +kernel, rfl, by decide +kernel, by decide +kernel⟩
theorem ok_std {f fW fS fN fT fP : Addr} {fd fdW fdS fdN fdT fdP : FuncData} (F : Fn K mg "_law_standard" sStd ["_law_words"] f fd) (NW : Fn K mg "_law_owners" sOwners ["_law_words"] fW fdW) (NS : Fn K mg "_law_spans" sSpans ["_law_words"] fS fdS) (NN : Fn K mg "_law_named" sNamed ["_law_words", "_law_names"] fN fdN)
    (NT : Fn K mg "_law_takes" sLTakes ["_law_words"] fT fdT) {st : Stmt} (NP : Fn K mg "_law_open" st ["_law_words"] fP fdP) (GP : FnOk P w K mg base CX0 4 fP fdP ["_law_words"] (spLOpn K)) (T : TxB mg) (T2 : TxD mg) : FnOk P w K mg base CX0 5 f fd ["_law_words"] (spStd K) := by
  have GN : FnOk P w K mg base CX0 3 fN fdN ["_law_words", "_law_names"] (spNamed K) := ok_named NN NW NS T T2
  have GT : FnOk P w K mg base CX0 1 fT fdT ["_law_words"] (spLTakes K) := ok_ltakes NT T T2
  refine F.F.ok scStd (fun vs H Q E h => ?_) (fun cdv A outer s H vs Q E hr h => ?_)
  · obtain ⟨_, _, rfl, _⟩ := h
    rfl
  · obtain ⟨v, ws, rfl, hv, hk, wh, w60, kq⟩ := h
    have nd := scStd.nd
    have hu := hu_of hr
    have hr1 := hr.mono (show 1 ≤ 4 by decide)
    have hr3 := hr.mono (show 3 ≤ 4 by decide)
    refine ⟨_, pss_cons (ps_set (i := 1) nd rfl (Or.inr rfl) (pe_call GP hr (by rfl) NP.m NP.F.kp NP.b .nil pass0 (pa_cons (pv 0) pa_nil)))
      (pss_cons (ps_set (i := 2) nd rfl (Or.inl rfl) pe_str)
      (pss_cons (ps_set (i := 3) nd rfl (Or.inr rfl) (pe_callTy (cr_listS rfl) (by rfl) T2.list (by decide +kernel) (pa_cons (pv 2) pa_nil)))
      (pss_cons (ps_for PassesOwn.never rfl (pi_str (pe_slice C8.sl_txt (pv 2) po_none (po_some pe_int))) (pg_name (i := 4) nd rfl (Or.inr rfl))
        (pss_one (ps_expr (pe_bm PySem.F.plainAttrs_list PySem.F.slot_list_extend PySem.F.type_list_extend mt_extend (pv 3) (pa_cons (pe_lc (own := [("_law_other", 6)]) (g := gName 6) (tt := tYes) rfl nd (pi_str (pv 2))
          (blkOk_by (N := ["_law_words", "_law_barred", "_law_letters", "_law_names", "_law_one", "_law_takes_here", "_law_other", "_law_name", "_law_at"]) (sc := defScope sStd) (by decide +kernel)) (fun _ _ _ _ _ => pg_name (i := 6) nd rfl (Or.inl rfl)) (fun _ _ _ _ _ => pts_nil)
          (fun _ _ _ _ _ => pe_op op_add_str (pv 4) (pv 6))) pa_nil)))))
      (pss_cons (ps_set (i := 3) nd rfl (Or.inr rfl) (pe_lc (own := [("_law_name", 7)]) (g := gName 7) (tt := _) rfl nd (pi_list (pv 3))
          (blkOk_by (N := ["_law_words", "_law_barred", "_law_letters", "_law_names", "_law_one", "_law_takes_here", "_law_other", "_law_name", "_law_at"]) (sc := defScope sStd) (by decide +kernel)) (fun _ _ _ _ _ => pg_name (i := 7) nd rfl (Or.inl rfl)) (fun _ _ _ _ _ => pts_one (pt_cmpR (op_notIn_seq : OpR _ _ (rIn K true)) (pv 7) (pv 1) (by rfl)))
          (fun _ _ _ _ _ => pv 7)))
      (pss_cons (ps_set (i := 5) nd rfl (Or.inr rfl) (pe_call GT hr1 (by rfl) NT.m NT.F.kp NT.b .nil pass0 (pa_cons (pv 0) pa_nil)))
      (pss_one (ps_ret (pe_call GN hr3 (by rfl) NN.m NN.F.kp NN.b .nil pass0 (pa_cons (pv 0) (pa_cons (pe_callTy (call_dictP rfl) (by rfl) T2.dict (by decide +kernel) (pa_cons (pe_lc (own := [("_law_at", 8)]) (g := gName 8) (tt := tYes) rfl nd
          (pi_range1 (by rfl) T.range (pa_cons (pe_callB call_len_seq (by rfl) T.len PySem.boot_len (pa_cons (pv 5) pa_nil)) pa_nil))
          (blkOk_by (N := ["_law_words", "_law_barred", "_law_letters", "_law_names", "_law_one", "_law_takes_here", "_law_other", "_law_name", "_law_at"]) (sc := defScope sStd) (by decide +kernel)) (fun _ _ _ _ _ => pg_name (i := 8) nd rfl (Or.inl rfl)) (fun _ _ _ _ _ => pts_nil)
          (fun _ _ _ _ _ => pe_tup (pa_cons (pe_ix (ix_list : IxR _ (rIxL K)) (pv 5) (pv 8) (fun _ _ => rfl)) (pa_cons (pe_ix (ix_list : IxR _ (rIxL K)) (pv 3) (pv 8) (fun _ _ => rfl)) pa_nil)))) pa_nil)) pa_nil)))))))))), ?_⟩
    refine ⟨_, rfl, v, ws, rfl, hv, hk, wh, w60, fun l H1 xs hl s1 hx xnd xm xl _ => ?_⟩
    have fl : H l = none := hl
    have lete : signL letters = oneL.map V.str := by unfold signL oneL; rw [List.map_map]; rfl
    refine ⟨_, rfl, letters, rfl, (by show 26 ≤ sizeLine; decide), fun n1 hn1 => ?_⟩
    rw [lete]
    have fn : H n1 = none := same_none s1 hn1
    have ln : l ≠ n1 := ne_of_none hx hn1
    have s2 := same_new (o := .lst (oneL.map V.str)) s1 hn1
    have x2 : upd H1 n1 (.lst (oneL.map V.str)) l = some (.lst (xs.map V.str)) := by rw [upd_ne ln]; exact hx
    have g2 : upd H1 n1 (.lst (oneL.map V.str)) n1 = some (.lst ((oneL ++ twoL 0).map V.str)) := by
      rw [upd_same, show twoL 0 = [] from rfl, List.append_nil]
    generalize upd H1 n1 (.lst (oneL.map V.str)) = H2 at s2 x2 g2
    refine ⟨_, rfl, 4, rfl, letters, rfl, (by show 26 ≤ sizeLine; decide), _, rfl, ?_⟩
    rw [slice4]
    refine for_it (walk_str (z := "abcd")) (fun i σ H' => ∃ t4, σ = [some v, some (.ref l), some (.str letters), some (.ref n1), t4, none, none, none, none] ∧ Same H H' ∧ H' l = some (.lst (xs.map V.str)) ∧ H' n1 = some (.lst ((oneL ++ twoL i).map V.str))) ⟨none, rfl, s2, x2, g2⟩ (fun _ _ _ _ _ => trivial) ?_ ?_
    · rintro i _ σ Hq H' hi ⟨t4, rfl, h1, h2, h3⟩ ⟨rfl, c, hc, rfl⟩
      refine ⟨_, rfl, .inl ⟨rfl, _, SqL.of h3⟩, _, rfl, letters, rfl, fun D hD => ?_⟩
      have nD : n1 ≠ D := ne_of_none h3 hD
      refine lc_it (walk_str (z := letters)) (fun j G => Same H' G ∧ G D = some (.lst ((oneL.take j).map fun b => V.str ((⟨#[c]⟩ : Str) ++ b)))) ⟨same_new (same_refl H') hD, by rw [List.take_zero]; exact upd_same⟩ (fun _ _ _ _ => trivial) ?_ ?_
      · rintro j _ Gq G hj ⟨a1, a2⟩ ⟨rfl, c2, hc2, rfl⟩
        have e2 : oneL[j]? = some (⟨#[c2]⟩ : Str) := by unfold oneL; rw [List.getElem?_map, Array.getElem?_toList, hc2]; rfl
        refine ⟨rfl, ?_⟩
        refine yes_kept ?_
        refine ⟨_, rfl, _, rfl, _, _, rfl, rfl, (by show 1 + 1 ≤ sizeLine; decide), ?_⟩
        refine ⟨_, a2, (by rw [List.length_map, List.length_take, oneL_len]; exact room2 (by omega)), fun b u q => by rw [upd_ne (ne_of_none q hD)]; exact a1 b u q, ?_⟩
        rw [upd_same, List.take_add_one, e2, List.map_append]; rfl
      · rintro G ⟨a1, a2⟩
        have full : oneL.take letters.cps.size = oneL := List.take_of_length_le (by rw [oneL_len]; decide)
        rw [full] at a2
        have b1 := oneL_len
        have b2 := twoL_len (k := i)
        refine ⟨n1, D, _, _, rfl, rfl, a1 _ _ h3, a2, (by rw [List.length_map, List.length_map, List.length_append]; exact big2 (by omega)), ?_⟩
        refine ⟨_, rfl, fun b u q => by rw [upd_ne (ne_of_none q fn)]; exact a1 _ _ (h1 b u q), by rw [upd_ne ln]; exact a1 _ _ h2, ?_⟩
        rw [upd_same, twoL_succ hc, ← List.append_assoc, List.map_append (l₁ := oneL ++ twoL i), List.map_map]; rfl
    · rintro σ H3 ⟨t4, rfl, h1, h2, h3⟩
      have h3 : H3 n1 = some (.lst (allL.map V.str)) := h3
      refine ⟨_, rfl, n1, rfl, ⟨_, SqL.of h3⟩, fun n2 hn2 => ?_⟩
      have l2 : l ≠ n2 := ne_of_none h2 hn2
      refine lc_it (walk_list (xs := allL.map V.str)) (fun j G => Same H G ∧ G l = some (.lst (xs.map V.str)) ∧ G n1 = some (.lst (allL.map V.str)) ∧ G n2 = some (.lst (((allL.take j).filter fun z => !inV (.str z) (xs.map V.str)).map V.str))) ?_ ?_ ?_ ?_
      · exact ⟨same_trans h1 (same_new (same_refl _) hn2), by rw [upd_ne l2]; exact h2, by rw [upd_ne (ne_of_none h3 hn2)]; exact h3, by rw [List.take_zero]; exact upd_same⟩
      · exact fun j G _ q => SqL.of q.2.2.1
      · rintro j _ Gq G hj ⟨g1, g2, g3, g4⟩ ⟨rfl, gy⟩
        rw [List.length_map, allL_len] at hj
        obtain ⟨z, ez, hz⟩ := mapS_at gy
        subst ez
        refine ⟨rfl, ?_⟩
        refine ⟨_, rfl, _, rfl, l, _, rfl, .inl (SqL.of g2), rfl, strs_flat, ?_⟩
        have ll : (((allL.take j).filter fun z => !inV (.str z) (xs.map V.str)).map V.str).length ≤ 130 := by
          rw [List.length_map]; exact Nat.le_trans (List.length_filter_le _ _) (by rw [List.length_take, allL_len]; omega)
        have tk : allL.take (j + 1) = allL.take j ++ [z] := by rw [List.take_add_one, hz]; rfl
        refine ⟨_, rfl, ?_⟩
        refine ite2 (fun c => ?_) (fun c => ?_)
        · have c : (!inV (.str z) (xs.map V.str)) = true := c
          refine ⟨_, rfl, _, g4, room2 (by omega), fun b u q => by rw [upd_ne (ne_of_none q (same_none h1 hn2))]; exact g1 b u q, by rw [upd_ne l2]; exact g2, by rw [upd_ne (ne_of_none h3 hn2)]; exact g3, ?_⟩
          rw [upd_same, tk, List.filter_append, List.filter_cons, if_pos c, List.map_append]; rfl
        · have c : ¬(!inV (.str z) (xs.map V.str)) = true := c
          refine ⟨g1, g2, g3, ?_⟩
          rw [tk, List.filter_append, List.filter_cons, if_neg c, List.filter_nil, List.append_nil]; exact g4
      · rintro G ⟨g1, g2, g3, g4⟩
        have g4 : G n2 = some (.lst ((leftL xs).map V.str)) := by
          rw [g4]
          unfold leftL
          rw [List.take_of_length_le (by rw [List.length_map]; exact Nat.le_refl _)]
        clear g3 h3
        refine ⟨_, rfl, v, ws, rfl, hv.same g1, hk, fun lt G1 hlt k1 hT => ?_⟩
        have g5 := k1 _ _ g4
        have s4 := same_trans g1 k1
        have tl := tkP_len (ws := ws) (k := ws.length)
        refine ⟨_, rfl, _, rfl, _, _, rfl, .inl (SqL.of hT), _, rfl, (by rw [intL_len]; omega), (by rw [intL_len]; have := line63; omega), fun D hD => ?_⟩
        rw [intL_len, show (((tkP ws ws.length).length : Int)).toNat = (tkP ws ws.length).length by omega]
        have nr := leftL_len (xs := xs) (Nat.le_trans xl (Nat.le_trans opL_len w60))
        have hlen : (tkP ws ws.length).length ≤ (leftL xs).length := by omega
        have tnd := tkP_nodup (ws := ws) (k := ws.length)
        have nok := nmL_ok xm hlen
        have fT : lt ≠ D := ne_of_none hT hD
        have n2D : n2 ≠ D := ne_of_none g5 hD
        have nD : H D = none := same_none s4 hD
        refine lc_range (lo := 0) (n := (tkP ws ws.length).length) (fun i H' => Same H H' ∧ H' lt = some (.lst (intL (tkP ws ws.length))) ∧ H' n2 = some (.lst ((leftL xs).map V.str)) ∧ ∃ ps, H' D = some (.lst (ps.map V.ref)) ∧ Paired (fun p kv => H' p = some (.tup [kV kv.1, kv.2])) ps (kvT ((tkP ws ws.length).take i) fun t => .str (nmL xs (tkP ws ws.length) t))) ?_ ?_ ?_
        · exact ⟨same_trans s4 (same_new (same_refl _) hD), by rw [upd_ne fT]; exact hT, by rw [upd_ne n2D]; exact g5, [], upd_same, by rw [List.take_zero]; exact .nil⟩
        · rintro i G2 hi ⟨b1, b2, b3, ps, b4, b5⟩
          refine ⟨rfl, ?_⟩
          refine yes_kept ?_
          rw [Int.zero_add]
          have et : (tkP ws ws.length)[i]? = some (tkP ws ws.length)[i] := List.getElem?_eq_getElem hi
          have en := nmL_at (xs := xs) tnd hi hlen
          have eT : (intL (tkP ws ws.length))[i]? = some (.int ((tkP ws ws.length)[i] : Int)) := by unfold intL; rw [List.getElem?_map, et]; rfl
          have eN : ((leftL xs).map V.str)[i]? = some (.str (nmL xs (tkP ws ws.length) (tkP ws ws.length)[i])) := by rw [List.getElem?_map, en]; rfl
          have pl : ps.length = i := by have := b5.length; unfold kvT at this; rw [List.length_map, List.length_take] at this; omega
          refine ⟨_, rfl, _, rfl, lt, _, _, _, rfl, rfl, SqL.of b2, atI_nat eT, _, rfl, _, rfl, n2, _, _, _, rfl, rfl, SqL.of b3, atI_nat eN, (by show 2 ≤ sizeLine; decide), fun p hp => ?_⟩
          have pD : D ≠ p := ne_of_none b4 hp
          have g := same_new (o := .tup [.int ((tkP ws ws.length)[i] : Int), .str (nmL xs (tkP ws ws.length) (tkP ws ws.length)[i])]) (same_refl G2) hp
          refine ⟨_, g _ _ b4, (by rw [List.length_map, pl]; exact room2 (by omega)), fun b u q => by rw [upd_ne (ne_of_none q nD)]; exact g _ _ (b1 b u q), by rw [upd_ne fT]; exact g _ _ b2, by rw [upd_ne n2D]; exact g _ _ b3, ps ++ [p], by rw [upd_same, List.map_append]; rfl, ?_⟩
          have tk : kvT ((tkP ws ws.length).take (i + 1)) (fun t => .str (nmL xs (tkP ws ws.length) t)) = kvT ((tkP ws ws.length).take i) (fun t => .str (nmL xs (tkP ws ws.length) t)) ++ [(.inl ((tkP ws ws.length)[i] : Int), .str (nmL xs (tkP ws ws.length) (tkP ws ws.length)[i]))] := by
            unfold kvT; rw [List.take_add_one, et, List.map_append]; rfl
          rw [tk]
          refine (b5.mono fun q kv hq => ?_).snoc (by rw [upd_ne pD.symm]; exact upd_same)
          have qD : q ≠ D := fun e => by rw [e, b4] at hq; cases hq
          rw [upd_ne qD]; exact g _ _ hq
        · rintro G2 ⟨b1, b2, b3, ps, b4, b5⟩
          rw [List.take_of_length_le (Nat.le_refl _)] at b5
          refine ⟨D, ps, _, rfl, SqL.of b4, b5.mono fun q kv hq => SqT.of hq, fun dn hdn => ?_⟩
          have s6 := same_new (o := .dK (mergeK [] (kvT (tkP ws ws.length) fun t => .str (nmL xs (tkP ws ws.length) t)))) b1 hdn
          refine ⟨v, ws, dn, _, nmL xs (tkP ws ws.length), rfl, hv.same s6, hk, wh, upd_same, fun t ht => ⟨?_, nok.nb t ht⟩, fun a H9 ha s9 hp => kq a H9 _ (same_none s6 ha) (same_trans s6 s9) nok hp⟩
          rw [mergeK_val (kvT_nodup tnd), valV_kvT (mem_tkP.mpr ⟨isT_lt ht, ht⟩)]
end
end LG

set_option Elab.async false
set_option linter.all false
set_option maxRecDepth 100000
set_option maxHeartbeats 2000000
namespace LG
open PySem L2
/-! ### all counts together are as many as names stand: mathematics alone -/
def nameW : Wd → Bool
  | .st z => decide (z ≠ "@")
  | _ => false
def isN (ws : List Wd) (p : Nat) : Bool := match ws[p]? with
  | some w => nameW w
  | none => false
def nmL2 (ws : List Wd) : List Wd := ws.filter nameW
/-- the key under which a place is counted -/
def keyOf (ws : List Wd) (p : Nat) : Option Key := match own ws p with
  | some t => some (.inl (t : Int))
  | none => if opn ws p = true then (textAt ws p).map .inr else none
def nK (ws : List Wd) (k : Key) : Nat := ((List.range ws.length).filter fun p => decide (keyOf ws p = some k)).length
theorem keyOf_inl {ws : List Wd} {p : Nat} {j : Int} : keyOf ws p = some (.inl j) ↔ ownI ws p = some j := by
  unfold keyOf ownI
  cases own ws p with
  | some t =>
    constructor
    · intro h
      have h : some (Sum.inl (t : Int) : Key) = some (.inl j) := h
      injection h with h; injection h with h; rw [← h]; rfl
    · intro h
      have h : some (t : Int) = some j := h
      injection h with h
      show some (Sum.inl (t : Int) : Key) = some (.inl j)
      rw [h]
  | none =>
    constructor
    · intro h
      dsimp only at h
      split at h
      · cases e : textAt ws p with
        | none => (rw [e] at h; cases h)
        | some z => (rw [e] at h; cases h)
      · cases h
    · intro h; cases h
theorem keyOf_inr {ws : List Wd} {p : Nat} {z : Str} : keyOf ws p = some (.inr z) ↔ (opn ws p = true ∧ textAt ws p = some z) := by
  constructor
  · intro h
    unfold keyOf at h
    cases o : own ws p with
    | some t => rw [o] at h; cases h
    | none =>
      rw [o] at h
      dsimp only at h
      split at h
      · rename_i q
        refine ⟨q, ?_⟩
        cases e : textAt ws p with
        | none => (rw [e] at h; cases h)
        | some y =>
          rw [e] at h
          have h : some (Sum.inr y : Key) = some (.inr z) := h
          injection h with h; injection h with h; rw [h]
      · cases h
  · rintro ⟨q, e⟩
    obtain ⟨_, _, _, _, o⟩ := opn_text q
    unfold keyOf
    rw [o]
    dsimp only
    rw [if_pos q, e]; rfl
theorem cntF_nK {ws : List Wd} {k : Key} {v : V} (h : cntF ws k = some v) : v = .int (nK ws k : Int) := by
  unfold cntF cf at h
  cases k with
  | inl j =>
    dsimp only at h
    split at h
    · injection h with h
      rw [← h]
      have : nT ws ws.length j = nK ws (.inl j) := by
        unfold nT nK
        congr 1
        exact List.filter_congr fun p _ => by rw [decide_eq_decide]; exact keyOf_inl.symm
      rw [this]
    · cases h
  | inr z =>
    dsimp only at h
    split at h
    · cases h
    · injection h with h
      rw [← h]
      have : nO ws (opL ws ws.length) z = nK ws (.inr z) := by
        unfold nO nK opL
        rw [List.filter_filter]
        congr 1
        refine List.filter_congr fun p _ => ?_
        rw [Bool.eq_iff_iff, Bool.and_eq_true, decide_eq_true_eq, decide_eq_true_eq]
        exact ⟨fun q => keyOf_inr.mpr ⟨q.2, q.1⟩, fun q => ⟨(keyOf_inr.mp q).2, (keyOf_inr.mp q).1⟩⟩
      rw [this]
theorem keyOf_cnt {ws : List Wd} {p : Nat} {k : Key} (hp : p < ws.length) (h : keyOf ws p = some k) : ∃ v, cntF ws k = some v := by
  cases k with
  | inl j =>
    have o := keyOf_inl.mp h
    unfold ownI at o
    cases q : own ws p with
    | none => rw [q] at o; cases o
    | some t =>
      rw [q] at o
      have o : some (t : Int) = some j := o
      injection o with o
      obtain ⟨_, _, _, _, tt, _⟩ := own_some q
      refine ⟨.int (nT ws ws.length j : Int), ?_⟩
      unfold cntF cf
      dsimp only
      rw [if_pos (List.any_eq_true.mpr ⟨t, mem_tkP.mpr ⟨isT_lt tt, tt⟩, decide_eq_true o⟩)]
  | inr z =>
    obtain ⟨o, e⟩ := keyOf_inr.mp h
    refine ⟨.int (nO ws (opL ws ws.length) z : Int), ?_⟩
    unfold cntF cf
    dsimp only
    rw [if_neg]
    intro q
    unfold nO at q
    have := List.length_pos_of_mem (a := p) (l := (opL ws ws.length).filter fun p => decide (textAt ws p = some z)) (List.mem_filter.mpr ⟨mem_opL.mpr ⟨hp, o⟩, decide_eq_true e⟩)
    omega
theorem keyOf_isN {ws : List Wd} (hk : Woks ws) {p : Nat} : (keyOf ws p).isSome = isN ws p := by
  cases o : own ws p with
  | some t =>
    obtain ⟨z, hz, nz, _⟩ := own_some o
    have zn : z ≠ "@" := by
      rintro rfl
      rw [own_use hk hz] at o; cases o
    have a : keyOf ws p = some (.inl (t : Int)) := by unfold keyOf; rw [o]
    have b : isN ws p = true := by unfold isN; rw [hz]; exact decide_eq_true zn
    rw [a, b]; rfl
  | none =>
    have a : keyOf ws p = if opn ws p = true then (textAt ws p).map .inr else none := by unfold keyOf; rw [o]
    rw [a]
    unfold opn textAt isN
    cases e : ws[p]? with
    | none => rfl
    | some w =>
      rw [o]
      cases w with
      | st z =>
        show (if (decide (z ≠ "@") && true) = true then some (Sum.inr z : Key) else none).isSome = decide (z ≠ "@")
        rw [Bool.and_true]
        cases decide (z ≠ "@") <;> rfl
      | pr o t => rfl
      | no => rfl
theorem disj_len {α : Type} (p q : α → Bool) : ∀ (l : List α), (∀ a ∈ l, p a = true → q a = false) → (l.filter fun a => p a || q a).length = (l.filter p).length + (l.filter q).length
  | [], _ => rfl
  | a :: l, h => by
    have ih := disj_len p q l fun b hb => h b (List.mem_cons_of_mem _ hb)
    have ha := h a List.mem_cons_self
    rw [List.filter_cons, List.filter_cons, List.filter_cons]
    cases c : p a with
    | true =>
      rw [ha c]
      simp only [Bool.true_or, if_true, Bool.false_eq_true, if_false, List.length_cons]
      omega
    | false =>
      cases d : q a with
      | true => simp only [Bool.or_true, if_true, Bool.false_eq_true, if_false, List.length_cons]; omega
      | false => simp only [Bool.or_false, Bool.false_eq_true, if_false]; exact ih
theorem any_keys {ks : List Key} {k : Key} : (ks.any fun j => decide (some k = some j)) = true ↔ k ∈ ks := by
  rw [List.any_eq_true]
  constructor
  · rintro ⟨j, hj, e⟩
    rw [decide_eq_true_eq] at e
    injection e with e
    rw [e]; exact hj
  · exact fun h => ⟨k, h, decide_eq_true rfl⟩
def inK (ks : List Key) : Option Key → Bool
  | some k => ks.any fun j => decide (some k = some j)
  | none => false
theorem sum_keys (L : List Nat) (f : Nat → Option Key) : ∀ {ks : List Key}, ks.Nodup → (ks.map fun k => (L.filter fun p => decide (f p = some k)).length).sum = (L.filter fun p => inK ks (f p)).length
  | [], _ => by
    have : (L.filter fun p => inK [] (f p)) = [] := List.filter_eq_nil_iff.mpr fun p _ => by
      cases f p with
      | none => exact fun h => nomatch h
      | some k => exact fun h => nomatch any_keys.mp h
    rw [this]; rfl
  | k :: ks, nd => by
    rw [List.nodup_cons] at nd
    rw [List.map_cons, List.sum_cons, sum_keys L f nd.2, ← disj_len]
    · congr 1
      refine List.filter_congr fun p _ => ?_
      cases f p with
      | none => rfl
      | some j =>
        show (decide (some j = some k) || ks.any fun i => decide (some j = some i)) = ((k :: ks).any fun i => decide (some j = some i))
        rfl
    · intro p _ h
      rw [decide_eq_true_eq] at h
      rw [h]
      show (ks.any fun i => decide (some k = some i)) = false
      rw [Bool.eq_false_iff]
      exact fun q => nd.1 (any_keys.mp q)
theorem range_ws {ws : List Wd} : ∀ {k : Nat}, k ≤ ws.length → ((List.range k).filter (isN ws)).length = ((ws.take k).filter nameW).length
  | 0, _ => by rw [List.take_zero]; rfl
  | k + 1, h => by
    have ih := range_ws (ws := ws) (k := k) (by omega)
    have e : ws[k]? = some ws[k] := List.getElem?_eq_getElem (by omega)
    have n : isN ws k = nameW ws[k] := by unfold isN; rw [e]
    rw [List.range_succ, List.filter_append, List.take_add_one, e, List.filter_append, List.length_append, List.length_append, ih]
    show _ + ([k].filter (isN ws)).length = _ + ([ws[k]].filter nameW).length
    rw [List.filter_cons, List.filter_cons, n]
    cases nameW ws[k] <;> rfl
theorem cnt_ints {ws : List Wd} {kvs : List (Key × V)} (C : Cnt (cntF ws) kvs) {q : Key × V} (h : q ∈ kvs) : q.2 = .int (nK ws q.1 : Int) := by
  obtain ⟨k, v⟩ := q
  have := valV_mem C.1 h
  rw [C.2] at this
  exact cntF_nK this
theorem cnt_sum {ws : List Wd} (hk : Woks ws) {kvs : List (Key × V)} (C : Cnt (cntF ws) kvs) : (kvs.map fun q => nK ws q.1).sum = (ws.filter nameW).length := by
  have := sum_keys (List.range ws.length) (keyOf ws) C.1
  rw [List.map_map] at this
  show (kvs.map ((fun k => nK ws k) ∘ (·.1))).sum = _
  unfold nK
  rw [this]
  have r := range_ws (ws := ws) (Nat.le_refl _)
  rw [List.take_length] at r
  rw [← r]
  congr 1
  refine (List.filter_congr fun p hp => ?_)
  rw [List.mem_range] at hp
  rw [← keyOf_isN hk]
  cases e : keyOf ws p with
  | none => rfl
  | some k =>
    obtain ⟨v, hv⟩ := keyOf_cnt hp e
    have hv' : valV kvs k = some v := by rw [C.2]; exact hv
    exact any_keys.mpr (List.mem_map.mpr ⟨_, valV_sm' hv', rfl⟩)
end LG

set_option Elab.async false
set_option linter.all false
set_option maxRecDepth 100000
set_option maxHeartbeats 4100000
namespace LG
open PySem PySem.Spec PyProof.Rows L2
open PySem.Froz (SD sObj TxOk tailTx addTx add_x add_ok is_str get_upd)
/-! ### set(xs) and sorted(that set), xs a list of texts -/
theorem tail_perm {ep : Nat} {es : Array (Int × Value)} {t : SetTable} {b : Bool} : (tailTx ep es t b).1.toList.Perm es.toList := by
  unfold tailTx
  split
  · exact relayAll_perm t es _
  · exact List.Perm.refl _
theorem tail_ris {ep : Nat} {es : Array (Int × Value)} {t : SetTable} {b : Bool} (h : Ris t.place.toList) : Ris (tailTx ep es t b).2.2.place.toList := by
  unfold tailTx
  split
  · exact relayAll_ris t es _
  · exact h
theorem tail_led {ep : Nat} {es : Array (Int × Value)} {t : SetTable} {b : Bool} : (tailTx ep es t b).2.2.led = t.led := by
  unfold tailTx
  split
  · exact relayAll_led t es _
  · rfl
theorem add_perm {h : Int} {v : Value} {D : SD} : (addTx h v D).1.toList.Perm ((h, v) :: D.1.toList) := by
  have p := layNew_perm D.2.2 D.1 h v
  rw [Array.toList_push] at p
  exact tail_perm.trans (p.trans (List.perm_append_singleton _ _))
theorem add_ris {h : Int} {v : Value} {D : SD} (r : Ris D.2.2.place.toList) : Ris (addTx h v D).2.2.place.toList := by
  have q := layNew_ris D.2.2 D.1 h v r
  refine tail_ris ?_
  split <;> exact q
theorem add_led {h : Int} {v : Value} {D : SD} : (addTx h v D).2.2.led = D.2.2.led := by
  have q := layNew_led D.2.2 D.1 h v
  refine tail_led.trans ?_
  split <;> exact q
/-- at a stands a set of just the texts l, which can be walked -/
structure TxtSet (P : Program) (w : World) (h : Heap) (a : Addr) (l : List Str) : Prop where
  at_ : ∃ D : SD, h.get? a = some (sObj "set" D) ∧ TxOk P w D l ∧ Ris D.2.2.place.toList ∧ (w.params.followText "set-order" = true ∨ D.2.2.led = true) ∧
    (∀ e ∈ D.1.toList, ∃ x t, e.2 = Value.str x t) ∧ (D.1.toList.map fun e => strOf e.2).Perm l
  nd : l.Nodup
section
variable {P : Program} {w : World} {A : Around} {E : Value → Shared → Prop} {s : Shared} {a : Addr} {l : List Str}
theorem TxtSet.keep {h h' : Heap} (R : TxtSet P w h a l) (k : ∀ o, h.get? a = some o → h'.get? a = some o) : TxtSet P w h' a l := by
  obtain ⟨⟨D, ho, r⟩, n⟩ := R
  exact ⟨⟨D, k _ ho, r⟩, n⟩
theorem txt_add {k : Str} {u : Tok} {Q : Bool → Shared → Prop} (R : TxtSet P w s.heap a l) (room : l.length + 1 < scanBound)
    (hQ : ∀ (h' : Heap) (l' : List Str) (b : Bool), Heap.SameBut a s.heap h' → TxtSet P w h' a l' → (∀ z, z ∈ l' ↔ z ∈ l ∨ z = k) → l'.length ≤ l.length + 1 → Q b { s with heap := h' }) :
    wpAny (model P w) A (setAddHashed a (.str k u) (hashStr w k)) Q E s := by
  obtain ⟨⟨D, ho, F, ri, le, st, pm⟩, nd⟩ := id R
  by_cases hk : k ∈ l
  · obtain ⟨es, ep, t⟩ := D
    have hd : (sObj "set" (es, ep, t)).data = .set es ep t := rfl
    have fi : t.fits es.size = true := F.fit
    have el : ElemsOf (strKind P w) es.toList := F.el
    have few : es.size < scanBound := by
      have q : es.size = l.length := F.sz
      omega
    have kk : (strKind P w).is k (.str k u) = true := is_str k u
    (unfold setAddHashed setAddHashedIn)
    refine wpAny_holding (wpAny_bind (wpAny_setState_of ho hd fi ?_))
    dsimp only
    rw [byScan_of rfl few el]
    simp only [↓reduceIte]
    unfold setAddByScan
    refine wpAny_bind (wpAny_bind (wpAny_rule (wpAny_bind (wpAny_setScan_of kk ho hd fi el ?_))))
    cases c : List.findIdx? (fun e => (strKind P w).is k e.2) es.toList with
    | none =>
      obtain ⟨e, he, q⟩ := (F.mem k).mp hk
      rw [List.findIdx?_eq_none_iff] at c
      exact absurd q (by rw [c e he]; exact Bool.false_ne_true)
    | some j =>
      dsimp only
      exact wpAny_pure (wpAny_pure (hQ s.heap l false (Heap.SameBut.refl a s.heap) R (fun z => ⟨.inl, fun q => q.elim id fun e => e ▸ hk⟩) (Nat.le_succ _)))
  · refine add_x ho F hk room (hQ _ (k :: l) true (Heap.SameBut.update s.heap a _) ⟨⟨_, get_upd _ ho rfl, add_ok u F, add_ris ri, le.imp id fun z => by rw [add_led]; exact z, fun e he => ?_, ?_⟩, List.nodup_cons.mpr ⟨hk, nd⟩⟩ (fun z => by rw [List.mem_cons]; exact Or.comm) (Nat.le_refl _))
    · rcases List.mem_cons.mp (add_perm.mem_iff.mp he) with q | q
      · exact ⟨k, u, by rw [q]⟩
      · exact st e q
    · have q := (add_perm (h := hashStr w k) (v := Value.str k u) (D := D)).map fun e => strOf e.2
      rw [List.map_cons] at q
      exact q.trans (List.Perm.cons k pm)
theorem txt_loop {I : Addr} {fp wr : List Addr} {G : Array GenState → Array GenState → Prop} {n : Nat} {Pv : Nat → Value → Prop} {St : Nat → Shared → Prop} {R : Result → Shared → Prop}
    (W : WalksS P w A.in1 I fp wr G n Pv St) (S : Addr) (off : S ∉ fp) (xs : List Str) (en : n = xs.length) (room : xs.length + 1 < scanBound) (each : ∀ i v, Pv i v → ∃ z t, xs[i]? = some z ∧ v = Value.str z t) :
    ∀ (m i : Nat) (s : Shared), i + m = n → St i s → (∃ l, l.length ≤ i ∧ TxtSet P w s.heap S l ∧ ∀ z, z ∈ l ↔ z ∈ xs.take i) →
      (∀ s' l, Moved (S :: wr) G s s' → l.length ≤ n → TxtSet P w s'.heap S l → (∀ z, z ∈ l ↔ z ∈ xs) → R (.ok (.ret .none)) s') →
      codeAny (model P w) A (.builtin
          "set.update.loop" ⟨[.ref S, .ref I], []⟩) R s := by
  have nw : S ∉ wr := fun h => off (W.sub _ h)
  have wide : ∀ b ∈ wr, b ∈ S :: wr := fun b h => List.mem_cons_of_mem _ h
  intro m
  induction m with
  | zero =>
    intro i s im st ⟨l, hl, hS, hz⟩ fin
    have ei : i = n := im
    subst ei
    refine (codeAny_builtin F.entry_set_update_loop ?_)
    (rw [Around.under_plainId F.plain_set_update_loop _])
    (show wpAny _ A.in1 (pyNext (.ref I) >>= _) _ _ s)
    refine wpAny_bind (W.done s _ _ st fun s' mv => wpAny_pure (fin s' l (mv.mono wide) hl (hS.keep fun o e => mv.heap S o nw e) ?_))
    rw [List.take_of_length_le (Nat.le_of_eq en.symm)] at hz
    exact hz
  | succ m ih =>
    intro i s im st ⟨l, hl, hS, hz⟩ fin
    have lt : i < n := by omega
    refine (codeAny_builtin F.entry_set_update_loop ?_)
    (rw [Around.under_plainId F.plain_set_update_loop _])
    (show wpAny _ A.in1 (pyNext (.ref I) >>= _) _ _ s)
    refine wpAny_bind (W.item i s _ _ lt st fun v s' hv st' mv => ?_)
    obtain ⟨z, t, ez, rfl⟩ := each i v hv
    show wpAny _ A.in1 (holding [Value.str z t] (setAdd S (.str z t)) >>= _) _ _ s'
    refine (wpAny_bind (wpAny_holding ?_))
    unfold setAdd
    refine wpAny_holding (wpAny_bind ((strKind P w).pyHash (k := z) (is_str _ _) ?_))
    refine txt_add (s := { s' with toks := s'.toks + 1 }) (hS.keep fun o e => mv.heap S o nw e) (by omega) fun h' l' _ sb R' mem len => ?_
    refine wpAny_pure ⟨plainId_quiet F.plain_set_update_loop _, ih (i + 1) _ (by omega) (W.frame _ s' _ _ st' (Nat.le_succ _) fun b hb o e => ?_) ⟨l', by omega, R', fun y => ?_⟩ fun s2 l2 mv2 h2 R2 z2 => fin s2 l2 (Moved.trans W.gtrans ((mv.mono wide).then_heap (Nat.le_succ _) fun b o hb e => ?_) mv2) h2 R2 z2⟩
    · rw [sb.2 b (fun q : b = S => off (q ▸ hb))]; exact e
    · rw [mem, hz, List.take_add_one, ez, List.mem_append]
      exact or_congr Iff.rfl (by simp)
    · rw [sb.2 b (fun q : b = S => hb (q ▸ List.mem_cons_self))]; exact e
end
end LG

set_option Elab.async false
set_option linter.all false
set_option maxRecDepth 100000
set_option maxHeartbeats 4100000
namespace LG
open PySem PySem.Spec PyProof.Rows L2
open PySem.Froz (SD sObj TxOk)
/-- a set as it is made: empty -/
def emptyS (w : World) : Obj := { cls := .type "set", dict := none, data := .set #[] 0 (.fresh 0 0 (!w.params.followText "set-order")) }
section
variable {P : Program} {w : World} {A : Around} {E : Value → Shared → Prop} {s : Shared} {a : Addr} {l : List Str}
theorem txt_none {h : Heap} (ho : h.get? a = some (emptyS w)) : TxtSet P w h a [] := by
  refine ⟨⟨(#[], 0, .fresh 0 0 (!w.params.followText "set-order")), ho, PySem.Froz.TxOk.nil (by rfl), List.Pairwise.nil, ?_, fun e he => by simp at he, List.Perm.refl _⟩, List.nodup_nil⟩
  (show _ ∨ (!w.params.followText "set-order") = true)
  cases w.params.followText "set-order" <;> simp
/-- set.__init__ of a new set and a list of texts -/
theorem txt_init {c : Addr} {items : Array Value} {xs : List Str} {R : PySem.Fin → Shared → Prop} (calm : A.handled = none) (ho : s.heap.get? a = some (emptyS w)) (hl : s.heap.IsList c items) (ne : c ≠ a) (hi : StrsAre items.toList xs) (room : xs.length + 1 < scanBound)
    (fin : ∀ s' l, (∀ b o, b ≠ a → s.heap.get? b = some o → s'.heap.get? b = some o) → s'.gens = s.gens → s'.drawn = s.drawn → s'.os = s.os → l.length ≤ xs.length → TxtSet P w s'.heap a l → (∀ z, z ∈ l ↔ z ∈ xs) → R (.done (.ret .none)) s') :
    wpAny (model P w) A (Builtin.«set.__init__» ⟨[.ref a, .ref c], []⟩) R E s := by
  have alt : a < s.heap.objs.size := Heap.lt_size ho
  have clt : c < s.heap.objs.size := by
    obtain ⟨o, h, _⟩ := hl
    exact Heap.lt_size h
  have n := StrsAre.length hi
  rw [Array.length_toList] at n
  have each : ∀ (i : Nat) (v : Value), items[i]? = some v → ∃ z t, xs[i]? = some z ∧ v = Value.str z t := fun i v hv => by
    have lt : i < xs.length := by
      have := (Array.getElem?_eq_some_iff.mp hv).1
      omega
    obtain ⟨t, e⟩ := SS.strs_at hi i v (by rw [Array.getElem?_toList]; exact hv)
    exact ⟨xs[i], t, List.getElem?_eq_getElem lt, by rw [e, List.getD_eq_getElem?_getD, List.getElem?_eq_getElem lt]; rfl⟩
  obtain ⟨⟨oc, od, odt, osl⟩, hc, hcl, nl, hdl⟩ := id hl
  simp only at hcl hdl
  subst hcl; subst hdl
  have T : s.TypeIs (.ref a) "set" := ⟨_, ho, rfl⟩
  have s1 := F.sub_list_set
  have s2 := F.sub_list_frozenset
  have nd : (Value.type "list" == Value.type "dict") = false := by decide
  have off : a ∉ [s.heap.objs.size, c] := by
    simp only [List.mem_cons, List.not_mem_nil, or_false, not_or]
    exact ⟨Nat.ne_of_lt alt, ne.symm⟩
  (unfold Builtin.«set.__init__» noKeywords Builtin.Frozenset.updateFrom)
  generalize hPI : pyIter = PI
  wp_walk
  subst hPI
  refine wpAny_pyIter_list hl ?_
  refine (wpAny_bind (wpAny_runValue ?_))
  refine txt_loop ((Walks.list (by simp [calm]) _ c (Nat.ne_of_lt clt) items).toS) a off xs (by omega) room each items.size 0 _ (Nat.zero_add _)
    ⟨⟨_, Heap.get?_push_size _ rfl, rfl, rfl⟩, hl.push _⟩ ⟨[], Nat.le_refl _, txt_none (Heap.get?_push_of_some _ ho), fun z => by simp⟩ fun s' l mv hl' R' hz => ?_
  show wpAny _ _ _ _ _ _
  refine wpAny_pure ?_
  (show wpAny _ _ (ret Value.none) _ _ _)
  refine wpAny_pure (fin s' l (fun b o nb e => mv.heap b o ?_ (Heap.get?_push_of_some _ e)) mv.gens mv.drawn mv.os (by omega) R' hz)
  simp only [List.mem_cons, List.not_mem_nil, or_false, not_or]
  exact ⟨nb, Nat.ne_of_lt (Heap.lt_size e)⟩
end
end LG

set_option Elab.async false
set_option linter.all false
set_option maxRecDepth 100000
set_option maxHeartbeats 4100000
namespace LG
open PySem PySem.Spec PyProof.Rows L2
section
variable {P : Program} {w : World} {A :
    Around} {E : Value → Shared → Prop} {s : Shared}
/-- set(xs) -/
theorem txt_call {c : Addr} {items : Array Value} {xs : List Str} {Q : Value → Shared → Prop} (calm : A.handled = none) (hl : s.heap.IsList c items) (hi : StrsAre items.toList xs) (room : xs.length + 1 < scanBound)
    (fin : ∀ (h' : Heap) (tk : Tok) (l : List Str), (∀ b o, s.heap.get? b = some o → h'.get? b = some o) → TxtSet P w h' s.heap.objs.size l → (∀ z, z ∈ l ↔ z ∈ xs) → l.length ≤ xs.length → Q (.ref s.heap.objs.size) { s with heap := h', toks := tk }) :
    wpAny (model P w) A (call (.type "set") [.ref c]) Q E s := by
  obtain ⟨k0, tl, hmro⟩ := F.called_set.mro
  (have hmade := F.called_set.made)
  have hsub := F.called_set.sub
  (have h1 := F.called_set.notType)
  (have h2 := F.called_set.canCreate)
  have hct := F.typeCall_set_1 (.ref c)
  refine (wpAny_call (codeAny_of_tree ?_))
  (show wpAny _ _ (callAny (.type "set") _) _ _ _)
  refine (wpAny_pure ⟨Code.quiet_builtin _ (by decide +kernel), codeAny_builtin F.entry_type_call ?_⟩)
  rw [Around.under_plain (weight_type_call_type "set" [.ref c] []) rfl]
  repeat (any_goals first | assumption | wp_step)
  refine codeAny_mono (code_set_led1 (.ref c) (E := E) (Q₁ := fun x y => x = .ref s.heap.objs.size ∧ y = { s with heap := s.heap.push (emptyS w) }) ⟨rfl, rfl⟩) fun r s₁ hr => ?_
  rcases r with e | fl
  · exact hr
  rcases fl with x | x | x | x
  all_goals try exact hr.elim
  obtain ⟨rfl, rfl⟩ := hr
  have ho : (s.heap.push (emptyS w)).get? s.heap.objs.size = some (emptyS w) := Heap.get?_push_size _ rfl
  have hT : Shared.TypeIs { s with heap := s.heap.push (emptyS w) } (.ref s.heap.objs.size) "set" := ⟨_, ho, rfl⟩
  (have hli := F.called_set.init.lookup)
  (have hbi := F.called_set.init.bind (.ref s.heap.objs.size))
  repeat (any_goals first | assumption | wp_step)
  have clt : c < s.heap.objs.size := by
    obtain ⟨o, h, _⟩ := hl
    exact Heap.lt_size h
  refine codeAny_mono (codeAny_call_builtin (R := wants (fun r y => r = .none ∧ ∃ h' tk l, y = { s with heap := h', toks := tk } ∧ (∀ b o, s.heap.get? b = some o → h'.get? b = some o) ∧ TxtSet P w h' s.heap.objs.size l ∧ (∀ z, z ∈ l ↔ z ∈ xs) ∧ l.length ≤ xs.length) E)
    F.called_set.init.plain F.entry_set_init (check_set_init_1 hT ?_)) fun r y hy => ?_
  · refine txt_init (by simp [calm]) ho (hl.push _) (Nat.ne_of_lt clt) hi room fun s' l k eg ed eo len R m => ?_
    (obtain ⟨h', g', d', tk', os'⟩ := s')
    cases eg; cases ed; cases eo
    exact ⟨rfl, h', tk', l, rfl, fun b o e => k b o (Nat.ne_of_lt (Heap.lt_size e)) (Heap.get?_push_of_some _ e), R, m, len⟩
  · rcases r with e | fl
    · exact hy
    rcases fl with x | x | x | x
    all_goals try exact hy.elim
    obtain ⟨rfl, h', tk, l, rfl, k, R, m, len⟩ := hy
    repeat (any_goals first | assumption | wp_step)
    exact fin h' tk l k R m len
end
end LG

set_option Elab.async false
set_option linter.all false
set_option maxRecDepth 100000
set_option maxHeartbeats 4100000
namespace LG
open PySem PySem.Spec PyProof.Rows L2
/-- the set of the texts l at a -/
def TxO (P : Program) (w : World) (a : Addr) (l : List Str) : HO := .ext fun h => TxtSet P w h a l
section
variable {X : Cx}
theorem txO_new {w : World} {P P' : Program} {H : Hp} {h : Heap} {a : Addr} {l : List Str} (R : TxtSet P w h a l) : ObjOk P' w H h a (TxO P w a l) := by
  obtain ⟨D, ho, _⟩ := R.at_
  exact ⟨R, ⟨_, ho⟩, fun h1 h2 p k => TxtSet.keep p k⟩
theorem txO_get {pins : List (Addr × Obj)} {σ : L2.St} {H : Hp} {s : Shared} {a : Addr} {l : List Str} (I : Inv X pins σ H s) (ha : H a = some (TxO X.prog X.w a l)) : TxtSet X.prog X.w s.heap a l := (I.hok a _ ha).1
def rSetTx (P : Program) (w : World) (K : PySem.W.Frag) : List V → Hp → VK → Prop := fun vs H Q => ∃ (c : Addr) (xs : List Str), vs = [V.ref c] ∧ SqL K H c (xs.map V.str) ∧ xs.length + 1 < scanBound ∧
  ∀ p l, H p = none → l.Nodup → (∀ z, z ∈ l ↔ z ∈ xs) → l.length ≤ xs.length → Q (.ref p) (upd H p (TxO P w p l))
theorem cr_setTx (hc : X.calm = true) : CallR X (.type "set") (rSetTx X.prog X.w X.K) := by
  (intro pins s σ H vs us Q I r h)
  obtain ⟨c, xs, rfl, hs, room, q⟩ := h
  (obtain ⟨its, rv, hl, _⟩ := I.list hs)
  rw [Vals.ref1 r]
  refine txt_call (I.ok.hd hc) hl.isList rv.strs room fun h' tk l k R m len => ?_
  exact ⟨.ref _, upd H s.heap.objs.size (TxO X.prog X.w s.heap.objs.size l), I.laid (t' := tk) (fun b u e => k b u e) (Nat.le_refl _) (txO_new R), rfl, q _ l (I.hok.fresh (Nat.le_refl _)) R.nd m len⟩
def rSortTx (P : Program) (w : World) : List V → Hp → VK → Prop := fun vs H Q => ∃ (a : Addr) (l : List Str), vs = [V.ref a] ∧ H a = some (TxO P w a l) ∧ l.length < 64 ∧
  ∀ (ys : List Str) (p : Addr), ys.Perm l → sortedS ys = true → H p = none → Q (.ref p) (upd H p (.lst (ys.map V.str)))
theorem cr_sortTx (hc : X.calm = true) : CallR X (.builtin "sorted") (rSortTx X.prog X.w) := by
  (intro pins s σ H vs us Q I r h)
  obtain ⟨a, l, rfl, ha, h64, q⟩ := h
  obtain ⟨⟨⟨es, ep, t⟩, ho, F, ri, le, st, pm⟩, nd⟩ := txO_get I ha
  rw [Vals.ref1 r]
  have sz : es.size = l.length := F.sz
  refine (Calls.call_function_entry kind_sorted plain_sorted entry_sorted (args_sorted1 _) ?_)
  unfold Builtin.«sorted»
  refine (wpAny_bind (m := checkCount "sorted" 1 1 _) (wpAny_pure ?_))
  refine wpAny_bind (collect_set (A := X.A.in1) (I.ok.hd hc) ⟨_, ho, rfl, rfl⟩ F.fit (by rw [sz]; unfold scanBound; omega) ri le fun s1 vs k1 hz g1 o1 pv => ?_)
  have vl : vs.length = l.length := by rw [pv.length_eq, List.length_map, Array.length_toList]; exact sz
  have all : ∀ v, v ∈ vs → ∃ x t, v = Value.str x t := fun v hv => by
    obtain ⟨e, he, q⟩ := List.mem_map.mp (pv.mem_iff.mp hv)
    rw [← q]; exact st e he
  have S := strsAre_map vs all
  have pl : (vs.map strOf).Perm l := by
    have := pv.map strOf
    rw [List.map_map] at this
    exact this.trans pm
  refine wpAny_bind (wpAny_newList ?_ (by rw [vl, sizeLine_eq]; omega))
  have oL : (s1.heap.push (seqObj "list" vs.toArray 0)).get? s1.heap.objs.size = some (seqObj "list" vs.toArray 0) := Heap.get?_push_size _ rfl
  refine wpAny_bind (wpAny_holding (wpAny_call_entry slot_list_sort ⟨_, oL, rfl⟩ entry_list_sort
    (list_sort_treeK strKind_oneLt oL S.keysOf (fun v₁ v₂ rest e => keyKind_strs (by rw [← e]; exact S)) (by rw [vl]; exact h64) fun st' hp hs => ⟨_, rfl, ?_⟩) (args_list_sort _)))
  obtain ⟨ys, y1, y2, y3⟩ := sorted_out_str S hp hs
  obtain ⟨e', he'⟩ := sortedHeap_at (vs := vs) (out := (arrOf st').map (·.2)) oL
  have py := y2.trans pl
  have len : (ys.map V.str).length ≤ sizeLine := by rw [List.length_map, py.length_eq]; exact big2 (by omega)
  have kp : ∀ b u, s.heap.get? b = some u → (sortedHeap (s1.heap.push (seqObj "list" vs.toArray 0)) s1.heap.objs.size vs ((arrOf st').map (·.2))).get? b = some u := fun b u e => by
    have z := k1 b u e
    have lt := Heap.lt_size z
    rw [sortedHeap_old (Nat.ne_of_lt lt) (by rw [size_push']; exact Nat.lt_succ_of_lt lt)]
    exact Heap.get?_push_of_some _ z
  have fr : H s1.heap.objs.size = none := I.hok.fresh hz
  generalize hp' : sortedHeap (s1.heap.push (seqObj "list" vs.toArray 0)) s1.heap.objs.size vs ((arrOf st').map (·.2)) = hh at *
  have J : Inv X pins σ (upd H s1.heap.objs.size (.lst (ys.map V.str))) { s with heap := hh, gens := s1.gens, drawn := s1.drawn, toks := s1.toks } :=
    I.call (ch := []) (Un.laid kp hz fr) (I.hok.laid kp hz ⟨len, ((arrOf st').map (·.2)).toList, e', vals_of_strs y1, by rw [Array.toArray_toList]; exact he'⟩) (by rw [g1]; exact I.bare) (fun _ z => nomatch z)
  refine wpAny_pure ⟨_, rfl, .ref s1.heap.objs.size, _, ?_, rfl, q ys _ py y3 fr⟩
  have e : ({ s with heap := hh, gens := s1.gens, drawn := s1.drawn, toks := s1.toks } : Shared) = { s1 with heap := hh } := by
    cases s1
    cases s
    cases o1
    rfl
  rw [e] at J
  exact J
end
end LG

set_option Elab.async false
set_option linter.all false
set_option maxRecDepth 100000
set_option maxHeartbeats 4100000
namespace LG
open PySem L2
abbrev sLOpn : Stmt := top 40
/-- the texts that stand open, in their order -/
def txO (ws : List Wd) (k : Nat) : List Str := (opL ws k).filterMap (textAt ws)
theorem txO_mem {ws : List Wd} {k : Nat} {z : Str} : z ∈ txO ws k ↔ 0 < nO ws (opL ws k) z := by
  unfold txO nO
  rw [List.mem_filterMap]
  constructor
  · rintro ⟨p, hp, e⟩
    exact List.length_pos_of_mem (List.mem_filter.mpr ⟨hp, decide_eq_true e⟩)
  · intro h
    obtain ⟨p, hp⟩ := List.exists_mem_of_length_pos h
    obtain ⟨h1, h2⟩ := List.mem_filter.mp hp
    exact ⟨p, h1, of_decide_eq_true h2⟩
theorem txO_len {ws : List Wd} {k : Nat} : (txO ws k).length ≤ (opL ws k).length := List.length_filterMap_le _ _
theorem txO_succ {ws : List Wd} {k : Nat} {z : Str} (h : opn ws k = true) (e : textAt ws k = some z) : txO ws (k + 1) = txO ws k ++ [z] := by
  unfold txO
  rw [opL_succ, if_pos h, List.filterMap_append]
  simp [e]
theorem txO_same {ws : List Wd} {k : Nat} (h : ¬ opn ws k = true) : txO ws (k + 1) = txO ws k := by
  unfold txO
  rw [opL_succ, if_neg h]
/-- a row without repetition whose members are in another one is no longer -/
theorem sub_len {α : Type} [DecidableEq α] : ∀ {l m : List α}, l.Nodup → (∀ a ∈ l, a ∈ m) → l.length ≤ m.length
  | [], _, _, _ => (Nat.zero_le _)
  | a :: l, m, nd, h => by
    (obtain ⟨n1, n2⟩ := List.nodup_cons.mp nd)
    have am := h a List.mem_cons_self
    have ih := sub_len (l := l) (m := m.erase a) n2 fun b hb => by
      have nb : b ≠ a := fun e => n1 (e ▸ hb)
      exact (List.mem_erase_of_ne nb).mpr (h b (List.mem_cons_of_mem _ hb))
    rw [List.length_erase_of_mem am] at ih
    have := List.length_pos_of_mem am
    rw [List.length_cons]; omega
section
variable {P : Program} {w : World} {K : PySem.W.Frag} {mg : Str → Option Value} {base : Heap}
theorem scLOpn : FnScope ["_law_words", "_law_owners_here", "_law_place"] ["_law_words"] (defScope sLOpn) := ⟨rfl, rfl, rfl, by decide +kernel, rfl, by decide +kernel, by decide +kernel⟩
theorem ok_lopn {f fW fS fO : Addr} {fd fdW fdS fdO : FuncData} (F : Fn K mg "_law_open" sLOpn ["_law_words"] f fd) (NW : Fn K mg "_law_owners" sOwners ["_law_words"] fW fdW) (NS : Fn K mg "_law_spans" sSpans ["_law_words"] fS fdS)
    (NO : Fn K mg "_law_is_open" sLOpen ["_law_words", "_law_owners_here", "_law_place"] fO fdO) (T : TxB mg) (T2 : TxD mg) : FnOk P w K mg base CX0 4 f fd ["_law_words"] (spLOpn K) := by
  have GW : FnOk P w K mg base CX0 2 fW fdW ["_law_words"] (spOwners K) := ok_owners NW NS T T2
  have GO : FnOk P w K mg base CX0 1 fO fdO ["_law_words", "_law_owners_here", "_law_place"] (spLOpen K) := ok_lopen NO T T2
  refine F.F.ok scLOpn (fun vs H Q E h => ?_) (fun cdv A outer s H vs Q E hr h => ?_)
  · obtain ⟨_, _, rfl, _⟩ := h
    rfl
  · obtain ⟨v, ws, rfl, hv, hk, wh, w60, kq⟩ := h
    have nd := scLOpn.nd
    have hr1 := hr.mono (show 1 ≤ 3 by decide)
    have hr2 := hr.mono (show 2 ≤ 3 by decide)
    refine ⟨_, pss_cons (ps_set (i := 1) nd rfl (Or.inr rfl) (pe_call GW hr2 (by rfl) NW.m NW.F.kp NW.b .nil pass0 (pa_cons (pv 0) pa_nil)))
      (pss_one (ps_ret (pe_callB (cr_sortTx rfl) (by rfl) T2.sorted (by decide +kernel) (pa_cons (pe_callTy (cr_setTx rfl) (by rfl) T2.set (by decide +kernel) (pa_cons (pe_lc (own := [("_law_place", 2)]) (g := gName 2) (tt := _) rfl nd (pi_range1 (by rfl) T.range (pa_cons (pe_callB call_len_seq (by rfl) T.len PySem.boot_len (pa_cons (pv 0) pa_nil)) pa_nil))
        (blkOk_by (N := ["_law_words", "_law_owners_here", "_law_place"]) (sc := defScope sLOpn) (by decide +kernel)) (fun _ _ _ _ _ => pg_name (i := 2) nd rfl (Or.inl rfl))
        (fun _ _ _ _ _ => pts_one (pt_val (pe_call GO hr1 (by rfl) NO.m NO.F.kp NO.b .nil pass0 (pa_cons (pv 0) (pa_cons (pv 1) (pa_cons (pv 2) pa_nil))))))
        (fun _ _ _ _ _ => pe_ix (ix_tup : IxR _ (rIxT K)) (pv 0) (pv 2) (fun _ _ => rfl))) pa_nil)) pa_nil)))), ?_⟩
    refine ⟨_, rfl, _, ws, rfl, hv, hk, wh, fun o H1 ho s1 o1 => ?_⟩
    obtain ⟨a, vs, rfl, ha, hw, hl⟩ := id hv
    have lv := hw.1
    refine ⟨_, rfl, _, _, rfl, .inr (SqT.of (s1 _ _ ha)), _, rfl, by omega, by have := line63; omega, fun D hD => ?_⟩
    rw [show ((vs.length : Int)).toNat = ws.length by omega]
    refine lc_range (lo := 0) (n := ws.length) (fun i H' => Same H1 H' ∧ H' D = some (.lst ((txO ws i).map V.str))) ⟨same_new (same_refl H1) hD, upd_same⟩ ?_ ?_
    · rintro i H' hi ⟨h1, h2⟩
      refine ⟨rfl, ?_⟩
      rw [Int.zero_add]
      have s2 := same_trans s1 h1
      obtain ⟨wi, hwi⟩ : ∃ wi, ws[i]? = some wi := ⟨_, List.getElem?_eq_getElem hi⟩
      obtain ⟨vi, hvi⟩ : ∃ vi, vs[i]? = some vi := ⟨_, List.getElem?_eq_getElem (by omega)⟩
      have ol : (txO ws i).length ≤ i := Nat.le_trans txO_len opL_len
      refine ⟨_, rfl, _, rfl, _, rfl, _, ws, o, i, rfl, hv.same s2, hk, h1 _ _ o1, hi, _, rfl, ?_⟩
      refine ite2 (fun c => ?_) (fun c => ?_)
      · obtain ⟨y, hy, ty, _, _⟩ := opn_text c
        rw [hwi] at hy
        cases hy
        obtain ⟨rfl, _⟩ := hw.2 _ _ _ hwi hvi
        refine ⟨_, rfl, _, rfl, a, _, _, _, rfl, rfl, SqT.of (s2 _ _ ha), atI_nat hvi, ?_⟩
        refine ⟨_, h2, (by rw [List.length_map]; exact room2 (by omega)), fun b u q => by rw [upd_ne (ne_of_none q hD)]; exact h1 b u q, ?_⟩
        rw [upd_same, txO_succ c ty, List.map_append]; rfl
      · exact ⟨h1, by rw [txO_same c]; exact h2⟩
    · rintro H' ⟨h1, h2⟩
      have tl : (txO ws ws.length).length ≤ 60 := Nat.le_trans txO_len (Nat.le_trans opL_len w60)
      refine ⟨D, _, rfl, SqL.of h2, (by unfold scanBound; omega), fun p l np dl ml ll => ?_⟩
      refine ⟨p, l, rfl, upd_same, by omega, fun ys q pm so nq => ?_⟩
      have fq : H1 q = none := same_none (same_trans h1 (same_new (same_refl _) np)) nq
      have fin := same_new (o := .lst (ys.map V.str)) (same_trans s1 (same_trans h1 (same_new (same_refl _) np))) nq
      exact kq q _ ys (same_none s1 fq) fin upd_same (pm.nodup_iff.mpr dl) (fun z => by rw [pm.mem_iff, ml, txO_mem]) (by rw [pm.length_eq]; exact Nat.le_trans ll txO_len) so
end
end LG

set_option Elab.async false
set_option linter.all false
set_option maxRecDepth 100000
set_option maxHeartbeats 8100000
namespace LG
open PySem L2
abbrev sLaw : Stmt := top 49
def spLaw (K : PySem.W.Frag) : Sp := fun vs H Q _ => ∃ (a : Addr) (ns : List Int), vs = [.ref a] ∧ SqL K H a (ns.map V.int) ∧ ns.length ≤ 63 ∧ ∀ H', Q (.bl true) H'
theorem nameW_st {w : Wd} (h : nameW w = true) : ∃ z : Str, w = .st z ∧ z ≠ "@" := by
  cases w with
  | st z => exact ⟨z, rfl, of_decide_eq_true h⟩
  | pr o t => cases h
  | no => cases h
section
variable {P : Program} {w : World} {K : PySem.W.Frag} {mg : Str → Option Value} {base : Heap}
theorem scLaw : FnScope ["_law_script", "_law_hand_here", "_law_turn", "_law_known_here", "_law_words", "_law_told", "_law_due_here", "_law_key", "_law_word"] ["_law_script"] (defScope sLaw) := ⟨rfl, rfl, rfl, by decide +kernel, rfl, by decide +kernel, by decide +kernel⟩
theorem ok_law {f fH fK fS fC fD fI fT : Addr} {fd fdH fdK fdS fdC fdD fdI fdT : FuncData} (F : Fn K mg "law" sLaw ["_law_script"] f fd) (NH : Fn K mg "_law_hand" sHand ["_law_script"] fH fdH) (GH : FnOk P w K mg base CX0 1 fH fdH ["_law_script"] (spHand K))
    (NK : Fn K mg "_law_known" sKnown ["_law_hand_here", "_law_many"] fK fdK) (GK : FnOk P w K mg base CX0 5 fK fdK ["_law_hand_here", "_law_many"] (spKnown K)) {st1 : Stmt} (NS : Fn K mg "_law_some_program" st1 ["_law_hand_here", "_law_known_here", "_law_deep"] fS fdS) (GS : FnOk P w K mg base CX0 8 fS fdS ["_law_hand_here", "_law_known_here", "_law_deep"] (spSomeP K))
    {st2 : Stmt} (NC : Fn K mg "counts" st2 ["program"] fC fdC) (GC : FnOk P w K mg base CX0 9 fC fdC ["program"] (spCounts K)) {st3 : Stmt} (ND : Fn K mg "_law_due" st3 ["_law_words"] fD fdD) (GD : FnOk P w K mg base CX0 5 fD fdD ["_law_words"] (spDue K))
    {st4 : Stmt} (NI : Fn K mg "_law_is" st4 ["_law_told", "_law_due_here"] fI fdI) (GI : FnOk P w K mg base CX0 2 fI fdI ["_law_told", "_law_due_here"] spLIs1) {st5 : Stmt} (NT : Fn K mg "_law_standard" st5 ["_law_words"] fT fdT) (GT : FnOk P w K mg base CX0 5 fT fdT ["_law_words"] (spStd K)) (T : TxB mg) (T2 : TxD mg) :
    FnOk P w K mg base CX0 10 f fd ["_law_script"] (spLaw K) := by
  refine F.F.ok scLaw (fun vs H Q E h => ?_) (fun cdv A outer s H vs Q E hr h => ?_)
  · obtain ⟨_, _, rfl, _⟩ := h
    rfl
  · obtain ⟨a0, ns, rfl, hs, hl, kq⟩ := h
    have nd := scLaw.nd
    have hu := hu_of hr
    have hr1 := hr.mono (show 1 ≤ 9 by decide)
    have hr2 := hr.mono (show 2 ≤ 9 by decide)
    have hr5 := hr.mono (show 5 ≤ 9 by decide)
    have hr8 := hr.mono (show 8 ≤ 9 by decide)
    refine ⟨_, pss_cons (ps_set (i := 1) nd rfl (Or.inl rfl) (pe_call GH hr1 (by rfl) NH.m NH.F.kp NH.b .nil pass0 (pa_cons (pv 0) pa_nil)))
      (pss_cons (ps_for PassesOwn.never rfl (pi_range1 (by rfl) T.range (pa_cons pe_int pa_nil)) (pg_name (i := 2) nd rfl (Or.inl rfl))
        (pss_cons (ps_set (i := 3) nd rfl (Or.inl rfl) (pe_call GK hr5 (by rfl) NK.m NK.F.kp NK.b .nil pass0 (pa_cons (pv 1) (pa_cons pe_int pa_nil))))
        (pss_cons (ps_set (i := 4) nd rfl (Or.inl rfl) (pe_call GS hr8 (by rfl) NS.m NS.F.kp NS.b .nil pass0 (pa_cons (pv 1) (pa_cons (pv 3) (pa_cons pe_int pa_nil)))))
        (pss_cons (ps_set (i := 5) nd rfl (Or.inr rfl) (pe_call GC hr (by rfl) NC.m NC.F.kp NC.b .nil pass0 (pa_cons (pv 4) pa_nil)))
        (pss_cons (ps_set (i := 6) nd rfl (Or.inl rfl) (pe_call GD hr5 (by rfl) ND.m ND.F.kp ND.b .nil pass0 (pa_cons (pv 4) pa_nil)))
        (pss_cons (ps_if (pt_not (pt_val (pe_call GI hr2 (by rfl) NI.m NI.F.kp NI.b .nil pass0 (pa_cons (pv 5) (pa_cons (pv 6) pa_nil))))) pss_never pss_nil)
        (pss_cons (ps_if (pt_cmpR op_ne (pe_callB (cr_sum rfl) (by rfl) T2.sum (by decide +kernel) (pa_cons (pe_lock (pe_lc (own := [("_law_key", 7)]) (g := gName 7) (tt := tYes) rfl nd (pi_keys (pv 5))
              (blkOk_by (N := ["_law_script", "_law_hand_here", "_law_turn", "_law_known_here", "_law_words", "_law_told", "_law_due_here", "_law_key", "_law_word"]) (sc := defScope sLaw) (by decide +kernel)) (fun _ _ _ _ _ => pg_name (i := 7) nd rfl (Or.inl rfl)) (fun _ _ _ _ _ => pts_nil)
              (fun _ _ _ _ _ => pe_dget hu (pv 5) (pv 7) (fun _ _ => rfl)))) pa_nil))
            (pe_callB call_len_seq (by rfl) T.len PySem.boot_len (pa_cons (pe_lc (own := [("_law_word", 8)]) (g := gName 8) (tt := _) rfl nd (pi_tup (pv 4))
              (blkOk_by (N := ["_law_script", "_law_hand_here", "_law_turn", "_law_known_here", "_law_words", "_law_told", "_law_due_here", "_law_key", "_law_word"]) (sc := defScope sLaw) (by decide +kernel)) (fun _ _ _ _ _ => pg_name (i := 8) nd rfl (Or.inl rfl))
              (fun _ _ _ _ _ => pts_one (PW.pt (pw_and (pt_val (pe_callB (id := "isinstance") (r := rIsi K) call_isi (by rfl) T.isinstance (by decide +kernel) (pa_cons (pv 8) (pa_cons (pe_bltn (v := .ty "str") (by rfl) T2.str (by decide +kernel) rfl) pa_nil)))) (pw_and1 (pt_cmpR op_ne (pv 8) pe_str (nomark _))))))
              (fun _ _ _ _ _ => pv 8)) pa_nil)) (nomark _)) pss_never pss_nil)
        (pss_cons (ps_dput hu (pv 5) pe_str pe_int rfl)
        (pss_cons (ps_expr (pe_dclear (pv 5)))
        (pss_one (ps_if (PW.pt (pw_or (pt_not (pt_val (pe_call GI hr2 (by rfl) NI.m NI.F.kp NI.b .nil pass0 (pa_cons (pe_call GC hr (by rfl) NC.m NC.F.kp NC.b .nil pass0 (pa_cons (pv 4) pa_nil)) (pa_cons (pv 6) pa_nil)))))
            (pw_or1 (pt_not (pt_val (pe_call GI hr2 (by rfl) NI.m NI.F.kp NI.b .nil pass0 (pa_cons (pe_call GC hr (by rfl) NC.m NC.F.kp NC.b .nil pass0 (pa_cons (pe_call GT hr5 (by rfl) NT.m NT.F.kp NT.b .nil pass0 (pa_cons (pv 4) pa_nil)) pa_nil)) (pa_cons (pv 6) pa_nil)))))))) pss_never pss_nil)))))))))))
      (pss_one (ps_ret pe_bl))), ?_⟩
    refine ⟨_, rfl, a0, ns, rfl, hs, by omega, fun p c cells H1 s1 np hA => ?_⟩
    refine ⟨4, rfl, by decide, by decide, for_range (lo := 0) (n := 4) (fun i σ H' => ∃ (v0 : V) (t2 t3 t4 t5 t6 : Option V), σ = [some v0, some (.ref p), t2, t3, t4, t5, t6, none, none] ∧ HandAt H' p c cells) ⟨_, none, none, none, none, none, rfl, hA⟩ ?_ ?_⟩
    · rintro i σ H2 hi ⟨v0, t2, t3, t4, t5, t6, rfl, hA2⟩
      refine ⟨_, rfl, p, c, cells, 3, rfl, hA2, by decide, fun kn H3 ks hA3 s3 hk kl => ?_⟩
      refine ⟨_, rfl, _, rfl, p, c, cells, kn, ks, rfl, hA3, hk, by omega, fun ws a vs H4 hA4 s4 ha hw ho hl60 => ?_⟩
      have hv : PgAt K H4 ws (.ref a) := ⟨a, vs, rfl, ha, hw.same del_le, by omega⟩
      have hP := ho.prog
      have hk' := hP.woks
      have wh := hP.whole
      refine ⟨_, rfl, _, ws, rfl, hv, hP, fun d H5 kvs nd5 s5 hd cd ld => ?_⟩
      have hA5 := hA4.same s5
      refine ⟨_, rfl, _, ws, rfl, hv.same s5, hk', wh, hl60, fun e H6 lvs ne6 s6 he ce le => ?_⟩
      have hd6 := s6 _ _ hd
      have de : d ≠ e := ne_of_none hd ne6
      have s46 := same_trans s5 s6
      refine ⟨_, rfl, _, rfl, d, e, _, kvs, lvs, rfl, hd6, he, cd, ce, cf_int, le, de, fun H7 s7 => ?_⟩
      refine ⟨_, rfl, ?_⟩
      refine ifF rfl ?_
      have s47 := same_trans s46 s7
      have hd7 := s7 _ _ hd6
      have he7 := s7 _ _ he
      clear s7 he hd6 s46 s6 H6 ne6
      refine ⟨d, _, hd7, trivial, fun od => ?_⟩
      refine ⟨_, rfl, d, od, rfl, .inl ⟨kvs, upd_same, fun D hD => ?_⟩⟩
      have Dd : D ≠ d := fun z => by rw [z, upd_same] at hD; cases hD
      have nD : H7 D = none := by rwa [upd_ne Dd] at hD
      refine lc_it walk_keys (fun j H' => (∀ b o, b ≠ d → H7 b = some o → H' b = some o) ∧ H' d = some (.frz od (.dK kvs)) ∧ H' D = some (.lst (((kvs.take j).map fun q => ((nK ws q.1 : Nat) : Int)).map V.int))) ⟨fun b o n q => by rw [upd_ne (ne_of_none q nD), upd_ne n]; exact q, by rw [upd_ne Dd.symm]; exact upd_same, by rw [List.take_zero]; exact upd_same⟩ (fun i H' _ q => q.2.1) ?_ ?_
      · rintro j _ _ H' hj ⟨h1, h2, h3⟩ ⟨rfl, k, v, hkv, rfl⟩
        refine ⟨rfl, ?_⟩
        refine yes_kept ?_
        have mem := List.mem_of_getElem? hkv
        have ev : v = .int (nK ws k : Int) := cnt_ints cd mem
        have vv := valV_mem cd.1 mem
        have g1 : DGet H' d (kV k) (some (.int (nK ws k : Int))) := by rw [← ev, ← vv]; exact .inl ⟨kvs, k, .inr ⟨od, h2⟩, rfl, rfl⟩
        refine ⟨_, rfl, _, rfl, d, _, rfl, g1, ?_⟩
        refine ⟨_, h3, (by rw [List.length_map, List.length_map, List.length_take]; exact room2 (by omega)), fun b o n q => by rw [upd_ne (ne_of_none q nD)]; exact h1 b o n q, by rw [upd_ne Dd.symm]; exact h2, ?_⟩
        rw [upd_same, List.take_add_one, hkv, List.map_append, List.map_append]; rfl
      rintro H8 ⟨h1, h2, h3⟩
      rw [List.take_length] at h3
      have s78 : Same H7 (upd H8 d (.dK kvs)) := fun b o q => by
        by_cases n : b = d
        · rw [n, upd_same, ← hd7, ← n]; exact q
        · rw [upd_ne n]; exact h1 b o n q
      have D8 : upd H8 d (.dK kvs) D = some (.lst ((kvs.map fun q => ((nK ws q.1 : Nat) : Int)).map V.int)) := by rw [upd_ne Dd]; exact h3
      refine ⟨h2, D, _, rfl, SqL.of D8, ?_⟩
      generalize upd H8 d (.dK kvs) = H9 at s78 D8
      have s49 := same_trans s47 s78
      have ha9 := s49 _ _ ha
      refine ⟨_, rfl, a, rfl, ⟨_, SqT.of ha9⟩, fun L hL => ?_⟩
      have nL : H4 L = none := same_none s49 hL
      refine lc_it walk_tup (fun j H' => Same H9 H' ∧ ∃ us, H' L = some (.lst us) ∧ us.length = ((ws.take j).filter nameW).length) ⟨same_new (same_refl H9) hL, [], upd_same, by rw [List.take_zero]; rfl⟩ (fun i H' _ q => SqT.of (q.1 _ _ ha9)) ?_ ?_
      · rintro j x _ H' hj ⟨g1, us, g2, g3⟩ ⟨rfl, hx⟩
        rw [hw.1] at hj
        refine ⟨rfl, ?_⟩
        obtain ⟨wj, hwj⟩ : ∃ wj, ws[j]? = some wj := ⟨_, List.getElem?_eq_getElem hj⟩
        have wd := ((hw.same del_le).same (same_trans s49 g1)).2 _ _ _ hwj hx
        have ul : us.length ≤ j := by rw [g3]; exact Nat.le_trans (List.length_filter_le _ _) (by rw [List.length_take]; omega)
        have tk : ((ws.take (j + 1)).filter nameW).length = ((ws.take j).filter nameW).length + if nameW wj = true then 1 else 0 := by
          rw [List.take_add_one, hwj, List.filter_append, List.length_append]
          show _ + ([wj].filter nameW).length = _
          rw [List.filter_cons]
          split <;> rfl
        have no : nameW wj = false → Same H9 H' ∧ ∃ us, H' L = some (.lst us) ∧ us.length = ((ws.take (j + 1)).filter nameW).length := fun z => ⟨g1, us, g2, by rw [tk, z, if_neg Bool.false_ne_true]; exact g3⟩
        obtain ⟨tv, ty, kt⟩ := wd.ty
        refine ⟨_, rfl, _, _, _, _, _, rfl, .ty _, ty, kt, _, rfl, ?_⟩
        refine ite2 (fun c => ?_) (fun c => ?_)
        · cases wj with
          | pr o t => cases c
          | no => cases c
          | st z =>
            obtain ⟨rfl, _⟩ := wd
            refine ⟨_, rfl, rfl, _, rfl, ?_⟩
            have en : (!decide (V.str z = V.str "@")) = nameW (.st z) := by
              show _ = decide (z ≠ "@")
              rw [Bool.eq_iff_iff]; simp
            rw [en]
            refine ite2 (fun d1 => ?_) (fun d1 => ?_)
            · refine ⟨_, rfl, _, g2, room2 (by omega), fun b u q => by rw [upd_ne (ne_of_none q hL)]; exact g1 b u q, us ++ [.str z], upd_same, ?_⟩
              rw [tk, if_pos d1, List.length_append, g3]; rfl
            · exact no (Bool.eq_false_iff.mpr d1)
        · refine ifF rfl ?_
          refine no ?_
          cases wj with
          | st z => exact absurd rfl c
          | pr o t => rfl
          | no => rfl
      rintro H10 ⟨g1, us, g2, g3⟩
      rw [hw.1, List.take_length] at g3
      have s410 := same_trans s49 g1
      refine ⟨_, _, rfl, .inl (SqL.of g2), ?_⟩
      have es : ((kvs.map fun q => ((nK ws q.1 : Nat) : Int)).sum) = ((us.length : Nat) : Int) := by
        rw [g3, ← cnt_sum hk' cd]
        generalize kvs = kk
        induction kk with
        | nil => rfl
        | cons q r ih => rw [List.map_cons, List.map_cons, List.sum_cons, List.sum_cons, ih]; omega
      refine ⟨rfl, _, rfl, ?_⟩
      rw [es]
      refine ifF (by simp) ?_
      have hd10 := g1 _ _ (s78 _ _ hd7)
      have he10 := g1 _ _ (s78 _ _ he7)
      clear g1 g2 g3 es D8 h1 h2 h3 hd7 he7 s78
      refine ⟨_, rfl, d, _, rfl, DPut.k (k := .inr "f") hd10 (room2 (by omega)), ?_⟩
      refine ⟨_, rfl, .inr (.inr (.inl ⟨rfl, .inl ⟨_, upd_same⟩⟩)), d, _, rfl, rfl, upd_same, ?_⟩
      have s411 : Same H4 (upd (upd H10 d (.dK (putK kvs (.inr "f") (.int 99)))) d (.dK [])) := fun b u q => by
        rw [upd_ne (ne_of_none q nd5), upd_ne (ne_of_none q nd5)]; exact s410 b u q
      have he11 : upd (upd H10 d (.dK (putK kvs (.inr "f") (.int 99)))) d (.dK []) e = some (.dK lvs) := by
        rw [upd_ne de.symm, upd_ne de.symm]; exact he10
      generalize upd (upd H10 d (.dK (putK kvs (.inr "f") (.int 99)))) d (.dK []) = H11 at s411 he11
      refine ⟨_, rfl, _, ws, rfl, hv.same s411, hP, fun d2 H12 kv2 nd2 s12 hd2 cd2 ld2 => ?_⟩
      have he12 := s12 _ _ he11
      have s412 := same_trans s411 s12
      refine ⟨_, rfl, d2, e, _, kv2, lvs, rfl, hd2, he12, cd2, ce, cf_int, le, fun z => ?_, fun H13 s13 => ?_⟩
      · rw [z, he11] at nd2; cases nd2
      have he13 := s13 _ _ he12
      have s413 := same_trans s412 s13
      refine ⟨_, rfl, ?_⟩
      refine ifF rfl ?_
      refine ⟨_, rfl, _, ws, rfl, hv.same s413, hk', wh, hl60, fun b H14 nm nb s14 ok14 hp14 => ?_⟩
      have he14 := s14 _ _ he13
      have s414 := same_trans s413 s14
      refine ⟨_, _, rfl, hp14, ren_prog hk' ok14 hP, fun d3 H15 kv3 nd3 s15 hd3 cd3 ld3 => ?_⟩
      have he15 := s15 _ _ he14
      have s415 := same_trans s414 s15
      rw [ren_cnt hk' ok14] at cd3
      refine ⟨_, rfl, d3, e, _, kv3, lvs, rfl, hd3, he15, cd3, ce, cf_int, le, fun z => ?_, fun H16 s16 => ?_⟩
      · rw [z, he14] at nd3; cases nd3
      refine ⟨_, rfl, ?_⟩
      refine ifF rfl ?_
      exact ⟨_, _, _, _, _, _, rfl, hA4.same (same_trans s415 s16)⟩
    · rintro σ H2 ⟨v0, t2, t3, t4, t5, t6, rfl, hA2⟩
      exact kq H2
end
end LG

set_option Elab.async false
set_option linter.all false
set_option maxRecDepth 100000
set_option maxHeartbeats 5000000
namespace LG
open PySem L2
/-- a def of the text as the top has left it -/
def DefPack (K : PySem.W.Frag) (x : Str) (st : Stmt) (ps : List Str) : Prop := ∃ (f : Addr) (fd : FuncData), PySem.W.nsIn K mainGlobals x = some (some (.ref f)) ∧ Fun K x x st f fd ∧ Binds K fd ps []
theorem DefPack.fn {K : PySem.W.Frag} {h : Heap} {mg : Str → Option Value} {x : Str} {st : Stmt} {ps : List Str} (X : K.In h) (G : h.Ns mainGlobals mg) (d : DefPack K x st ps) : ∃ f fd, Fn K mg x st ps f fd := by
  obtain ⟨f, fd, a, F, b⟩ := d
  exact ⟨f, fd, F, b, PySem.W.mg_of X G a⟩
theorem def_mk {K : PySem.W.Frag} {x : Str} {st : Stmt} {ps : List Str} {f : Addr} {oc : Value} {od an : Option Addr} {osl : Array (Option Value)} {kV doc pm cdv ct : Value} (a : PySem.W.nsIn K mainGlobals x = some (some (.ref f)))
    (l : K.lookup f = some ⟨oc, od, .func (PySem.W.fnOf x x (defArgs st) (defBody st) (defScope st) .none kV doc pm an cdv ct), osl⟩) (c : PySem.W.codeIn K cdv x = true) (k : PySem.W.keepIn K (.ref f) = true)
    (h : ∀ (kV doc pm : Value) (an : Option Addr) (cdv ct : Value) (us : List Value), us.length = ps.length → bindArgs (PySem.W.fnOf x x (defArgs st) (defBody st) (defScope st) .none kV doc pm an cdv ct) ⟨us, []⟩ = pure (ps.zip us)) : DefPack K x st ps :=
  ⟨f, _, a, fun_mk l c k, (fun_mk l c k).binds h⟩
/-- a method as the top has left it -/
def MethPack (K : PySem.W.Frag) (C : Addr) (nm qual : Str) (st : Stmt) (ps : List Str) : Prop := ∃ (f : Addr) (fd : FuncData), PySem.W.findIn K (.ref C) nm = some (some (.ref f)) ∧ PySem.W.isFn K (.ref f) = true ∧ PySem.W.keepIn K (.ref f) = true ∧ Fun K nm qual st f fd ∧ Binds K fd ps []
theorem meth_mk {K : PySem.W.Frag} {C f : Addr} {nm qual : Str} {st : Stmt} {ps : List Str} {oc : Value} {od an : Option Addr} {osl : Array (Option Value)} {kV doc pm cdv ct : Value}
    (i : PySem.W.findIn K (.ref C) nm = some (some (.ref f))) (n : PySem.W.isFn K (.ref f) = true) (l : K.lookup f = some ⟨oc, od, .func (PySem.W.fnOf nm qual (defArgs st) (defBody st) (defScope st) .none kV doc pm an cdv ct), osl⟩) (c : PySem.W.codeIn K cdv qual = true) (k : PySem.W.keepIn K (.ref f) = true)
    (h : ∀ (kV doc pm : Value) (an : Option Addr) (cdv ct : Value) (us : List Value), us.length = ps.length → bindArgs (PySem.W.fnOf nm qual (defArgs st) (defBody st) (defScope st) .none kV doc pm an cdv ct) ⟨us, []⟩ = pure (ps.zip us)) : MethPack K C nm qual st ps :=
  ⟨f, _, i, n, k, fun_mk l c k, (fun_mk l c k).binds h⟩
/-- Shape as the top has left it -/
structure ShapePack (K : PySem.W.Frag) (CS : Addr) : Prop where
  a : PySem.W.nsIn K mainGlobals "Shape" = some (some (.ref CS))
  cl : Cls K CS
  nW : NoAttr K CS "words"
  nE : NoAttr K CS "ends"
  nT : NoAttr K CS "takers"
  mks : PySem.W.makesIn K CS = true
  kc : PySem.W.keepIn K (.ref CS) = true
  m0 : MethPack K CS "__init__" "Shape.__init__" sShInit ["self", "program"]
  m1 : MethPack K CS "is_open" "Shape.is_open" sShOpen ["self", "place"]
  m2 : MethPack K CS "open_places" "Shape.open_places" sShPlaces ["self"]
  m3 : MethPack K CS "takes" "Shape.takes" sShTakes ["self"]
  m4 : MethPack K CS "counts" "Shape.counts" sShCounts ["self"]
theorem shape_mk {K : PySem.W.Frag} {CS : Addr} (a : PySem.W.nsIn K mainGlobals "Shape" = some (some (.ref CS))) (pg : PySem.W.plainGet K CS Str.empty = true) (hd : PySem.W.hasDictIn K CS = true) (po : PySem.W.plainOver K CS = true) (sa : PySem.W.findIn K (.ref CS) "__setattr__" = some (some (.builtin "object.__setattr__")))
    (n1 : PySem.W.findIn K (.ref CS) "words" = some none) (n2 : PySem.W.findIn K (.ref CS) "ends" = some none) (n3 : PySem.W.findIn K (.ref CS) "takers" = some none) (mk : PySem.W.makesIn K CS = true) (kc : PySem.W.keepIn K (.ref CS) = true)
    (m0 : MethPack K CS "__init__" "Shape.__init__" sShInit ["self", "program"]) (m1 : MethPack K CS "is_open" "Shape.is_open" sShOpen ["self", "place"]) (m2 : MethPack K CS "open_places" "Shape.open_places" sShPlaces ["self"]) (m3 : MethPack K CS "takes" "Shape.takes" sShTakes ["self"]) (m4 : MethPack K CS "counts" "Shape.counts" sShCounts ["self"]) : ∃ CS, ShapePack K CS :=
  ⟨CS, a, ⟨pg, hd, po, sa⟩, n1, n2, n3, mk, kc, m0, m1, m2, m3, m4⟩
def LawPack (K : PySem.W.Frag) : Prop := ∃ (f : Addr) (fd : FuncData), PySem.W.nsIn K mainGlobals "law" = some (some (.ref f)) ∧ Fun K "law" "law" sLaw f fd ∧ Binds K fd ["_law_script"] [] ∧ ∀ (s : Shared) (v : Value), BindsTo s fd ⟨[v], []⟩ [("_law_script", v)]
theorem law_mk {K : PySem.W.Frag} {f : Addr} {oc : Value} {od an : Option Addr} {osl : Array (Option Value)} {kV doc pm cdv ct : Value} (a : PySem.W.nsIn K mainGlobals "law" = some (some (.ref f)))
    (l : K.lookup f = some ⟨oc, od, .func (PySem.W.fnOf "law" "law" (defArgs sLaw) (defBody sLaw) (defScope sLaw) .none kV doc pm an cdv ct), osl⟩) (c : PySem.W.codeIn K cdv "law" = true) (k : PySem.W.keepIn K (.ref f) = true) : LawPack K :=
  ⟨f, _, a, fun_mk l c k, (fun_mk l c k).binds (fun _ _ _ _ _ _ us hl => match us, hl with | [_], _ => rfl), fun s v => .of_eq rfl⟩
theorem all_mk {l : PySem.W.OpenLaw} {w : World} {K : PySem.W.Frag} {h : Heap} {mg : Str → Option Value} {fa : Addr} {v0 v1 v2 v3 : Tok} (X : K.In h) (G : h.Ns mainGlobals mg) (hfa : mg "law" = some (.ref fa))
    (c0 : PySem.W.nsIn K mainGlobals "LAST_LETTER" = some (some (.int 25 v0)))
    (c1 : PySem.W.nsIn K mainGlobals "LONGEST_NAME" = some (some (.int 8 v1)))
    (c2 : PySem.W.nsIn K mainGlobals "NAME_LETTERS" = some (some (.str "abcdefghijklmnopqrstuvwxyz" v2)))
    (c3 : PySem.W.nsIn K mainGlobals "USE" = some (some (.str "@" v3)))
    (d0 : DefPack K "is_integer" sInteger ["thing"])
    (d1 : DefPack K "is_integer_within" sWithin ["low", "high", "thing"])
    (d2 : DefPack K "is_pair" sPair ["thing"])
    (d3 : DefPack K "is_letter" sLetter ["thing"])
    (d4 : DefPack K "is_kind_of_any_size" sAny ["thing"])
    (d5 : DefPack K "is_name" sName ["thing"])
    (d6 : DefPack K "is_take" sIsTake ["word"])
    (d7 : DefPack K "is_made_of_words" sMade ["thing", "is_fit"])
    (d8 : DefPack K "_is_fit_take" sFit ["word", "is_fit"])
    (d9 : DefPack K "need_program" sNeed ["thing"])
    (d10 : DefPack K "is_program_of_any_size" sProgAny ["thing"])
    (d11 : DefPack K "ends_of_parts" sEnds ["words"])
    (d12 : DefPack K "_takers" sTakers ["words", "ends"])
    (d13 : DefPack K "counts" sCounts ["program"])
    (d14 : DefPack K "_law_hand" sHand ["_law_script"])
    (d15 : DefPack K "_law_draw" sDraw ["_law_hand_here", "_law_many"])
    (d16 : DefPack K "_law_some" sSome ["_law_hand_here", "_law_things"])
    (d17 : DefPack K "_law_shuffled" sShuf ["_law_hand_here", "_law_things"])
    (d18 : DefPack K "_law_is" sLIs ["_law_told", "_law_due_here"])
    (d19 : DefPack K "_law_kind" sKd ["_law_hand_here", "_law_deep"])
    (d20 : DefPack K "_law_ends" sLEnds ["_law_kind_here"])
    (d21 : DefPack K "_law_known" sKnown ["_law_hand_here", "_law_many"])
    (d22 : DefPack K "_law_some_program" sSomeP ["_law_hand_here", "_law_known_here", "_law_deep"])
    (d23 : DefPack K "_law_spans" sSpans ["_law_words"])
    (d24 : DefPack K "_law_owners" sOwners ["_law_words"])
    (d25 : DefPack K "_law_is_open" sLOpen ["_law_words", "_law_owners_here", "_law_place"])
    (d26 : DefPack K "_law_open" sLOpn ["_law_words"])
    (d27 : DefPack K "_law_standing" sLStand ["_law_words", "_law_name"])
    (d28 : DefPack K "_law_heads" sHeads ["_law_inner", "_law_end", "_law_deep"])
    (d29 : DefPack K "_law_fit" sLFit ["_law_hand_here", "_law_known_here", "_law_kind_here", "_law_deep"])
    (d30 : DefPack K "_law_loose" sLoose ["_law_hand_here", "_law_names", "_law_deep"])
    (d31 : DefPack K "_law_named" sNamed ["_law_words", "_law_names"])
    (d32 : DefPack K "_law_takes" sLTakes ["_law_words"])
    (d33 : DefPack K "_law_standard" sStd ["_law_words"])
    (d34 : DefPack K "_law_due" sDue ["_law_words"])
    (pS : ∃ CS, ShapePack K CS) (pW : LawPack K)
    (z0 : PySem.W.nsIn K mainGlobals "abs" = some none) (z1 : PySem.W.nsIn K mainGlobals "int" = some none) (z2 : PySem.W.nsIn K mainGlobals "len" = some none) (z3 : PySem.W.nsIn K mainGlobals "isinstance" = some none) (z4 : PySem.W.nsIn K mainGlobals "all" = some none) (z5 : PySem.W.nsIn K mainGlobals "range" = some none) (z6 : PySem.W.nsIn K mainGlobals "tuple" = some none) (z7 : PySem.W.nsIn K mainGlobals "list" = some none) (z8 : PySem.W.nsIn K mainGlobals "dict" = some none) (z9 : PySem.W.nsIn K mainGlobals "bool" = some none) (z10 : PySem.W.nsIn K mainGlobals "str" = some none) (z11 : PySem.W.nsIn K mainGlobals "sorted" = some none) (z12 : PySem.W.nsIn K mainGlobals "max" = some none) (z13 : PySem.W.nsIn K mainGlobals "any" = some none) (z14 : PySem.W.nsIn K mainGlobals "reversed" = some none) (z15 : PySem.W.nsIn K mainGlobals "set" = some none) (z16 : PySem.W.nsIn K mainGlobals "enumerate" = some none) (z17 : PySem.W.nsIn K mainGlobals "sum" = some none) :
    ∃ fd : FuncData, (∀ (s : Shared) (v : Value), BindsTo s fd ⟨[v], []⟩ [("_law_script", v)]) ∧ ∀ base : Heap, K.In base → base.Ns mainGlobals mg → FnOk l.prog w K mg base CX0 10 fa fd ["_law_script"] (spLaw K) := by
  obtain ⟨fw, fdw, aw, Fw, bb, bw⟩ := pW
  have e := hfa.symm.trans (PySem.W.mg_of X G aw)
  cases e
  obtain ⟨g0, gd0, D0⟩ := d0.fn X G
  obtain ⟨g1, gd1, D1⟩ := d1.fn X G
  obtain ⟨g2, gd2, D2⟩ := d2.fn X G
  obtain ⟨g3, gd3, D3⟩ := d3.fn X G
  obtain ⟨g4, gd4, D4⟩ := d4.fn X G
  obtain ⟨g5, gd5, D5⟩ := d5.fn X G
  obtain ⟨g6, gd6, D6⟩ := d6.fn X G
  obtain ⟨g7, gd7, D7⟩ := d7.fn X G
  obtain ⟨g8, gd8, D8⟩ := d8.fn X G
  obtain ⟨g9, gd9, D9⟩ := d9.fn X G
  obtain ⟨g10, gd10, D10⟩ := d10.fn X G
  obtain ⟨g11, gd11, D11⟩ := d11.fn X G
  obtain ⟨g12, gd12, D12⟩ := d12.fn X G
  obtain ⟨g13, gd13, D13⟩ := d13.fn X G
  obtain ⟨g14, gd14, D14⟩ := d14.fn X G
  obtain ⟨g15, gd15, D15⟩ := d15.fn X G
  obtain ⟨g16, gd16, D16⟩ := d16.fn X G
  obtain ⟨g17, gd17, D17⟩ := d17.fn X G
  obtain ⟨g18, gd18, D18⟩ := d18.fn X G
  obtain ⟨g19, gd19, D19⟩ := d19.fn X G
  obtain ⟨g20, gd20, D20⟩ := d20.fn X G
  obtain ⟨g21, gd21, D21⟩ := d21.fn X G
  obtain ⟨g22, gd22, D22⟩ := d22.fn X G
  obtain ⟨g23, gd23, D23⟩ := d23.fn X G
  obtain ⟨g24, gd24, D24⟩ := d24.fn X G
  obtain ⟨g25, gd25, D25⟩ := d25.fn X G
  obtain ⟨g26, gd26, D26⟩ := d26.fn X G
  obtain ⟨g27, gd27, D27⟩ := d27.fn X G
  obtain ⟨g28, gd28, D28⟩ := d28.fn X G
  obtain ⟨g29, gd29, D29⟩ := d29.fn X G
  obtain ⟨g30, gd30, D30⟩ := d30.fn X G
  obtain ⟨g31, gd31, D31⟩ := d31.fn X G
  obtain ⟨g32, gd32, D32⟩ := d32.fn X G
  obtain ⟨g33, gd33, D33⟩ := d33.fn X G
  obtain ⟨g34, gd34, D34⟩ := d34.fn X G
  obtain ⟨CS, SP⟩ := pS
  obtain ⟨f0, fd0, i0, n0, k0, F0, b0⟩ := SP.m0
  obtain ⟨f1, fd1, i1, n1, k1, F1, b1⟩ := SP.m1
  obtain ⟨f2, fd2, i2, n2, k2, F2, b2⟩ := SP.m2
  obtain ⟨f3, fd3, i3, n3, k3, F3, b3⟩ := SP.m3
  obtain ⟨f4, fd4, i4, n4, k4, F4, b4⟩ := SP.m4
  have T : TxB mg := ⟨PySem.W.mg_none_of X G z0, PySem.W.mg_none_of X G z1, PySem.W.mg_none_of X G z2, PySem.W.mg_none_of X G z3, PySem.W.mg_none_of X G z4, PySem.W.mg_none_of X G z5⟩
  have T2 : TxD mg := ⟨PySem.W.mg_none_of X G z6, PySem.W.mg_none_of X G z7, PySem.W.mg_none_of X G z8, PySem.W.mg_none_of X G z9, PySem.W.mg_none_of X G z10, PySem.W.mg_none_of X G z11, PySem.W.mg_none_of X G z12, PySem.W.mg_none_of X G z13, PySem.W.mg_none_of X G z14, PySem.W.mg_none_of X G z15, PySem.W.mg_none_of X G z16, PySem.W.mg_none_of X G z17⟩
  have TK : TxK mg := { toTxD := T2, last := ⟨_, PySem.W.mg_of X G c0⟩ }
  have TN : TxN mg := ⟨⟨_, PySem.W.mg_of X G c2⟩, ⟨_, PySem.W.mg_of X G c1⟩⟩
  have ST : ShT K CS := ⟨SP.cl, SP.nW, SP.nE, SP.nT⟩
  have SF : ShapeF K mg CS f0 f1 f2 f3 f4 _ _ _ fd0 fd1 fd2 fd3 fd4 _ _ _ := { S := ST, Mm := ⟨SP.mks, i0, n0, SP.kc⟩, m := PySem.W.mg_of X G SP.a, I := F0, bI := b0, O := F1, bO := b1, mO := ⟨i1, n1, k1⟩, P := F2, bP := b2, mP := ⟨i2, n2, k2⟩, K_ := F3, bK := b3, mK := ⟨i3, n3, k3⟩, C := F4, bC := b4, mC := ⟨i4, n4, k4⟩, T := D6, E := D11, Q := D12, hu := ⟨_, PySem.W.mg_of X G c3⟩ }
  have WF : WordsF K mg _ _ _ _ _ _ _ _ _ _ _ _ _ _ _ _ _ _ := { L := D3, N2 := D1, N1 := D0, P := D2, N := D5, F := D8, A := D4, M := D7, G := D10 }
  refine ⟨fdw, bw, fun base _ _ => ?_⟩
  have GC := ok_counts (P := l.prog) (base := base) (w := w) D13 D9 WF SF T TK TN
  have GP := ok_lopn (P := l.prog) (base := base) (w := w) D26 D24 D23 D25 T T2
  have GD := ok_due (P := l.prog) (base := base) (w := w) D34 D24 D23 D27 D25 D32 D26 GP T T2
  have GT := ok_std (P := l.prog) (base := base) (w := w) D33 D24 D23 D31 D32 D26 GP T T2
  have GS := ok_somep (P := l.prog) (base := base) (w := w) D22 D29 D30 D15 D16 D19 D20 D28 T T2
  have GK := ok_known (P := l.prog) (base := base) (w := w) D21 D17 D19 D15 T T2
  have GI := ok_lis1 (P := l.prog) (base := base) (w := w) D18 T T2
  exact ok_law ⟨Fw, bb, hfa⟩ D14 (ok_hand D14.F T) D21 GK D22 GS D13 GC D34 GD D18 GI D33 GT T T2
theorem walk {l : PySem.W.OpenLaw} {q : Program} {loose : List Str} {XP : (Str → Option Value) → Heap → Prop} {YP : World → Heap → Prop} {d : DefRec} {K : Params → PySem.W.Frag} (hn : l.most = some 63) (hdf : d.params.defaults = [])
    (hY : ∀ (w : World) (h : Heap), YP w h → (K w.params).In h)
    (F : ∀ (w : World) (mg : Str → Option Value) (fa : Addr) (h : Heap), (K w.params).In h → h.Ns mainGlobals mg → mg d.name = some (.ref fa) →
      ∃ fd : FuncData, (∀ (s : Shared) (u : Value), BindsTo s fd ⟨[u], []⟩ [("_law_script", u)]) ∧ ∀ base : Heap, (K w.params).In base → base.Ns mainGlobals mg → FnOk l.prog w (K w.params) mg base CX0 10 fa fd ["_law_script"] (spLaw (K w.params))) :
    PySem.W.WalkO q loose XP YP l.row.toRowW d [] (fun f vs => PySem.call f vs) :=
  L2.walk_of (n := 63) (k := 10) (x := "_law_script") (CX := fun _ => CX0) (sp := fun w => spLaw (K w.params)) hn (by decide) hdf ⟨rfl, by decide, by decide⟩ hY F (fun _ _ a ns hl _ hS => ⟨a, ns, rfl, hS, hl, fun _ => rfl⟩) fun _ _ _ _ _ z => z
end LG

open PySem PySem.W PyProof.Rows
set_option Elab.async false
set_option maxRecDepth 100000 in
set_option maxHeartbeats 0 in
theorem PySem.Challenge.cw_usecounts_k09_whole_counts_of_names_holds : PySem.Challenge.rw_usecounts_k09_whole_counts_of_names.Holds := by
  w_on; o_law; k_head; (case hw => w_witness2)
  k_fill
  refine LG.walk (l := PySem.Challenge.rw_usecounts_k09_whole_counts_of_names) rfl rfl (fun w h Y => PySem.W.kIn_of Y) ?F
  case F =>
    intro w mg fa h KX G hmg
    refine' LG.all_mk KX G hmg ?c0 ?c1 ?c2 ?c3 ?d0 ?d1 ?d2 ?d3 ?d4 ?d5 ?d6 ?d7 ?d8 ?d9 ?d10 ?d11 ?d12 ?d13 ?d14 ?d15 ?d16 ?d17 ?d18 ?d19 ?d20 ?d21 ?d22 ?d23 ?d24 ?d25 ?d26 ?d27 ?d28 ?d29 ?d30 ?d31 ?d32 ?d33 ?d34 ?pS ?pW ?z0 ?z1 ?z2 ?z3 ?z4 ?z5 ?z6 ?z7 ?z8 ?z9 ?z10 ?z11 ?z12 ?z13 ?z14 ?z15 ?z16 ?z17
    (case c0 => k_is)
    (case c1 => k_is)
    (case c2 => k_is)
    (case c3 => k_is)
    (case d0 => (refine' LG.def_mk ?d0a ?d0l ?d0c ?d0k ?d0h; (case d0a => k_is); (case d0l => k_is); (case d0c => k_is); (case d0k => k_is); (case d0h => exact fun _ _ _ _ _ _ us hl => match us, hl with | [_], _ => rfl)))
    (case d1 => (refine' LG.def_mk ?d1a ?d1l ?d1c ?d1k ?d1h; (case d1a => k_is); (case d1l => k_is); (case d1c => k_is); (case d1k => k_is); (case d1h => exact fun _ _ _ _ _ _ us hl => match us, hl with | [_, _, _], _ => rfl)))
    (case d2 => (refine' LG.def_mk ?d2a ?d2l ?d2c ?d2k ?d2h; (case d2a => k_is); (case d2l => k_is); (case d2c => k_is); (case d2k => k_is); (case d2h => exact fun _ _ _ _ _ _ us hl => match us, hl with | [_], _ => rfl)))
    (case d3 => (refine' LG.def_mk ?d3a ?d3l ?d3c ?d3k ?d3h; (case d3a => k_is); (case d3l => k_is); (case d3c => k_is); (case d3k => k_is); (case d3h => exact fun _ _ _ _ _ _ us hl => match us, hl with | [_], _ => rfl)))
    (case d4 => (refine' LG.def_mk ?d4a ?d4l ?d4c ?d4k ?d4h; (case d4a => k_is); (case d4l => k_is); (case d4c => k_is); (case d4k => k_is); (case d4h => exact fun _ _ _ _ _ _ us hl => match us, hl with | [_], _ => rfl)))
    (case d5 => (refine' LG.def_mk ?d5a ?d5l ?d5c ?d5k ?d5h; (case d5a => k_is); (case d5l => k_is); (case d5c => k_is); (case d5k => k_is); (case d5h => exact fun _ _ _ _ _ _ us hl => match us, hl with | [_], _ => rfl)))
    (case d6 => (refine' LG.def_mk ?d6a ?d6l ?d6c ?d6k ?d6h; (case d6a => k_is); (case d6l => k_is); (case d6c => k_is); (case d6k => k_is); (case d6h => exact fun _ _ _ _ _ _ us hl => match us, hl with | [_], _ => rfl)))
    (case d7 => (refine' LG.def_mk ?d7a ?d7l ?d7c ?d7k ?d7h; (case d7a => k_is); (case d7l => k_is); (case d7c => k_is); (case d7k => k_is); (case d7h => exact fun _ _ _ _ _ _ us hl => match us, hl with | [_, _], _ => rfl)))
    (case d8 => (refine' LG.def_mk ?d8a ?d8l ?d8c ?d8k ?d8h; (case d8a => k_is); (case d8l => k_is); (case d8c => k_is); (case d8k => k_is); (case d8h => exact fun _ _ _ _ _ _ us hl => match us, hl with | [_, _], _ => rfl)))
    (case d9 => (refine' LG.def_mk ?d9a ?d9l ?d9c ?d9k ?d9h; (case d9a => k_is); (case d9l => k_is); (case d9c => k_is); (case d9k => k_is); (case d9h => exact fun _ _ _ _ _ _ us hl => match us, hl with | [_], _ => rfl)))
    (case d10 => (refine' LG.def_mk ?d10a ?d10l ?d10c ?d10k ?d10h; (case d10a => k_is); (case d10l => k_is); (case d10c => k_is); (case d10k => k_is); (case d10h => exact fun _ _ _ _ _ _ us hl => match us, hl with | [_], _ => rfl)))
    (case d11 => (refine' LG.def_mk ?d11a ?d11l ?d11c ?d11k ?d11h; (case d11a => k_is); (case d11l => k_is); (case d11c => k_is); (case d11k => k_is); (case d11h => exact fun _ _ _ _ _ _ us hl => match us, hl with | [_], _ => rfl)))
    (case d12 => (refine' LG.def_mk ?d12a ?d12l ?d12c ?d12k ?d12h; (case d12a => k_is); (case d12l => k_is); (case d12c => k_is); (case d12k => k_is); (case d12h => exact fun _ _ _ _ _ _ us hl => match us, hl with | [_, _], _ => rfl)))
    (case d13 => (refine' LG.def_mk ?d13a ?d13l ?d13c ?d13k ?d13h; (case d13a => k_is); (case d13l => k_is); (case d13c => k_is); (case d13k => k_is); (case d13h => exact fun _ _ _ _ _ _ us hl => match us, hl with | [_], _ => rfl)))
    (case d14 => (refine' LG.def_mk ?d14a ?d14l ?d14c ?d14k ?d14h; (case d14a => k_is); (case d14l => k_is); (case d14c => k_is); (case d14k => k_is); (case d14h => exact fun _ _ _ _ _ _ us hl => match us, hl with | [_], _ => rfl)))
    (case d15 => (refine' LG.def_mk ?d15a ?d15l ?d15c ?d15k ?d15h; (case d15a => k_is); (case d15l => k_is); (case d15c => k_is); (case d15k => k_is); (case d15h => exact fun _ _ _ _ _ _ us hl => match us, hl with | [_, _], _ => rfl)))
    (case d16 => (refine' LG.def_mk ?d16a ?d16l ?d16c ?d16k ?d16h; (case d16a => k_is); (case d16l => k_is); (case d16c => k_is); (case d16k => k_is); (case d16h => exact fun _ _ _ _ _ _ us hl => match us, hl with | [_, _], _ => rfl)))
    (case d17 => (refine' LG.def_mk ?d17a ?d17l ?d17c ?d17k ?d17h; (case d17a => k_is); (case d17l => k_is); (case d17c => k_is); (case d17k => k_is); (case d17h => exact fun _ _ _ _ _ _ us hl => match us, hl with | [_, _], _ => rfl)))
    (case d18 => (refine' LG.def_mk ?d18a ?d18l ?d18c ?d18k ?d18h; (case d18a => k_is); (case d18l => k_is); (case d18c => k_is); (case d18k => k_is); (case d18h => exact fun _ _ _ _ _ _ us hl => match us, hl with | [_, _], _ => rfl)))
    (case d19 => (refine' LG.def_mk ?d19a ?d19l ?d19c ?d19k ?d19h; (case d19a => k_is); (case d19l => k_is); (case d19c => k_is); (case d19k => k_is); (case d19h => exact fun _ _ _ _ _ _ us hl => match us, hl with | [_, _], _ => rfl)))
    (case d20 => (refine' LG.def_mk ?d20a ?d20l ?d20c ?d20k ?d20h; (case d20a => k_is); (case d20l => k_is); (case d20c => k_is); (case d20k => k_is); (case d20h => exact fun _ _ _ _ _ _ us hl => match us, hl with | [_], _ => rfl)))
    (case d21 => (refine' LG.def_mk ?d21a ?d21l ?d21c ?d21k ?d21h; (case d21a => k_is); (case d21l => k_is); (case d21c => k_is); (case d21k => k_is); (case d21h => exact fun _ _ _ _ _ _ us hl => match us, hl with | [_, _], _ => rfl)))
    (case d22 => (refine' LG.def_mk ?d22a ?d22l ?d22c ?d22k ?d22h; (case d22a => k_is); (case d22l => k_is); (case d22c => k_is); (case d22k => k_is); (case d22h => exact fun _ _ _ _ _ _ us hl => match us, hl with | [_, _, _], _ => rfl)))
    (case d23 => (refine' LG.def_mk ?d23a ?d23l ?d23c ?d23k ?d23h; (case d23a => k_is); (case d23l => k_is); (case d23c => k_is); (case d23k => k_is); (case d23h => exact fun _ _ _ _ _ _ us hl => match us, hl with | [_], _ => rfl)))
    (case d24 => (refine' LG.def_mk ?d24a ?d24l ?d24c ?d24k ?d24h; (case d24a => k_is); (case d24l => k_is); (case d24c => k_is); (case d24k => k_is); (case d24h => exact fun _ _ _ _ _ _ us hl => match us, hl with | [_], _ => rfl)))
    (case d25 => (refine' LG.def_mk ?d25a ?d25l ?d25c ?d25k ?d25h; (case d25a => k_is); (case d25l => k_is); (case d25c => k_is); (case d25k => k_is); (case d25h => exact fun _ _ _ _ _ _ us hl => match us, hl with | [_, _, _], _ => rfl)))
    (case d26 => (refine' LG.def_mk ?d26a ?d26l ?d26c ?d26k ?d26h; (case d26a => k_is); (case d26l => k_is); (case d26c => k_is); (case d26k => k_is); (case d26h => exact fun _ _ _ _ _ _ us hl => match us, hl with | [_], _ => rfl)))
    (case d27 => (refine' LG.def_mk ?d27a ?d27l ?d27c ?d27k ?d27h; (case d27a => k_is); (case d27l => k_is); (case d27c => k_is); (case d27k => k_is); (case d27h => exact fun _ _ _ _ _ _ us hl => match us, hl with | [_, _], _ => rfl)))
    (case d28 => (refine' LG.def_mk ?d28a ?d28l ?d28c ?d28k ?d28h; (case d28a => k_is); (case d28l => k_is); (case d28c => k_is); (case d28k => k_is); (case d28h => exact fun _ _ _ _ _ _ us hl => match us, hl with | [_, _, _], _ => rfl)))
    (case d29 => (refine' LG.def_mk ?d29a ?d29l ?d29c ?d29k ?d29h; (case d29a => k_is); (case d29l => k_is); (case d29c => k_is); (case d29k => k_is); (case d29h => exact fun _ _ _ _ _ _ us hl => match us, hl with | [_, _, _, _], _ => rfl)))
    (case d30 => (refine' LG.def_mk ?d30a ?d30l ?d30c ?d30k ?d30h; (case d30a => k_is); (case d30l => k_is); (case d30c => k_is); (case d30k => k_is); (case d30h => exact fun _ _ _ _ _ _ us hl => match us, hl with | [_, _, _], _ => rfl)))
    (case d31 => (refine' LG.def_mk ?d31a ?d31l ?d31c ?d31k ?d31h; (case d31a => k_is); (case d31l => k_is); (case d31c => k_is); (case d31k => k_is); (case d31h => exact fun _ _ _ _ _ _ us hl => match us, hl with | [_, _], _ => rfl)))
    (case d32 => (refine' LG.def_mk ?d32a ?d32l ?d32c ?d32k ?d32h; (case d32a => k_is); (case d32l => k_is); (case d32c => k_is); (case d32k => k_is); (case d32h => exact fun _ _ _ _ _ _ us hl => match us, hl with | [_], _ => rfl)))
    (case d33 => (refine' LG.def_mk ?d33a ?d33l ?d33c ?d33k ?d33h; (case d33a => k_is); (case d33l => k_is); (case d33c => k_is); (case d33k => k_is); (case d33h => exact fun _ _ _ _ _ _ us hl => match us, hl with | [_], _ => rfl)))
    (case d34 => (refine' LG.def_mk ?d34a ?d34l ?d34c ?d34k ?d34h; (case d34a => k_is); (case d34l => k_is); (case d34c => k_is); (case d34k => k_is); (case d34h => exact fun _ _ _ _ _ _ us hl => match us, hl with | [_], _ => rfl)))
    (case pS => (refine' LG.shape_mk ?pSa ?pSpg ?pShd ?pSpo ?pSsa ?pSn1 ?pSn2 ?pSn3 ?pSmk ?pSkc ?pSm0 ?pSm1 ?pSm2 ?pSm3 ?pSm4; (case pSa => k_is); (case pSpg => k_is); (case pShd => k_is); (case pSpo => k_is); (case pSsa => k_is); (case pSn1 => k_is); (case pSn2 => k_is); (case pSn3 => k_is); (case pSmk => k_is); (case pSkc => k_is); (case pSm0 => (refine' LG.meth_mk ?pSm0i ?pSm0n ?pSm0l ?pSm0c ?pSm0k ?pSm0h; (case pSm0i => k_is); (case pSm0n => k_is); (case pSm0l => k_is); (case pSm0c => k_is); (case pSm0k => k_is); (case pSm0h => exact fun _ _ _ _ _ _ us hl => match us, hl with | [_, _], _ => rfl))); (case pSm1 => (refine' LG.meth_mk ?pSm1i ?pSm1n ?pSm1l ?pSm1c ?pSm1k ?pSm1h; (case pSm1i => k_is); (case pSm1n => k_is); (case pSm1l => k_is); (case pSm1c => k_is); (case pSm1k => k_is); (case pSm1h => exact fun _ _ _ _ _ _ us hl => match us, hl with | [_, _], _ => rfl))); (case pSm2 => (refine' LG.meth_mk ?pSm2i ?pSm2n ?pSm2l ?pSm2c ?pSm2k ?pSm2h; (case pSm2i => k_is); (case pSm2n => k_is); (case pSm2l => k_is); (case pSm2c => k_is); (case pSm2k => k_is); (case pSm2h => exact fun _ _ _ _ _ _ us hl => match us, hl with | [_], _ => rfl))); (case pSm3 => (refine' LG.meth_mk ?pSm3i ?pSm3n ?pSm3l ?pSm3c ?pSm3k ?pSm3h; (case pSm3i => k_is); (case pSm3n => k_is); (case pSm3l => k_is); (case pSm3c => k_is); (case pSm3k => k_is); (case pSm3h => exact fun _ _ _ _ _ _ us hl => match us, hl with | [_], _ => rfl))); (case pSm4 => (refine' LG.meth_mk ?pSm4i ?pSm4n ?pSm4l ?pSm4c ?pSm4k ?pSm4h; (case pSm4i => k_is); (case pSm4n => k_is); (case pSm4l => k_is); (case pSm4c => k_is); (case pSm4k => k_is); (case pSm4h => exact fun _ _ _ _ _ _ us hl => match us, hl with | [_], _ => rfl)))))
    (case pW => (refine' LG.law_mk ?pWa ?pWl ?pWc ?pWk; (case pWa => k_is); (case pWl => k_is); (case pWc => k_is); (case pWk => k_is)))
    (case z0 => k_is)
    (case z1 => k_is)
    (case z2 => k_is)
    (case z3 => k_is)
    (case z4 => k_is)
    (case z5 => k_is)
    (case z6 => k_is)
    (case z7 => k_is)
    (case z8 => k_is)
    (case z9 => k_is)
    (case z10 => k_is)
    (case z11 => k_is)
    (case z12 => k_is)
    (case z13 => k_is)
    (case z14 => k_is)
    (case z15 => k_is)
    (case z16 => k_is)
    (case z17 => k_is)
#print axioms PySem.Challenge.cw_usecounts_k09_whole_counts_of_names_holds
