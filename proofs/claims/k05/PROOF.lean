import PyProof.Rows.All
import Wide.All
import OpenK.AllK
import Wide.FinOn
import HandS.ForMost
import HandS.Wide
import HandS.Codes
import HandS.OwnEq
import HandS.IsInst
import KE.KEqSeq
import PySem.Challenge.RW_treequill_k05_whole_trees_or_none
import PyProof.DictUpdate
import HandS.Walk
import HandS.Star
import HandS.Zip
import HandS.TupAny
import HandS.Flow
import HandS.Style
import HandS.StrMore
import HandS.CallLocal
import HandS.NoneIn
import PyProof.Rows.SortShellAny
import HandS.HeadHook1
import HandS.HeadHook2
import HandS.HeadHook3
set_option Elab.async false
set_option linter.all false
set_option pp.maxSteps 1500
set_option maxRecDepth 100000
set_option maxHeartbeats 16000000
namespace K5
open PySem PySem.Spec PyProof.Rows L2
def topS (i : Nat) : Stmt := PySem.Challenge.pw_treequill_k05_whole_trees_or_none.main.body.getD i (.Pass ⟨0, 0, 0, 0⟩)
abbrev sDraw : Stmt := topS 33
abbrev sPick : Stmt := topS 34
theorem scDraw : FnScope ["_law_stream", "_law_many", "_law_digit", "_law_mixed", "_law_last"] ["_law_stream", "_law_many"] (defScope sDraw) := ⟨rfl, rfl, rfl, by decide +kernel, rfl, by decide +kernel, by decide +kernel⟩
theorem scPick : FnScope ["_law_stream", "_law_some"] ["_law_stream", "_law_some"] (defScope sPick) := ⟨rfl, rfl, rfl, by decide +kernel, rfl, by decide +kernel, by decide +kernel⟩
/-- the stream's state: what is left of the cells, the great cell at hand, how many were mixed, the mixed number -/
structure Stm where
  cells : List Int
  cur : Int
  cnt : Int
  mix : Int
structure StmAt (H : Hp) (a c : Addr) (S : Stm) : Prop where
  lst : H a = some (.lst [.ref c, .int S.cur, .int S.cnt, .int S.mix])
  cel : H c = some (.lst (S.cells.map V.int))
  ne : a ≠ c
  len : S.cells.length ≤ 63
  cur0 : 0 ≤ S.cur
  cnt0 : 0 ≤ S.cnt
  mix0 : 0 ≤ S.mix
  mix1 : S.mix < 2147483647
/-- all that stood but the stream stands -/
def Kept (a c : Addr) (H H' : Hp) : Prop := ∀ b o, b ≠ a → b ≠ c → H b = some o → H' b = some o
theorem Kept.refl (a c : Addr) (H : Hp) : Kept a c H H := fun _ _ _ _ h => h
theorem Kept.trans {a c : Addr} {H H1 H2 : Hp} (x : Kept a c H H1) (y : Kept a c H1 H2) : Kept a c H H2 := fun b o n1 n2 h => y b o n1 n2 (x b o n1 n2 h)
theorem Kept.updA {a c : Addr} {H H1 : Hp} {o : HO} (x : Kept a c H H1) : Kept a c H (upd H1 a o) := fun b u n1 n2 h => by
  rw [upd_ne n1]; exact x b u n1 n2 h
theorem Kept.updC {a c : Addr} {H H1 : Hp} {o : HO} (x : Kept a c H H1) : Kept a c H (upd H1 c o) := fun b u n1 n2 h => by
  rw [upd_ne n2]; exact x b u n1 n2 h
theorem Kept.new {a c p : Addr} {H H1 : Hp} {o : HO} (x : Kept a c H H1) (h : H1 p = none) : Kept a c H (upd H1 p o) := fun b u n1 n2 e => by
  rw [upd_ne (ne_of_none (x b u n1 n2 e) h)]; exact x b u n1 n2 e
theorem Kept.same {a c : Addr} {H H1 : Hp} (x : Same H H1) : Kept a c H H1 := fun b u _ _ h => x b u h
def spDraw : Sp := fun vs H Q _ => ∃ (a c : Addr) (S : Stm) (m : Int), vs = [.ref a, .int m] ∧ StmAt H a c S ∧ S.cnt < 1000000 ∧ 0 < m ∧ m < 1000000 ∧
  ∀ (H' : Hp) (S' : Stm) (r : Int), StmAt H' a c S' → S'.cnt ≤ S.cnt + 1 → Kept a c H H' → 0 ≤ r → r < m → Q (.int r) H'
theorem dp_ints {K : PySem.W.Frag} {H : Hp} : ∀ ns : List Int, DpAll K H (ns.map V.int) (ns.map PyData.int)
  | [] => .nil
  | n :: r => .cons (.int n) (dp_ints r)
theorem shaped_ints (ns : List Int) : SeqAt.shaped (.list (ns.map PyData.int)) = true := by first | exact ke_shaped_ints ns | exact PySem.W.ke_shaped_ints ns | exact PyProof.Rows.ke_shaped_ints ns
theorem eqv_ints_nil : ∀ ns : List Int, PyData.eqv (.list (ns.map PyData.int)) (.list []) = ns.isEmpty
  | [] => rfl
  | _ :: _ => rfl
section
variable {P : Program} {w : World} {K : PySem.W.Frag} {mg : Str → Option Value} {base : Heap}
theorem ok_draw {f : Addr} {fd : FuncData} (F : Fun K "_law_draw" "_law_draw" sDraw f fd) (mi : mg "int" = none) : FnOk P w K mg base CX0 1 f fd ["_law_stream", "_law_many"] spDraw := by
  refine F.ok scDraw (fun vs H Q E h => ?_) (fun cdv A outer s H vs Q E hr h => ?_)
  · obtain ⟨a, c, S, m, rfl, _⟩ := h
    rfl
  obtain ⟨a, c, S, m, rfl, hS, hcnt, hm0, hm1, q⟩ := h
  refine ⟨_, C8.pss_cut (ps_while PassesOwn.never
      (PW.pt (pw_and (pt_cmpR op_eq (pe_ix ix_list (pv 0) pe_int (fun _ _ => rfl)) pe_int (nomark _))
        (pw_and1 (pt_cmpR (op_neD hr.units) (pe_ix ix_list (pv 0) pe_int (fun _ _ => rfl)) (pe_lst pa_nil) (nomark _)))))
      (pss_cons (ps_asg (pe_bm PySem.F.plainAttrs_list PySem.F.slot_list_pop PySem.F.type_list_pop mt_popAt (pe_ix ix_list (pv 0) pe_int (fun _ _ => rfl)) (pa_cons pe_int pa_nil)) (pg_sub (pv 0) pe_int set_list))
      (pss_one (ps_if (pt_cmpR op_lt (pe_ix ix_list (pv 0) pe_int (fun _ _ => rfl)) (pe_op op_pow pe_int pe_int) (nomark _))
        (pss_cons (ps_asg (pe_op op_mod (pe_callTy call_int1 (by rfl) mi (by decide +kernel) (pa_cons (pe_op op_add (pe_op op_add (pe_op op_mul (pe_ix ix_list (pv 0) pe_int (fun _ _ => rfl)) pe_int) (pe_ix ix_list (pv 0) pe_int (fun _ _ => rfl))) pe_int) pa_nil)) pe_int) (pg_sub (pv 0) pe_int set_list))
        (pss_one (ps_asg pe_int (pg_sub (pv 0) pe_int set_list)))) pss_nil))))
    (pss_cons (ps_if (pt_cmpR op_gt (pe_ix ix_list (pv 0) pe_int (fun _ _ => rfl)) pe_int (nomark _))
        (pss_cons (ps_set (i := 2) scDraw.nd rfl (.inl rfl) (pe_op op_mod (pe_callTy call_int1 (by rfl) mi (by decide +kernel) (pa_cons (pe_ix ix_list (pv 0) pe_int (fun _ _ => rfl)) pa_nil)) (pv 1)))
        (pss_cons (ps_asg (pe_op op_fdivN (pe_ix ix_list (pv 0) pe_int (fun _ _ => rfl)) (pv 1)) (pg_sub (pv 0) pe_int set_list))
        (pss_one (ps_ret (pv 2))))) pss_nil)
    (pss_cons (ps_asg (pe_op op_add (pe_ix ix_list (pv 0) pe_int (fun _ _ => rfl)) pe_int) (pg_sub (pv 0) pe_int set_list))
    (pss_cons (ps_set (i := 3) scDraw.nd rfl (.inl rfl) (pe_op op_mod (pe_callTy call_int1 (by rfl) mi (by decide +kernel) (pa_cons (pe_op op_pow (pe_op op_add (pe_op op_add (pe_ix ix_list (pv 0) pe_int (fun _ _ => rfl)) (pe_op op_mul pe_int (pe_ix ix_list (pv 0) pe_int (fun _ _ => rfl)))) pe_int) pe_int) pa_nil)) pe_int))
    (pss_cons (ps_set (i := 4) scDraw.nd rfl (.inl rfl) (pe_op op_mod (pe_callTy call_int1 (by rfl) mi (by decide +kernel) (pa_cons (pe_op op_pow (pe_op op_add (pe_op op_add (pe_op op_mul (pv 3) pe_int) (pe_op op_mul (pe_op op_mul pe_int (pe_ix ix_list (pv 0) pe_int (fun _ _ => rfl))) (pe_ix ix_list (pv 0) pe_int (fun _ _ => rfl)))) pe_int) pe_int) pa_nil)) pe_int))
    (pss_one (ps_ret (pe_op op_mod (pe_callTy call_int1 (by rfl) mi (by decide +kernel) (pa_cons (pv 4) pa_nil)) (pv 1)))))))), ?_⟩
  refine ⟨fun σ H1 => ∃ S1 : Stm, σ = [some (.ref a), some (.int m), none, none, none] ∧ StmAt H1 a c S1 ∧ S1.cnt = S.cnt ∧ Kept a c H H1,
    ⟨fun n σ H1 => ∃ S1 : Stm, σ = [some (.ref a), some (.int m), none, none, none] ∧ StmAt H1 a c S1 ∧ S1.cnt = S.cnt ∧ Kept a c H H1 ∧ S1.cells.length = n, ⟨_, S, rfl, hS, rfl, .refl _ _ _, rfl⟩, ?_⟩, ?_⟩
  · rintro n σ H1 ⟨S1, rfl, h1, ec, k1, el⟩
    refine ⟨_, rfl, a, _, _, _, rfl, rfl, SqL.of h1.lst, rfl, rfl, _, rfl, ?_⟩
    have l0 := h1.cur0
    have l1 := h1.cnt0
    have l2 := h1.mix0
    have l3 := h1.mix1
    refine ite2 (fun c1 => ?_) (fun c1 => ?_)
    · -- the cells: != []
      have c1' : S1.cur = 0 := by simpa using c1
      refine ⟨_, rfl, a, _, _, _, rfl, rfl, SqL.of h1.lst, rfl, Nat.zero_le _, fun l nl => ?_⟩
      have na : a ≠ l := ne_of_none h1.lst nl
      have nc : c ≠ l := ne_of_none h1.cel nl
      have h2 : StmAt (upd H1 l (.lst [])) a c S1 := ⟨by rw [upd_ne na]; exact h1.lst, by rw [upd_ne nc]; exact h1.cel, h1.ne, h1.len, h1.cur0, h1.cnt0, h1.mix0, h1.mix1⟩
      have k2 : Kept a c H (upd H1 l (.lst [])) := k1.new nl
      refine ⟨_, _, .lst (SqL.of h2.cel) (dp_ints S1.cells), .lst (SqL.of upd_same) .nil, shaped_ints _, rfl, _, rfl, ?_⟩
      rw [eqv_ints_nil]
      generalize upd H1 l (.lst []) = H2 at h2 k2
      cases hS1 : S1.cells with
      | nil =>
        refine iteF ?_
        exact ⟨S1, rfl, h2, ec, k2⟩
      | cons v r =>
        refine iteT ?_
        refine ⟨fun σ' H' => ∃ S3 : Stm, σ' = [some (.ref a), some (.int m), none, none, none] ∧ StmAt H' a c S3 ∧ S3.cnt = S.cnt ∧ Kept a c H H' ∧ S3.cells.length < n, fun σ' H' ⟨S3, e, h3, e3, k3, l3⟩ => ⟨_, l3, S3, e, h3, e3, k3, rfl⟩, ?_⟩
        have eL : S1.cells.length = r.length + 1 := by rw [hS1]; rfl
        have hcel : H2 c = some (.lst (.int v :: r.map V.int)) := by have := h2.cel; rw [hS1] at this; exact this
        have h63 := h1.len
        -- pop(0), the store
        refine ⟨_, rfl, a, _, _, _, rfl, rfl, SqL.of h2.lst, rfl, .inl ⟨rfl, _, SqL.of hcel⟩, c, _, 0, 0, _, rfl, rfl, hcel, by decide, by decide, ?_, rfl, ?_⟩
        · show (if (decide (0 ≤ (0 : Int)) && decide ((0 : Int) < ((V.int v :: r.map V.int).length : Nat))) = true then some _ else none) = some 0
          simp
        have hlst2 : (upd H2 c (.lst (r.map V.int))) a = some (.lst [.ref c, .int S1.cur, .int S1.cnt, .int S1.mix]) := by rw [upd_ne h1.ne]; exact h2.lst
        refine ⟨_, rfl, a, _, 1, 1, rfl, rfl, hlst2, rfl, ?_⟩
        have k3 : Kept a c H (upd (upd H2 c (.lst (r.map V.int))) a (.lst [.ref c, .int v, .int S1.cnt, .int S1.mix])) := k2.updC.updA
        have h3l : (upd (upd H2 c (.lst (r.map V.int))) a (.lst [.ref c, .int v, .int S1.cnt, .int S1.mix])) a = some (.lst [.ref c, .int v, .int S1.cnt, .int S1.mix]) := upd_same
        have h3c : (upd (upd H2 c (.lst (r.map V.int))) a (.lst [.ref c, .int v, .int S1.cnt, .int S1.mix])) c = some (.lst (r.map V.int)) := by rw [upd_ne h1.ne.symm]; exact upd_same
        refine ⟨_, rfl, a, _, _, _, rfl, rfl, SqL.of h3l, rfl, _, _, rfl, rfl, ⟨by decide, by decide, by decide⟩, _, _, rfl, rfl, _, rfl, ?_⟩
        have hl : r.length ≤ 63 := by omega
        refine ite2 (fun c2 => ?_) (fun c2 => ?_)
        · refine ⟨_, rfl, a, _, _, _, rfl, rfl, SqL.of h3l, rfl, _, _, rfl, rfl, .inl ⟨by omega, by omega⟩, _, rfl, a, _, _, _, rfl, rfl, SqL.of h3l, rfl, _, _, rfl, rfl, _, _, rfl, rfl, .inl ⟨_, rfl, _, _, rfl, rfl, (by show (0 : Int) < 2147483647; decide), ?_⟩⟩
          refine ⟨_, rfl, a, _, 3, 3, rfl, rfl, h3l, rfl, ?_⟩
          refine ⟨_, rfl, a, _, 1, 1, rfl, rfl, upd_same, rfl, ?_⟩
          refine ⟨⟨r, 0, S1.cnt, (S1.mix * 31 + v + 7) % 2147483647⟩, rfl, ⟨upd_same, ?_, h1.ne, hl, Int.le_refl 0, l1, Int.emod_nonneg _ (by decide), Int.emod_lt_of_pos _ (by decide)⟩, ec, k3.updA.updA, by show r.length < _; omega⟩
          rw [upd_ne h1.ne.symm, upd_ne h1.ne.symm]
          exact h3c
        · have c2' : ¬ v < 10 ^ 18 := by simpa using c2
          refine ⟨⟨r, v, S1.cnt, S1.mix⟩, rfl, ⟨h3l, h3c, h1.ne, hl, by show 0 ≤ v; omega, l1, l2, l3⟩, ec, k3, by show r.length < _; omega⟩
    · exact ⟨S1, rfl, h1, ec, k1⟩
  · rintro σ H1 ⟨S1, rfl, h1, ec, k1⟩
    have l0 := h1.cur0
    have l1 := h1.cnt0
    have l2 := h1.mix0
    have l3 := h1.mix1
    refine ⟨_, rfl, a, _, _, _, rfl, rfl, SqL.of h1.lst, rfl, _, _, rfl, rfl, _, rfl, ?_⟩
    refine ite2 (fun c1 => ?_) (fun c1 => ?_)
    · have c1' : 0 < S1.cur := by simpa using c1
      refine ⟨_, rfl, a, _, _, _, rfl, rfl, SqL.of h1.lst, rfl, .inl ⟨_, rfl, _, rfl, _, _, rfl, rfl, hm0, ?_⟩⟩
      refine ⟨_, rfl, a, _, _, _, rfl, rfl, SqL.of h1.lst, rfl, _, rfl, _, _, rfl, rfl, ⟨by omega, by omega⟩, ?_⟩
      refine ⟨_, rfl, a, _, 1, 1, rfl, rfl, h1.lst, rfl, _, rfl, ?_⟩
      refine q _ ⟨S1.cells, S1.cur.fdiv m, S1.cnt, S1.mix⟩ _ ⟨upd_same, ?_, h1.ne, h1.len, ?_, l1, l2, l3⟩ (by show S1.cnt ≤ _; omega) k1.updA (Int.emod_nonneg _ (by omega)) (Int.emod_lt_of_pos _ hm0)
      · rw [upd_ne h1.ne.symm]; exact h1.cel
      · show 0 ≤ S1.cur.fdiv m
        rw [Int.fdiv_eq_ediv_of_nonneg _ (by omega)]
        exact Int.ediv_nonneg (by omega) (by omega)
    · refine ⟨_, rfl, a, _, _, _, rfl, rfl, SqL.of h1.lst, rfl, _, _, rfl, rfl, ?_⟩
      refine ⟨_, rfl, a, _, 2, 2, rfl, rfl, h1.lst, rfl, ?_⟩
      have h2l : (upd H1 a (.lst [.ref c, .int S1.cur, .int (S1.cnt + 1), .int S1.mix])) a = some (.lst [.ref c, .int S1.cur, .int (S1.cnt + 1), .int S1.mix]) := upd_same
      refine ⟨_, rfl, a, _, _, _, rfl, rfl, SqL.of h2l, rfl, _, rfl, a, _, _, _, rfl, rfl, SqL.of h2l, rfl, _, _, rfl, rfl, .inl ⟨by decide, by decide⟩, _, _, rfl, rfl, _, _, rfl, rfl, _, _, rfl, rfl, ⟨by decide, by decide, by show (S1.mix + 104729 * (S1.cnt + 1) + 17).natAbs < 2 ^ 64; omega⟩, .inl ⟨_, rfl, _, _, rfl, rfl, (by show (0 : Int) < 2147483629; decide), ?_⟩⟩
      obtain ⟨M, eM⟩ : ∃ M : Int, (S1.mix + 104729 * (S1.cnt + 1) + 17) ^ (5 : Int).toNat % 2147483629 = M := ⟨_, rfl⟩
      have m0 : 0 ≤ M := by rw [← eM]; exact Int.emod_nonneg _ (by decide)
      have m1 : M < 2147483629 := by rw [← eM]; exact Int.emod_lt_of_pos _ (by decide)
      refine ⟨_, rfl, _, _, rfl, rfl, .inl ⟨by rw [eM]; omega, by rw [eM]; omega⟩, _, rfl, a, _, _, _, rfl, rfl, SqL.of h2l, rfl, _, _, rfl, rfl, .inl ⟨by decide, by decide⟩, _, rfl, a, _, _, _, rfl, rfl, SqL.of h2l, rfl, _, _, rfl, rfl, .inl ⟨by omega, by omega⟩, _, _, rfl, rfl, _, _, rfl, rfl, _, _, rfl, rfl, ⟨by decide, by decide, ?_⟩, .inl ⟨_, rfl, _, _, rfl, rfl, (by show (0 : Int) < 1000000007; decide), ?_⟩⟩
      · have n1 : (S1.cnt + 1) * (S1.cnt + 1) ≤ 1000000 * 1000000 := Int.mul_le_mul (by omega) (by omega) (by omega) (by omega)
        have n2 : 0 ≤ (S1.cnt + 1) * (S1.cnt + 1) := Int.mul_nonneg (by omega) (by omega)
        have n3 : 40503 * (S1.cnt + 1) * (S1.cnt + 1) = 40503 * ((S1.cnt + 1) * (S1.cnt + 1)) := Int.mul_assoc _ _ _
        show ((S1.mix + 104729 * (S1.cnt + 1) + 17) ^ (5 : Int).toNat % 2147483629 * 48271 + 40503 * (S1.cnt + 1) * (S1.cnt + 1) + 13).natAbs < 2 ^ 64
        rw [n3, eM]
        omega
      refine ⟨_, rfl, .inl ⟨_, rfl, _, rfl, _, _, rfl, rfl, hm0, ?_⟩⟩
      refine q _ ⟨S1.cells, S1.cur, S1.cnt + 1, S1.mix⟩ _ ⟨h2l, ?_, h1.ne, h1.len, l0, by show 0 ≤ S1.cnt + 1; omega, l2, l3⟩ (by show S1.cnt + 1 ≤ _; omega) k1.updA (Int.emod_nonneg _ (by omega)) (Int.emod_lt_of_pos _ hm0)
      rw [upd_ne h1.ne.symm]; exact h1.cel
/-- _law_pick: an item of the list or tuple at l -/
def spPick (K : PySem.W.Frag) : Sp := fun vs H Q _ => ∃ (a c l : Addr) (S : Stm) (xs : List V), vs = [.ref a, .ref l] ∧ StmAt H a c S ∧ S.cnt < 1000000 ∧ H l = some (.lst xs) ∧ l ≠ a ∧ l ≠ c ∧ 0 < xs.length ∧ xs.length < 1000000 ∧
  ∀ (H' : Hp) (S' : Stm) (x : V), StmAt H' a c S' → S'.cnt ≤ S.cnt + 1 → Kept a c H H' → x ∈ xs → Q x H'
theorem ok_pick {f g : Addr} {fd gd : FuncData} (F : Fun K "_law_pick" "_law_pick" sPick f fd) (D : FnOk P w K mg base CX0 1 g gd ["_law_stream", "_law_many"] spDraw) (bD : Binds K gd ["_law_stream", "_law_many"] []) (kD : PySem.W.keepIn K (.ref g) = true) (mD : mg "_law_draw" = some (.ref g)) (ml : mg "len" = none) :
    FnOk P w K mg base CX0 2 f fd ["_law_stream", "_law_some"] (spPick K) := by
  refine F.ok scPick (fun vs H Q E h => ?_) (fun cdv A outer s H vs Q E hr h => ?_)
  · obtain ⟨a, c, l, S, xs, rfl, _⟩ := h
    rfl
  obtain ⟨a, c, l, S, xs, rfl, hS, hcnt, hl, la, lc, h0, h1, q⟩ := h
  refine ⟨_, pss_one (ps_ret (pe_ix ix_list (pv 1) (pe_call D hr rfl mD kD bD .nil pass0 (pa_cons (pv 0) (pa_cons (pe_callB call_len_seq rfl ml PySem.boot_len (pa_cons (pv 1) pa_nil)) pa_nil))) (fun _ _ => rfl))), ?_⟩
  refine ⟨_, rfl, _, rfl, _, rfl, l, _, rfl, .inl (SqL.of hl), a, c, S, _, rfl, hS, hcnt, by omega, by omega, fun H' S' r h' hc k hr0 hr1 => ?_⟩
  have hl' := k l _ la lc hl
  obtain ⟨j, rfl⟩ : ∃ j : Nat, r = (j : Int) := ⟨r.toNat, by omega⟩
  have hj : j < xs.length := by omega
  exact ⟨l, _, _, _, rfl, rfl, SqL.of hl', atI_nat (List.getElem?_eq_getElem hj), q H' S' _ h' hc k (List.getElem_mem hj)⟩
end
theorem Kept.free {a c : Addr} {H H1 : Hp} (k : Kept a c H H1) (ha : H1 a ≠ none) (hc : H1 c ≠ none) {b : Addr} (h : H1 b = none) : H b = none := by
  cases e : H b with
  | none => rfl
  | some o =>
    have na : b ≠ a := fun z => ha (z ▸ h)
    have nc : b ≠ c := fun z => hc (z ▸ h)
    rw [k b o na nc e] at h
    cases h
theorem StmAt.a0 {H : Hp} {a c : Addr} {S : Stm} (h : StmAt H a c S) : H a ≠ none := by rw [h.lst]; simp
theorem StmAt.c0 {H : Hp} {a c : Addr} {S : Stm} (h : StmAt H a c S) : H c ≠ none := by rw [h.cel]; simp
theorem StmAt.keep {H H' : Hp} {a c : Addr} {S : Stm} (h : StmAt H a c S) (k : Same H H') : StmAt H' a c S := ⟨k _ _ h.lst, k _ _ h.cel, h.ne, h.len, h.cur0, h.cnt0, h.mix0, h.mix1⟩
theorem same_new {H : Hp} {p : Addr} {o : HO} (h : H p = none) : Same H (upd H p o) := fun b u e => by rw [upd_ne (ne_of_none e h)]; exact e
end K5

namespace K5
open PySem PySem.Spec PyProof.Rows L2
/-! ### d.update(e), e another dict of ours -/
def rUpd : V → List V → Hp → VK → Prop := fun x vs H Q => ∃ (a b : Addr) (kvs more : List (Key × V)), x = .ref a ∧ vs = [.ref b] ∧ a ≠ b ∧ H a = some (.dK kvs) ∧ H b = some (.dK more) ∧ kvs.length + more.length ≤ sizeLine ∧ Q .non (upd H a (.dK (mergeK kvs more)))
theorem mt_update {X : Cx} : MtR X "dict.update" rUpd := by
  intro pins s σ H x vs v us Q I rx rv h
  obtain ⟨a, b, kvs, more, rfl, rfl, hab, ha, hb, hz, q⟩ := h
  obtain rfl : v = Value.ref a := rx
  obtain ⟨u, rfl, ru⟩ := vals1 rv
  obtain rfl : u = Value.ref b := ru
  obtain ⟨z1, hd1, vs1, r1, dd1⟩ := dk_of I.hok ha
  obtain ⟨z2, hd2, vs2, r2, dd2⟩ := dk_of I.hok hb
  refine call_meetsIn PySem.F.slot_dict_update dd1.typeIs PySem.F.entry_dict_update (PySem.F.args_dict_update_2 _ _) (meets_dict_update (mixKind X.prog X.w) a b hab hd2) ⟨vs1, vs2, dd1, dd2, by rw [← r1.length, ← r2.length]; exact hz, fun h' d1 d2 hs => ⟨.non, _, ?_, rfl, q⟩⟩
  have hz' : (mergeK kvs more).length ≤ sizeLine := by
    have h1 := length_mergeK more kvs
    omega
  have he : ∃ q, h'.get? a = some q := let ⟨q, _, _, hq, _⟩ := d1; ⟨q, hq⟩
  exact d_write I (by rw [ha]; exact True.intro) hs he (dk_new hz' hd1 (r2.merge r1) d1)
abbrev sStm : Stmt := topS 35
theorem scStm : FnScope ["_law_loop", "_law_function", "_law_rows"] [] (defScope sStm) := ⟨rfl, rfl, rfl, by decide +kernel, rfl, by decide +kernel, by decide +kernel⟩
end K5

namespace K5
open PySem PySem.Spec PyProof.Rows L2
/-! ### the law's table: dicts of texts, written in steps -/
theorem putK_new {kvs : List (Key × V)} {k : Key} {v : V} (h : k ∉ kvs.map Prod.fst) : putK kvs k v = kvs ++ [(k, v)] := by
  unfold putK
  rw [if_neg]
  intro z
  obtain ⟨p, hp, e⟩ := List.any_eq_true.mp z
  exact h (List.mem_map.mpr ⟨p, hp, of_decide_eq_true e⟩)
theorem mergeK_new : ∀ (more kvs : List (Key × V)), ((kvs ++ more).map Prod.fst).Nodup → mergeK kvs more = kvs ++ more
  | [], kvs, _ => by show kvs = _; rw [List.append_nil]
  | p :: r, kvs, h => by
    show mergeK (putK kvs p.1 p.2) r = _
    have h1 : p.1 ∉ kvs.map Prod.fst := fun z => by
      rw [List.map_append, List.nodup_append] at h
      exact h.2.2 p.1 z p.1 (by simp) rfl
    rw [putK_new h1, mergeK_new r (kvs ++ [(p.1, p.2)]) (by rw [List.append_assoc]; exact h), List.append_assoc]
    rfl
def kvOf (rows : List (Str × Str)) : List (Key × V) := rows.map fun p => (.inr p.1, .str p.2)
theorem kvOf_keys (rows : List (Str × Str)) (h : (rows.map Prod.fst).Nodup) : ((kvOf rows).map Prod.fst).Nodup := by
  have e : (kvOf rows).map Prod.fst = (rows.map Prod.fst).map (fun x : Str => (Sum.inr x : Key)) := by
    unfold kvOf
    rw [List.map_map, List.map_map]
    rfl
  rw [e]
  exact List.Pairwise.map _ (fun a b n z => n (by injection z)) h
theorem merge_one (rows : List (Str × Str)) (h : (rows.map Prod.fst).Nodup) : mergeK [] (kvOf rows) = kvOf rows := by
  rw [mergeK_new _ _ (by rw [List.nil_append]; exact kvOf_keys rows h), List.nil_append]
theorem merge_two (A B : List (Str × Str)) (h : ((A ++ B).map Prod.fst).Nodup) : mergeK (kvOf A) (kvOf B) = kvOf (A ++ B) := by
  have e : kvOf (A ++ B) = kvOf A ++ kvOf B := List.map_append
  rw [mergeK_new _ _ (by rw [← e]; exact kvOf_keys _ h), e]
/-- a table of texts at p, new since H0 -/
def Tab (H0 H : Hp) (p : Addr) (rows : List (Str × Str)) : Prop := H0 p = none ∧ Same H0 H ∧ H p = some (.dK (kvOf rows))
theorem Tab.new {H : Hp} {p : Addr} {rows : List (Str × Str)} (n : H p = none) (h : (rows.map Prod.fst).Nodup) : Tab H (upd (upd H p (.dK [])) p (.dK (mergeK [] (kvOf rows)))) p rows := by
  refine ⟨n, fun b o e => ?_, ?_⟩
  · have nb := ne_of_none e n
    rw [upd_ne nb, upd_ne nb]; exact e
  · rw [upd_same, merge_one rows h]
theorem Tab.upd {H0 H : Hp} {p p2 : Addr} {A B : List (Str × Str)} (t : Tab H0 H p A) (n : H p2 = none) (h : ((A ++ B).map Prod.fst).Nodup) :
    Tab H0 (L2.upd (L2.upd (L2.upd H p2 (.dK [])) p2 (.dK (mergeK [] (kvOf B)))) p (.dK (mergeK (kvOf A) (mergeK [] (kvOf B))))) p (A ++ B) := by
  obtain ⟨n0, s, hp⟩ := t
  have hB : (B.map Prod.fst).Nodup := by
    rw [List.map_append, List.nodup_append] at h
    exact h.2.1
  refine ⟨n0, fun b o e => ?_, ?_⟩
  · have nb : b ≠ p := ne_of_none e n0
    have nb2 : b ≠ p2 := ne_of_none (s _ _ e) n
    rw [upd_ne nb, upd_ne nb2, upd_ne nb2]; exact s _ _ e
  · rw [upd_same, merge_one B hB, merge_two A B h]
/-- what such a def promises -/
def spTab (rows : List (Str × Str)) : Sp := fun vs H Q _ => vs = [] ∧ ∀ (H' : Hp) (p : Addr), Tab H H' p rows → Q (.ref p) H'

def StmR0 : List (Str × Str) := [("FunctionDef", "name N, args arguments, body S+, decorator_list E*, returns E?"), ("AsyncFunctionDef", "name N, args arguments, body S+, decorator_list E*, returns E?"), ("For", "target E, iter E, body S+, orelse S*"), ("AsyncFor", "target E, iter E, body S+, orelse S*"), ("Expr", "value E")]
def StmR1 : List (Str × Str) := [("ClassDef", "name N, bases E*, keywords keyword*, body S+, decorator_list E*"), ("Return", "value E?")]
def StmR2 : List (Str × Str) := [("Delete", "targets E+"), ("Assign", "targets E+, value E"), ("AugAssign", "target E, op O, value E")]
def StmR3 : List (Str × Str) := [("AnnAssign", "target E, annotation E, value E?, simple 01"), ("While", "test E, body S+, orelse S*")]
def StmR4 : List (Str × Str) := [("If", "test E, body S+, orelse S*"), ("With", "items withitem+, body S+"), ("Raise", "exc E?, cause E?")]
def StmR5 : List (Str × Str) := [("AsyncWith", "items withitem+, body S+"), ("Match", "subject E, cases match_case+"), ("Pass", "")]
def StmR6 : List (Str × Str) := [("Assert", "test E, msg E?"), ("Try", "body S+, handlers ExceptHandler*, orelse S*, finalbody S*")]
def StmR7 : List (Str × Str) := [("Import", "names alias+"), ("ImportFrom", "module D?, names alias+, level I"), ("Global", "names N+")]
def StmR8 : List (Str × Str) := [("Nonlocal", "names N+"), ("Break", ""), ("Continue", "")]
def StmRows : List (Str × Str) := ((((((((StmR0 ++ StmR1) ++ StmR2) ++ StmR3) ++ StmR4) ++ StmR5) ++ StmR6) ++ StmR7) ++ StmR8)
theorem ok_Stm {P : Program} {w : World} {K : PySem.W.Frag} {mg : Str → Option Value} {base : Heap} {f : Addr} {fd : FuncData} (F : Fun K "_law_statements" "_law_statements" sStm f fd) : FnOk P w K mg base CX0 1 f fd [] (spTab StmRows) := by
  refine F.ok scStm (fun vs H Q E h => ?_) (fun cdv A outer s H vs Q E hr h => ?_)
  · rw [h.1]; rfl
  obtain ⟨rfl, q⟩ := h
  refine ⟨_, pss_cons (ps_set (i := 0) scStm.nd rfl (.inl rfl) pe_str)
    (pss_cons (ps_set (i := 1) scStm.nd rfl (.inl rfl) pe_str)
    (pss_cons (ps_set (i := 2) scStm.nd rfl (.inl rfl) (pe_disp (pps_cons pe_str (pv 1) (pps_cons pe_str (pv 1) (pps_cons pe_str (pv 0) (pps_cons pe_str (pv 0) (pps_cons pe_str pe_str pps_nil))))) (by rfl) (by rfl) (fun z => by cases z) (by decide)))
    (pss_cons (ps_expr (pe_bm PySem.F.plainAttrs_dict PySem.F.slot_dict_update PySem.F.type_dict_update mt_update (pv 2) (pa_cons (pe_disp (pps_cons pe_str pe_str (pps_cons pe_str pe_str pps_nil)) (by rfl) (by rfl) (fun z => by cases z) (by decide)) pa_nil)))
    (pss_cons (ps_expr (pe_bm PySem.F.plainAttrs_dict PySem.F.slot_dict_update PySem.F.type_dict_update mt_update (pv 2) (pa_cons (pe_disp (pps_cons pe_str pe_str (pps_cons pe_str pe_str (pps_cons pe_str pe_str pps_nil))) (by rfl) (by rfl) (fun z => by cases z) (by decide)) pa_nil)))
    (pss_cons (ps_expr (pe_bm PySem.F.plainAttrs_dict PySem.F.slot_dict_update PySem.F.type_dict_update mt_update (pv 2) (pa_cons (pe_disp (pps_cons pe_str pe_str (pps_cons pe_str pe_str pps_nil)) (by rfl) (by rfl) (fun z => by cases z) (by decide)) pa_nil)))
    (pss_cons (ps_expr (pe_bm PySem.F.plainAttrs_dict PySem.F.slot_dict_update PySem.F.type_dict_update mt_update (pv 2) (pa_cons (pe_disp (pps_cons pe_str pe_str (pps_cons pe_str pe_str (pps_cons pe_str pe_str pps_nil))) (by rfl) (by rfl) (fun z => by cases z) (by decide)) pa_nil)))
    (pss_cons (ps_expr (pe_bm PySem.F.plainAttrs_dict PySem.F.slot_dict_update PySem.F.type_dict_update mt_update (pv 2) (pa_cons (pe_disp (pps_cons pe_str pe_str (pps_cons pe_str pe_str (pps_cons pe_str pe_str pps_nil))) (by rfl) (by rfl) (fun z => by cases z) (by decide)) pa_nil)))
    (pss_cons (ps_expr (pe_bm PySem.F.plainAttrs_dict PySem.F.slot_dict_update PySem.F.type_dict_update mt_update (pv 2) (pa_cons (pe_disp (pps_cons pe_str pe_str (pps_cons pe_str pe_str pps_nil)) (by rfl) (by rfl) (fun z => by cases z) (by decide)) pa_nil)))
    (pss_cons (ps_expr (pe_bm PySem.F.plainAttrs_dict PySem.F.slot_dict_update PySem.F.type_dict_update mt_update (pv 2) (pa_cons (pe_disp (pps_cons pe_str pe_str (pps_cons pe_str pe_str (pps_cons pe_str pe_str pps_nil))) (by rfl) (by rfl) (fun z => by cases z) (by decide)) pa_nil)))
    (pss_cons (ps_expr (pe_bm PySem.F.plainAttrs_dict PySem.F.slot_dict_update PySem.F.type_dict_update mt_update (pv 2) (pa_cons (pe_disp (pps_cons pe_str pe_str (pps_cons pe_str pe_str (pps_cons pe_str pe_str pps_nil))) (by rfl) (by rfl) (fun z => by cases z) (by decide)) pa_nil)))
    (pss_one (ps_ret (pv 2))))))))))))), ?_⟩
  refine fun p np => ?_
  refine ⟨_, rfl, _, rfl, _, rfl, _, rfl, upd_same, kvOf StmR0, rfl, by decide, ?_⟩
  have t0 := Tab.new (rows := StmR0) np (by decide +kernel)
  generalize upd (upd H p (.dK [])) p (.dK (mergeK [] (kvOf StmR0))) = H0 at t0
  refine ⟨_, rfl, .inr (.inr (.inl ⟨rfl, .inl ⟨_, t0.2.2⟩⟩)), fun p1 np1 => ?_⟩
  have n1 : p ≠ p1 := ne_of_none t0.2.2 np1
  refine ⟨upd_same, kvOf StmR1, rfl, by decide, p, p1, _, _, rfl, rfl, n1, by rw [upd_ne n1, upd_ne n1]; exact t0.2.2, upd_same, by decide, ?_⟩
  have t1 := t0.upd (B := StmR1) np1 (by decide +kernel)
  generalize upd (upd (upd H0 p1 (.dK [])) p1 (.dK (mergeK [] (kvOf StmR1)))) p (.dK (mergeK (kvOf StmR0) (mergeK [] (kvOf StmR1)))) = H1 at t1
  refine ⟨_, rfl, .inr (.inr (.inl ⟨rfl, .inl ⟨_, t1.2.2⟩⟩)), fun p2 np2 => ?_⟩
  have n2 : p ≠ p2 := ne_of_none t1.2.2 np2
  refine ⟨upd_same, kvOf StmR2, rfl, by decide, p, p2, _, _, rfl, rfl, n2, by rw [upd_ne n2, upd_ne n2]; exact t1.2.2, upd_same, by decide, ?_⟩
  have t2 := t1.upd (B := StmR2) np2 (by decide +kernel)
  generalize upd (upd (upd H1 p2 (.dK [])) p2 (.dK (mergeK [] (kvOf StmR2)))) p (.dK (mergeK (kvOf (StmR0 ++ StmR1)) (mergeK [] (kvOf StmR2)))) = H2 at t2
  refine ⟨_, rfl, .inr (.inr (.inl ⟨rfl, .inl ⟨_, t2.2.2⟩⟩)), fun p3 np3 => ?_⟩
  have n3 : p ≠ p3 := ne_of_none t2.2.2 np3
  refine ⟨upd_same, kvOf StmR3, rfl, by decide, p, p3, _, _, rfl, rfl, n3, by rw [upd_ne n3, upd_ne n3]; exact t2.2.2, upd_same, by decide, ?_⟩
  have t3 := t2.upd (B := StmR3) np3 (by decide +kernel)
  generalize upd (upd (upd H2 p3 (.dK [])) p3 (.dK (mergeK [] (kvOf StmR3)))) p (.dK (mergeK (kvOf ((StmR0 ++ StmR1) ++ StmR2)) (mergeK [] (kvOf StmR3)))) = H3 at t3
  refine ⟨_, rfl, .inr (.inr (.inl ⟨rfl, .inl ⟨_, t3.2.2⟩⟩)), fun p4 np4 => ?_⟩
  have n4 : p ≠ p4 := ne_of_none t3.2.2 np4
  refine ⟨upd_same, kvOf StmR4, rfl, by decide, p, p4, _, _, rfl, rfl, n4, by rw [upd_ne n4, upd_ne n4]; exact t3.2.2, upd_same, by decide, ?_⟩
  have t4 := t3.upd (B := StmR4) np4 (by decide +kernel)
  generalize upd (upd (upd H3 p4 (.dK [])) p4 (.dK (mergeK [] (kvOf StmR4)))) p (.dK (mergeK (kvOf (((StmR0 ++ StmR1) ++ StmR2) ++ StmR3)) (mergeK [] (kvOf StmR4)))) = H4 at t4
  refine ⟨_, rfl, .inr (.inr (.inl ⟨rfl, .inl ⟨_, t4.2.2⟩⟩)), fun p5 np5 => ?_⟩
  have n5 : p ≠ p5 := ne_of_none t4.2.2 np5
  refine ⟨upd_same, kvOf StmR5, rfl, by decide, p, p5, _, _, rfl, rfl, n5, by rw [upd_ne n5, upd_ne n5]; exact t4.2.2, upd_same, by decide, ?_⟩
  have t5 := t4.upd (B := StmR5) np5 (by decide +kernel)
  generalize upd (upd (upd H4 p5 (.dK [])) p5 (.dK (mergeK [] (kvOf StmR5)))) p (.dK (mergeK (kvOf ((((StmR0 ++ StmR1) ++ StmR2) ++ StmR3) ++ StmR4)) (mergeK [] (kvOf StmR5)))) = H5 at t5
  refine ⟨_, rfl, .inr (.inr (.inl ⟨rfl, .inl ⟨_, t5.2.2⟩⟩)), fun p6 np6 => ?_⟩
  have n6 : p ≠ p6 := ne_of_none t5.2.2 np6
  refine ⟨upd_same, kvOf StmR6, rfl, by decide, p, p6, _, _, rfl, rfl, n6, by rw [upd_ne n6, upd_ne n6]; exact t5.2.2, upd_same, by decide, ?_⟩
  have t6 := t5.upd (B := StmR6) np6 (by decide +kernel)
  generalize upd (upd (upd H5 p6 (.dK [])) p6 (.dK (mergeK [] (kvOf StmR6)))) p (.dK (mergeK (kvOf (((((StmR0 ++ StmR1) ++ StmR2) ++ StmR3) ++ StmR4) ++ StmR5)) (mergeK [] (kvOf StmR6)))) = H6 at t6
  refine ⟨_, rfl, .inr (.inr (.inl ⟨rfl, .inl ⟨_, t6.2.2⟩⟩)), fun p7 np7 => ?_⟩
  have n7 : p ≠ p7 := ne_of_none t6.2.2 np7
  refine ⟨upd_same, kvOf StmR7, rfl, by decide, p, p7, _, _, rfl, rfl, n7, by rw [upd_ne n7, upd_ne n7]; exact t6.2.2, upd_same, by decide, ?_⟩
  have t7 := t6.upd (B := StmR7) np7 (by decide +kernel)
  generalize upd (upd (upd H6 p7 (.dK [])) p7 (.dK (mergeK [] (kvOf StmR7)))) p (.dK (mergeK (kvOf ((((((StmR0 ++ StmR1) ++ StmR2) ++ StmR3) ++ StmR4) ++ StmR5) ++ StmR6)) (mergeK [] (kvOf StmR7)))) = H7 at t7
  refine ⟨_, rfl, .inr (.inr (.inl ⟨rfl, .inl ⟨_, t7.2.2⟩⟩)), fun p8 np8 => ?_⟩
  have n8 : p ≠ p8 := ne_of_none t7.2.2 np8
  refine ⟨upd_same, kvOf StmR8, rfl, by decide, p, p8, _, _, rfl, rfl, n8, by rw [upd_ne n8, upd_ne n8]; exact t7.2.2, upd_same, by decide, ?_⟩
  have t8 := t7.upd (B := StmR8) np8 (by decide +kernel)
  generalize upd (upd (upd H7 p8 (.dK [])) p8 (.dK (mergeK [] (kvOf StmR8)))) p (.dK (mergeK (kvOf (((((((StmR0 ++ StmR1) ++ StmR2) ++ StmR3) ++ StmR4) ++ StmR5) ++ StmR6) ++ StmR7)) (mergeK [] (kvOf StmR8)))) = H8 at t8
  exact ⟨_, rfl, q _ _ t8⟩
def ExpR0 : List (Str × Str) := [("ListComp", "elt E, generators comprehension+"), ("SetComp", "elt E, generators comprehension+"), ("GeneratorExp", "elt E, generators comprehension+")]
def ExpR1 : List (Str × Str) := [("DictComp", "key E, value E, generators comprehension+")]
def ExpR2 : List (Str × Str) := [("BoolOp", "op B, values E+"), ("NamedExpr", "target E, value E"), ("BinOp", "left E, op O, right E")]
def ExpR3 : List (Str × Str) := [("UnaryOp", "op U, operand E"), ("Lambda", "args arguments, body E"), ("IfExp", "test E, body E, orelse E")]
def ExpR4 : List (Str × Str) := [("Dict", "keys E?*, values E*"), ("Set", "elts E+"), ("Await", "value E"), ("Yield", "value E?")]
def ExpR5 : List (Str × Str) := [("YieldFrom", "value E"), ("Compare", "left E, ops C+, comparators E+"), ("JoinedStr", "values E*")]
def ExpR6 : List (Str × Str) := [("Call", "func E, args E*, keywords keyword*"), ("Constant", "value V"), ("Name", "id N, ctx X")]
def ExpR7 : List (Str × Str) := [("FormattedValue", "value E, conversion R, format_spec JoinedStr?"), ("Starred", "value E, ctx X")]
def ExpR8 : List (Str × Str) := [("Attribute", "value E, attr N, ctx X"), ("Subscript", "value E, slice E, ctx X")]
def ExpR9 : List (Str × Str) := [("List", "elts E*, ctx X"), ("Tuple", "elts E*, ctx X"), ("Slice", "lower E?, upper E?, step E?")]
def ExpRows : List (Str × Str) := (((((((((ExpR0 ++ ExpR1) ++ ExpR2) ++ ExpR3) ++ ExpR4) ++ ExpR5) ++ ExpR6) ++ ExpR7) ++ ExpR8) ++ ExpR9)
abbrev sExp : Stmt := topS 36
theorem scExp : FnScope ["_law_comp", "_law_rows"] [] (defScope sExp) := ⟨rfl, rfl, rfl, by decide +kernel, rfl, by decide +kernel, by decide +kernel⟩
theorem ok_Exp {P : Program} {w : World} {K : PySem.W.Frag} {mg : Str → Option Value} {base : Heap} {f : Addr} {fd : FuncData} (F : Fun K "_law_expressions" "_law_expressions" sExp f fd) : FnOk P w K mg base CX0 1 f fd [] (spTab ExpRows) := by
  refine F.ok scExp (fun vs H Q E h => ?_) (fun cdv A outer s H vs Q E hr h => ?_)
  · rw [h.1]; rfl
  obtain ⟨rfl, q⟩ := h
  refine ⟨_, pss_cons (ps_set (i := 0) scExp.nd rfl (.inl rfl) pe_str)
    (pss_cons (ps_set (i := 1) scExp.nd rfl (.inl rfl) (pe_disp (pps_cons pe_str (pv 0) (pps_cons pe_str (pv 0) (pps_cons pe_str (pv 0) pps_nil))) (by rfl) (by rfl) (fun z => by cases z) (by decide)))
    (pss_cons (ps_expr (pe_bm PySem.F.plainAttrs_dict PySem.F.slot_dict_update PySem.F.type_dict_update mt_update (pv 1) (pa_cons (pe_disp (pps_cons pe_str pe_str pps_nil) (by rfl) (by rfl) (fun z => by cases z) (by decide)) pa_nil)))
    (pss_cons (ps_expr (pe_bm PySem.F.plainAttrs_dict PySem.F.slot_dict_update PySem.F.type_dict_update mt_update (pv 1) (pa_cons (pe_disp (pps_cons pe_str pe_str (pps_cons pe_str pe_str (pps_cons pe_str pe_str pps_nil))) (by rfl) (by rfl) (fun z => by cases z) (by decide)) pa_nil)))
    (pss_cons (ps_expr (pe_bm PySem.F.plainAttrs_dict PySem.F.slot_dict_update PySem.F.type_dict_update mt_update (pv 1) (pa_cons (pe_disp (pps_cons pe_str pe_str (pps_cons pe_str pe_str (pps_cons pe_str pe_str pps_nil))) (by rfl) (by rfl) (fun z => by cases z) (by decide)) pa_nil)))
    (pss_cons (ps_expr (pe_bm PySem.F.plainAttrs_dict PySem.F.slot_dict_update PySem.F.type_dict_update mt_update (pv 1) (pa_cons (pe_disp (pps_cons pe_str pe_str (pps_cons pe_str pe_str (pps_cons pe_str pe_str (pps_cons pe_str pe_str pps_nil)))) (by rfl) (by rfl) (fun z => by cases z) (by decide)) pa_nil)))
    (pss_cons (ps_expr (pe_bm PySem.F.plainAttrs_dict PySem.F.slot_dict_update PySem.F.type_dict_update mt_update (pv 1) (pa_cons (pe_disp (pps_cons pe_str pe_str (pps_cons pe_str pe_str (pps_cons pe_str pe_str pps_nil))) (by rfl) (by rfl) (fun z => by cases z) (by decide)) pa_nil)))
    (pss_cons (ps_expr (pe_bm PySem.F.plainAttrs_dict PySem.F.slot_dict_update PySem.F.type_dict_update mt_update (pv 1) (pa_cons (pe_disp (pps_cons pe_str pe_str (pps_cons pe_str pe_str (pps_cons pe_str pe_str pps_nil))) (by rfl) (by rfl) (fun z => by cases z) (by decide)) pa_nil)))
    (pss_cons (ps_expr (pe_bm PySem.F.plainAttrs_dict PySem.F.slot_dict_update PySem.F.type_dict_update mt_update (pv 1) (pa_cons (pe_disp (pps_cons pe_str pe_str (pps_cons pe_str pe_str pps_nil)) (by rfl) (by rfl) (fun z => by cases z) (by decide)) pa_nil)))
    (pss_cons (ps_expr (pe_bm PySem.F.plainAttrs_dict PySem.F.slot_dict_update PySem.F.type_dict_update mt_update (pv 1) (pa_cons (pe_disp (pps_cons pe_str pe_str (pps_cons pe_str pe_str pps_nil)) (by rfl) (by rfl) (fun z => by cases z) (by decide)) pa_nil)))
    (pss_cons (ps_expr (pe_bm PySem.F.plainAttrs_dict PySem.F.slot_dict_update PySem.F.type_dict_update mt_update (pv 1) (pa_cons (pe_disp (pps_cons pe_str pe_str (pps_cons pe_str pe_str (pps_cons pe_str pe_str pps_nil))) (by rfl) (by rfl) (fun z => by cases z) (by decide)) pa_nil)))
    (pss_one (ps_ret (pv 1))))))))))))), ?_⟩
  refine fun p np => ?_
  refine ⟨_, rfl, _, rfl, _, rfl, upd_same, kvOf ExpR0, rfl, by decide, ?_⟩
  have t0 := Tab.new (rows := ExpR0) np (by decide +kernel)
  generalize upd (upd H p (.dK [])) p (.dK (mergeK [] (kvOf ExpR0))) = H0 at t0
  refine ⟨_, rfl, .inr (.inr (.inl ⟨rfl, .inl ⟨_, t0.2.2⟩⟩)), fun p1 np1 => ?_⟩
  have n1 : p ≠ p1 := ne_of_none t0.2.2 np1
  refine ⟨upd_same, kvOf ExpR1, rfl, by decide, p, p1, _, _, rfl, rfl, n1, by rw [upd_ne n1, upd_ne n1]; exact t0.2.2, upd_same, by decide, ?_⟩
  have t1 := t0.upd (B := ExpR1) np1 (by decide +kernel)
  generalize upd (upd (upd H0 p1 (.dK [])) p1 (.dK (mergeK [] (kvOf ExpR1)))) p (.dK (mergeK (kvOf ExpR0) (mergeK [] (kvOf ExpR1)))) = H1 at t1
  refine ⟨_, rfl, .inr (.inr (.inl ⟨rfl, .inl ⟨_, t1.2.2⟩⟩)), fun p2 np2 => ?_⟩
  have n2 : p ≠ p2 := ne_of_none t1.2.2 np2
  refine ⟨upd_same, kvOf ExpR2, rfl, by decide, p, p2, _, _, rfl, rfl, n2, by rw [upd_ne n2, upd_ne n2]; exact t1.2.2, upd_same, by decide, ?_⟩
  have t2 := t1.upd (B := ExpR2) np2 (by decide +kernel)
  generalize upd (upd (upd H1 p2 (.dK [])) p2 (.dK (mergeK [] (kvOf ExpR2)))) p (.dK (mergeK (kvOf (ExpR0 ++ ExpR1)) (mergeK [] (kvOf ExpR2)))) = H2 at t2
  refine ⟨_, rfl, .inr (.inr (.inl ⟨rfl, .inl ⟨_, t2.2.2⟩⟩)), fun p3 np3 => ?_⟩
  have n3 : p ≠ p3 := ne_of_none t2.2.2 np3
  refine ⟨upd_same, kvOf ExpR3, rfl, by decide, p, p3, _, _, rfl, rfl, n3, by rw [upd_ne n3, upd_ne n3]; exact t2.2.2, upd_same, by decide, ?_⟩
  have t3 := t2.upd (B := ExpR3) np3 (by decide +kernel)
  generalize upd (upd (upd H2 p3 (.dK [])) p3 (.dK (mergeK [] (kvOf ExpR3)))) p (.dK (mergeK (kvOf ((ExpR0 ++ ExpR1) ++ ExpR2)) (mergeK [] (kvOf ExpR3)))) = H3 at t3
  refine ⟨_, rfl, .inr (.inr (.inl ⟨rfl, .inl ⟨_, t3.2.2⟩⟩)), fun p4 np4 => ?_⟩
  have n4 : p ≠ p4 := ne_of_none t3.2.2 np4
  refine ⟨upd_same, kvOf ExpR4, rfl, by decide, p, p4, _, _, rfl, rfl, n4, by rw [upd_ne n4, upd_ne n4]; exact t3.2.2, upd_same, by decide, ?_⟩
  have t4 := t3.upd (B := ExpR4) np4 (by decide +kernel)
  generalize upd (upd (upd H3 p4 (.dK [])) p4 (.dK (mergeK [] (kvOf ExpR4)))) p (.dK (mergeK (kvOf (((ExpR0 ++ ExpR1) ++ ExpR2) ++ ExpR3)) (mergeK [] (kvOf ExpR4)))) = H4 at t4
  refine ⟨_, rfl, .inr (.inr (.inl ⟨rfl, .inl ⟨_, t4.2.2⟩⟩)), fun p5 np5 => ?_⟩
  have n5 : p ≠ p5 := ne_of_none t4.2.2 np5
  refine ⟨upd_same, kvOf ExpR5, rfl, by decide, p, p5, _, _, rfl, rfl, n5, by rw [upd_ne n5, upd_ne n5]; exact t4.2.2, upd_same, by decide, ?_⟩
  have t5 := t4.upd (B := ExpR5) np5 (by decide +kernel)
  generalize upd (upd (upd H4 p5 (.dK [])) p5 (.dK (mergeK [] (kvOf ExpR5)))) p (.dK (mergeK (kvOf ((((ExpR0 ++ ExpR1) ++ ExpR2) ++ ExpR3) ++ ExpR4)) (mergeK [] (kvOf ExpR5)))) = H5 at t5
  refine ⟨_, rfl, .inr (.inr (.inl ⟨rfl, .inl ⟨_, t5.2.2⟩⟩)), fun p6 np6 => ?_⟩
  have n6 : p ≠ p6 := ne_of_none t5.2.2 np6
  refine ⟨upd_same, kvOf ExpR6, rfl, by decide, p, p6, _, _, rfl, rfl, n6, by rw [upd_ne n6, upd_ne n6]; exact t5.2.2, upd_same, by decide, ?_⟩
  have t6 := t5.upd (B := ExpR6) np6 (by decide +kernel)
  generalize upd (upd (upd H5 p6 (.dK [])) p6 (.dK (mergeK [] (kvOf ExpR6)))) p (.dK (mergeK (kvOf (((((ExpR0 ++ ExpR1) ++ ExpR2) ++ ExpR3) ++ ExpR4) ++ ExpR5)) (mergeK [] (kvOf ExpR6)))) = H6 at t6
  refine ⟨_, rfl, .inr (.inr (.inl ⟨rfl, .inl ⟨_, t6.2.2⟩⟩)), fun p7 np7 => ?_⟩
  have n7 : p ≠ p7 := ne_of_none t6.2.2 np7
  refine ⟨upd_same, kvOf ExpR7, rfl, by decide, p, p7, _, _, rfl, rfl, n7, by rw [upd_ne n7, upd_ne n7]; exact t6.2.2, upd_same, by decide, ?_⟩
  have t7 := t6.upd (B := ExpR7) np7 (by decide +kernel)
  generalize upd (upd (upd H6 p7 (.dK [])) p7 (.dK (mergeK [] (kvOf ExpR7)))) p (.dK (mergeK (kvOf ((((((ExpR0 ++ ExpR1) ++ ExpR2) ++ ExpR3) ++ ExpR4) ++ ExpR5) ++ ExpR6)) (mergeK [] (kvOf ExpR7)))) = H7 at t7
  refine ⟨_, rfl, .inr (.inr (.inl ⟨rfl, .inl ⟨_, t7.2.2⟩⟩)), fun p8 np8 => ?_⟩
  have n8 : p ≠ p8 := ne_of_none t7.2.2 np8
  refine ⟨upd_same, kvOf ExpR8, rfl, by decide, p, p8, _, _, rfl, rfl, n8, by rw [upd_ne n8, upd_ne n8]; exact t7.2.2, upd_same, by decide, ?_⟩
  have t8 := t7.upd (B := ExpR8) np8 (by decide +kernel)
  generalize upd (upd (upd H7 p8 (.dK [])) p8 (.dK (mergeK [] (kvOf ExpR8)))) p (.dK (mergeK (kvOf (((((((ExpR0 ++ ExpR1) ++ ExpR2) ++ ExpR3) ++ ExpR4) ++ ExpR5) ++ ExpR6) ++ ExpR7)) (mergeK [] (kvOf ExpR8)))) = H8 at t8
  refine ⟨_, rfl, .inr (.inr (.inl ⟨rfl, .inl ⟨_, t8.2.2⟩⟩)), fun p9 np9 => ?_⟩
  have n9 : p ≠ p9 := ne_of_none t8.2.2 np9
  refine ⟨upd_same, kvOf ExpR9, rfl, by decide, p, p9, _, _, rfl, rfl, n9, by rw [upd_ne n9, upd_ne n9]; exact t8.2.2, upd_same, by decide, ?_⟩
  have t9 := t8.upd (B := ExpR9) np9 (by decide +kernel)
  generalize upd (upd (upd H8 p9 (.dK [])) p9 (.dK (mergeK [] (kvOf ExpR9)))) p (.dK (mergeK (kvOf ((((((((ExpR0 ++ ExpR1) ++ ExpR2) ++ ExpR3) ++ ExpR4) ++ ExpR5) ++ ExpR6) ++ ExpR7) ++ ExpR8)) (mergeK [] (kvOf ExpR9)))) = H9 at t9
  exact ⟨_, rfl, q _ _ t9⟩
def PatR0 : List (Str × Str) := [("MatchValue", "value E"), ("MatchSingleton", "value L"), ("MatchSequence", "patterns P*")]
def PatR1 : List (Str × Str) := [("MatchOr", "patterns P+"), ("MatchMapping", "keys E*, patterns P*, rest N?")]
def PatR2 : List (Str × Str) := [("MatchStar", "name N?"), ("MatchAs", "pattern P?, name N?")]
def PatR3 : List (Str × Str) := [("MatchClass", "cls E, patterns P*, kwd_attrs N*, kwd_patterns P*")]
def PatRows : List (Str × Str) := (((PatR0 ++ PatR1) ++ PatR2) ++ PatR3)
abbrev sPat : Stmt := topS 37
theorem scPat : FnScope ["_law_rows"] [] (defScope sPat) := ⟨rfl, rfl, rfl, by decide +kernel, rfl, by decide +kernel, by decide +kernel⟩
theorem ok_Pat {P : Program} {w : World} {K : PySem.W.Frag} {mg : Str → Option Value} {base : Heap} {f : Addr} {fd : FuncData} (F : Fun K "_law_patterns" "_law_patterns" sPat f fd) : FnOk P w K mg base CX0 1 f fd [] (spTab PatRows) := by
  refine F.ok scPat (fun vs H Q E h => ?_) (fun cdv A outer s H vs Q E hr h => ?_)
  · rw [h.1]; rfl
  obtain ⟨rfl, q⟩ := h
  refine ⟨_, pss_cons (ps_set (i := 0) scPat.nd rfl (.inl rfl) (pe_disp (pps_cons pe_str pe_str (pps_cons pe_str pe_str (pps_cons pe_str pe_str pps_nil))) (by rfl) (by rfl) (fun z => by cases z) (by decide)))
    (pss_cons (ps_expr (pe_bm PySem.F.plainAttrs_dict PySem.F.slot_dict_update PySem.F.type_dict_update mt_update (pv 0) (pa_cons (pe_disp (pps_cons pe_str pe_str (pps_cons pe_str pe_str pps_nil)) (by rfl) (by rfl) (fun z => by cases z) (by decide)) pa_nil)))
    (pss_cons (ps_expr (pe_bm PySem.F.plainAttrs_dict PySem.F.slot_dict_update PySem.F.type_dict_update mt_update (pv 0) (pa_cons (pe_disp (pps_cons pe_str pe_str (pps_cons pe_str pe_str pps_nil)) (by rfl) (by rfl) (fun z => by cases z) (by decide)) pa_nil)))
    (pss_cons (ps_expr (pe_bm PySem.F.plainAttrs_dict PySem.F.slot_dict_update PySem.F.type_dict_update mt_update (pv 0) (pa_cons (pe_disp (pps_cons pe_str pe_str pps_nil) (by rfl) (by rfl) (fun z => by cases z) (by decide)) pa_nil)))
    (pss_one (ps_ret (pv 0)))))), ?_⟩
  refine fun p np => ?_
  refine ⟨upd_same, kvOf PatR0, rfl, by decide, ?_⟩
  have t0 := Tab.new (rows := PatR0) np (by decide +kernel)
  generalize upd (upd H p (.dK [])) p (.dK (mergeK [] (kvOf PatR0))) = H0 at t0
  refine ⟨_, rfl, .inr (.inr (.inl ⟨rfl, .inl ⟨_, t0.2.2⟩⟩)), fun p1 np1 => ?_⟩
  have n1 : p ≠ p1 := ne_of_none t0.2.2 np1
  refine ⟨upd_same, kvOf PatR1, rfl, by decide, p, p1, _, _, rfl, rfl, n1, by rw [upd_ne n1, upd_ne n1]; exact t0.2.2, upd_same, by decide, ?_⟩
  have t1 := t0.upd (B := PatR1) np1 (by decide +kernel)
  generalize upd (upd (upd H0 p1 (.dK [])) p1 (.dK (mergeK [] (kvOf PatR1)))) p (.dK (mergeK (kvOf PatR0) (mergeK [] (kvOf PatR1)))) = H1 at t1
  refine ⟨_, rfl, .inr (.inr (.inl ⟨rfl, .inl ⟨_, t1.2.2⟩⟩)), fun p2 np2 => ?_⟩
  have n2 : p ≠ p2 := ne_of_none t1.2.2 np2
  refine ⟨upd_same, kvOf PatR2, rfl, by decide, p, p2, _, _, rfl, rfl, n2, by rw [upd_ne n2, upd_ne n2]; exact t1.2.2, upd_same, by decide, ?_⟩
  have t2 := t1.upd (B := PatR2) np2 (by decide +kernel)
  generalize upd (upd (upd H1 p2 (.dK [])) p2 (.dK (mergeK [] (kvOf PatR2)))) p (.dK (mergeK (kvOf (PatR0 ++ PatR1)) (mergeK [] (kvOf PatR2)))) = H2 at t2
  refine ⟨_, rfl, .inr (.inr (.inl ⟨rfl, .inl ⟨_, t2.2.2⟩⟩)), fun p3 np3 => ?_⟩
  have n3 : p ≠ p3 := ne_of_none t2.2.2 np3
  refine ⟨upd_same, kvOf PatR3, rfl, by decide, p, p3, _, _, rfl, rfl, n3, by rw [upd_ne n3, upd_ne n3]; exact t2.2.2, upd_same, by decide, ?_⟩
  have t3 := t2.upd (B := PatR3) np3 (by decide +kernel)
  generalize upd (upd (upd H2 p3 (.dK [])) p3 (.dK (mergeK [] (kvOf PatR3)))) p (.dK (mergeK (kvOf ((PatR0 ++ PatR1) ++ PatR2)) (mergeK [] (kvOf PatR3)))) = H3 at t3
  exact ⟨_, rfl, q _ _ t3⟩
def PrtR0 : List (Str × Str) := [("Module", "body S*"), ("Expression", "body E"), ("comprehension", "target E, iter E, ifs E*, is_async 01")]
def PrtR1 : List (Str × Str) := [("ExceptHandler", "exc E?, name N?, body S+"), ("arguments", "posonlyargs arg*, args arg*, vararg arg?, kwonlyargs arg*, kw_defaults E?*, kwarg arg?, defaults E*"), ("arg", "arg N, annotation E?")]
def PrtR2 : List (Str × Str) := [("keyword", "arg N?, value E"), ("alias", "name A, asname N?")]
def PrtR3 : List (Str × Str) := [("withitem", "context_expr E, optional_vars E?")]
def PrtR4 : List (Str × Str) := [("match_case", "pattern P, guard E?, body S+")]
def PrtRows : List (Str × Str) := ((((PrtR0 ++ PrtR1) ++ PrtR2) ++ PrtR3) ++ PrtR4)
abbrev sPrt : Stmt := topS 38
theorem scPrt : FnScope ["_law_rows", "_law_more"] [] (defScope sPrt) := ⟨rfl, rfl, rfl, by decide +kernel, rfl, by decide +kernel, by decide +kernel⟩
theorem ok_Prt {P : Program} {w : World} {K : PySem.W.Frag} {mg : Str → Option Value} {base : Heap} {f : Addr} {fd : FuncData} (F : Fun K "_law_parts" "_law_parts" sPrt f fd) : FnOk P w K mg base CX0 1 f fd [] (spTab PrtRows) := by
  refine F.ok scPrt (fun vs H Q E h => ?_) (fun cdv A outer s H vs Q E hr h => ?_)
  · rw [h.1]; rfl
  obtain ⟨rfl, q⟩ := h
  refine ⟨_, pss_cons (ps_set (i := 0) scPrt.nd rfl (.inl rfl) (pe_disp (pps_cons pe_str pe_str (pps_cons pe_str pe_str (pps_cons pe_str pe_str pps_nil))) (by rfl) (by rfl) (fun z => by cases z) (by decide)))
    (pss_cons (ps_set (i := 1) scPrt.nd rfl (.inl rfl) pe_str)
    (pss_cons (ps_expr (pe_bm PySem.F.plainAttrs_dict PySem.F.slot_dict_update PySem.F.type_dict_update mt_update (pv 0) (pa_cons (pe_disp (pps_cons pe_str pe_str (pps_cons pe_str (pv 1) (pps_cons pe_str pe_str pps_nil))) (by rfl) (by rfl) (fun z => by cases z) (by decide)) pa_nil)))
    (pss_cons (ps_expr (pe_bm PySem.F.plainAttrs_dict PySem.F.slot_dict_update PySem.F.type_dict_update mt_update (pv 0) (pa_cons (pe_disp (pps_cons pe_str pe_str (pps_cons pe_str pe_str pps_nil)) (by rfl) (by rfl) (fun z => by cases z) (by decide)) pa_nil)))
    (pss_cons (ps_expr (pe_bm PySem.F.plainAttrs_dict PySem.F.slot_dict_update PySem.F.type_dict_update mt_update (pv 0) (pa_cons (pe_disp (pps_cons pe_str pe_str pps_nil) (by rfl) (by rfl) (fun z => by cases z) (by decide)) pa_nil)))
    (pss_cons (ps_expr (pe_bm PySem.F.plainAttrs_dict PySem.F.slot_dict_update PySem.F.type_dict_update mt_update (pv 0) (pa_cons (pe_disp (pps_cons pe_str pe_str pps_nil) (by rfl) (by rfl) (fun z => by cases z) (by decide)) pa_nil)))
    (pss_one (ps_ret (pv 0)))))))), ?_⟩
  refine fun p np => ?_
  refine ⟨upd_same, kvOf PrtR0, rfl, by decide, ?_⟩
  have t0 := Tab.new (rows := PrtR0) np (by decide +kernel)
  generalize upd (upd H p (.dK [])) p (.dK (mergeK [] (kvOf PrtR0))) = H0 at t0
  refine ⟨_, rfl, .inr (.inr (.inl ⟨rfl, .inl ⟨_, t0.2.2⟩⟩)), fun p1 np1 => ?_⟩
  have n1 : p ≠ p1 := ne_of_none t0.2.2 np1
  refine ⟨_, rfl, upd_same, kvOf PrtR1, rfl, by decide, p, p1, _, _, rfl, rfl, n1, by rw [upd_ne n1, upd_ne n1]; exact t0.2.2, upd_same, by decide, ?_⟩
  have t1 := t0.upd (B := PrtR1) np1 (by decide +kernel)
  generalize upd (upd (upd H0 p1 (.dK [])) p1 (.dK (mergeK [] (kvOf PrtR1)))) p (.dK (mergeK (kvOf PrtR0) (mergeK [] (kvOf PrtR1)))) = H1 at t1
  refine ⟨_, rfl, .inr (.inr (.inl ⟨rfl, .inl ⟨_, t1.2.2⟩⟩)), fun p2 np2 => ?_⟩
  have n2 : p ≠ p2 := ne_of_none t1.2.2 np2
  refine ⟨upd_same, kvOf PrtR2, rfl, by decide, p, p2, _, _, rfl, rfl, n2, by rw [upd_ne n2, upd_ne n2]; exact t1.2.2, upd_same, by decide, ?_⟩
  have t2 := t1.upd (B := PrtR2) np2 (by decide +kernel)
  generalize upd (upd (upd H1 p2 (.dK [])) p2 (.dK (mergeK [] (kvOf PrtR2)))) p (.dK (mergeK (kvOf (PrtR0 ++ PrtR1)) (mergeK [] (kvOf PrtR2)))) = H2 at t2
  refine ⟨_, rfl, .inr (.inr (.inl ⟨rfl, .inl ⟨_, t2.2.2⟩⟩)), fun p3 np3 => ?_⟩
  have n3 : p ≠ p3 := ne_of_none t2.2.2 np3
  refine ⟨upd_same, kvOf PrtR3, rfl, by decide, p, p3, _, _, rfl, rfl, n3, by rw [upd_ne n3, upd_ne n3]; exact t2.2.2, upd_same, by decide, ?_⟩
  have t3 := t2.upd (B := PrtR3) np3 (by decide +kernel)
  generalize upd (upd (upd H2 p3 (.dK [])) p3 (.dK (mergeK [] (kvOf PrtR3)))) p (.dK (mergeK (kvOf ((PrtR0 ++ PrtR1) ++ PrtR2)) (mergeK [] (kvOf PrtR3)))) = H3 at t3
  refine ⟨_, rfl, .inr (.inr (.inl ⟨rfl, .inl ⟨_, t3.2.2⟩⟩)), fun p4 np4 => ?_⟩
  have n4 : p ≠ p4 := ne_of_none t3.2.2 np4
  refine ⟨upd_same, kvOf PrtR4, rfl, by decide, p, p4, _, _, rfl, rfl, n4, by rw [upd_ne n4, upd_ne n4]; exact t3.2.2, upd_same, by decide, ?_⟩
  have t4 := t3.upd (B := PrtR4) np4 (by decide +kernel)
  generalize upd (upd (upd H3 p4 (.dK [])) p4 (.dK (mergeK [] (kvOf PrtR4)))) p (.dK (mergeK (kvOf (((PrtR0 ++ PrtR1) ++ PrtR2) ++ PrtR3)) (mergeK [] (kvOf PrtR4)))) = H4 at t4
  exact ⟨_, rfl, q _ _ t4⟩
end K5

namespace K5
open PySem PySem.Spec PyProof.Rows L2
/-! ### the kinds without fields that a letter stands for -/
def sgR0 : List (Str × Str) := [("B", "And Or"), ("U", "Invert Not UAdd USub"), ("X", "Load Store Del")]
def sgR1 : List (Str × Str) := [("O", "Add Sub Mult MatMult Div FloorDiv Pow LShift RShift BitOr BitXor BitAnd")]
def sgR2 : List (Str × Str) := [("C", "Eq NotEq Lt LtE Gt GtE Is IsNot In NotIn")]
def sgRows : List (Str × Str) := (sgR0 ++ sgR1) ++ sgR2
def signs (w : Str) : List Str := match sgRows.lookup w with
  | some x => Txt.split x " "
  | none => []
abbrev sSg : Stmt := topS 39
theorem scSg : FnScope ["_law_word_here", "_law_rows"] ["_law_word_here"] (defScope sSg) := ⟨rfl, rfl, rfl, by decide +kernel, rfl, by decide +kernel, by decide +kernel⟩
theorem valV_kvOf (w : Str) : ∀ rows : List (Str × Str), valV (kvOf rows) (Sum.inr w) = (rows.lookup w).map V.str
  | [] => rfl
  | (k, x) :: r => by
    have ih := valV_kvOf w r
    by_cases e : k = w
    · subst e
      show valV ((Sum.inr k, V.str x) :: kvOf r) (Sum.inr k) = _
      rw [valV_pos rfl, List.lookup_cons_self]
      rfl
    · show valV ((Sum.inr k, V.str x) :: kvOf r) (Sum.inr w) = _
      rw [valV_neg (fun z => e (by injection z)), ih, List.lookup_cons, show (w == k) = false by simpa using fun z => e z.symm]
def spSg : Sp := fun vs H Q _ => ∃ w : Str, vs = [.str w] ∧ ∀ (H' : Hp) (p : Addr), H p = none → Same H H' → H' p = some (.lst ((signs w).map V.str)) → Q (.ref p) H'
theorem sg_short : ∀ p ∈ sgRows, p.2.length + 2 ≤ sizeLine := by
  have h : (sgRows.all fun p => decide (p.2.length ≤ 100)) = true := by decide +kernel
  intro p hp
  have z := of_decide_eq_true (List.all_eq_true.mp h p hp)
  have s : (102 : Nat) ≤ sizeLine := by decide
  omega
theorem lookup_mem {w x : Str} : ∀ {rows : List (Str × Str)}, rows.lookup w = some x → ∃ k, (k, x) ∈ rows
  | [], h => by cases h
  | (k, y) :: r, h => by
    rw [List.lookup_cons] at h
    split at h
    · cases h
      exact ⟨k, List.mem_cons_self ..⟩
    · obtain ⟨k', m⟩ := lookup_mem h
      exact ⟨k', List.mem_cons_of_mem _ m⟩
theorem ok_signs {P : Program} {w : World} {K : PySem.W.Frag} {mg : Str → Option Value} {base : Heap} {f : Addr} {fd : FuncData} (F : Fun K "_law_signs_of" "_law_signs_of" sSg f fd) : FnOk P w K mg base CX0 1 f fd ["_law_word_here"] spSg := by
  refine F.ok scSg (fun vs H Q E h => ?_) (fun cdv A outer s H vs Q E hr h => ?_)
  · obtain ⟨w, rfl, _⟩ := h
    rfl
  obtain ⟨wd, rfl, q⟩ := h
  refine ⟨_, pss_cons (ps_set (i := 1) scSg.nd rfl (.inl rfl) (pe_disp (pps_cons pe_str pe_str (pps_cons pe_str pe_str (pps_cons pe_str pe_str pps_nil))) (by rfl) (by rfl) (fun z => by cases z) (by decide)))
    (pss_cons (ps_expr (pe_bm PySem.F.plainAttrs_dict PySem.F.slot_dict_update PySem.F.type_dict_update mt_update (pv 1) (pa_cons (pe_disp (pps_cons pe_str pe_str pps_nil) (by rfl) (by rfl) (fun z => by cases z) (by decide)) pa_nil)))
    (pss_cons (ps_expr (pe_bm PySem.F.plainAttrs_dict PySem.F.slot_dict_update PySem.F.type_dict_update mt_update (pv 1) (pa_cons (pe_disp (pps_cons pe_str pe_str pps_nil) (by rfl) (by rfl) (fun z => by cases z) (by decide)) pa_nil)))
    (pss_one (ps_ret (pe_ifExp (pt_cmp (pc_din (hu_of hr) (pv 0) (pv 1))) (pe_split (pe_dget (hu_of hr) (pv 1) (pv 0) (fun _ _ => rfl)) pe_str) (pe_lst pa_nil)))))), ?_⟩
  refine fun p np => ?_
  refine ⟨upd_same, kvOf sgR0, rfl, by decide, ?_⟩
  have t0 := Tab.new (rows := sgR0) np (by decide +kernel)
  generalize upd (upd H p (.dK [])) p (.dK (mergeK [] (kvOf sgR0))) = H0 at t0
  refine ⟨_, rfl, .inr (.inr (.inl ⟨rfl, .inl ⟨_, t0.2.2⟩⟩)), fun p1 np1 => ?_⟩
  have n1 : p ≠ p1 := ne_of_none t0.2.2 np1
  refine ⟨upd_same, kvOf sgR1, rfl, by decide, p, p1, _, _, rfl, rfl, n1, by rw [upd_ne n1, upd_ne n1]; exact t0.2.2, upd_same, by decide, ?_⟩
  have t1 := t0.upd (B := sgR1) np1 (by decide +kernel)
  generalize upd (upd (upd H0 p1 (.dK [])) p1 (.dK (mergeK [] (kvOf sgR1)))) p (.dK (mergeK (kvOf sgR0) (mergeK [] (kvOf sgR1)))) = H1 at t1
  refine ⟨_, rfl, .inr (.inr (.inl ⟨rfl, .inl ⟨_, t1.2.2⟩⟩)), fun p2 np2 => ?_⟩
  have n2 : p ≠ p2 := ne_of_none t1.2.2 np2
  refine ⟨upd_same, kvOf sgR2, rfl, by decide, p, p2, _, _, rfl, rfl, n2, by rw [upd_ne n2, upd_ne n2]; exact t1.2.2, upd_same, by decide, ?_⟩
  have t2 := t1.upd (B := sgR2) np2 (by decide +kernel)
  generalize upd (upd (upd H1 p2 (.dK [])) p2 (.dK (mergeK [] (kvOf sgR2)))) p (.dK (mergeK (kvOf (sgR0 ++ sgR1)) (mergeK [] (kvOf sgR2)))) = H2 at t2
  obtain ⟨nHp, s2, hp2⟩ := t2
  have new : ∀ a, H2 a = none → H a = none := fun a na => by
    cases e : H a with
    | none => rfl
    | some o => rw [s2 _ _ e] at na; cases na
  refine ⟨_, rfl, _, rfl, p, _, rfl, DGet.k (k := Sum.inr wd) hp2, _, rfl, ?_⟩
  have ev := valV_kvOf wd ((sgR0 ++ sgR1) ++ sgR2)
  cases hl : sgRows.lookup wd with
  | none =>
    rw [show ((sgR0 ++ sgR1) ++ sgR2).lookup wd = none from hl] at ev
    rw [ev]
    refine iteF ?_
    refine ⟨Nat.zero_le _, fun l nl => q _ l (new l nl) (s2.trans fun b u e => ?_) ?_⟩
    · rw [upd_ne (ne_of_none e nl)]; exact e
    · rw [upd_same]
      unfold signs
      rw [hl]
      rfl
  | some x =>
    rw [show ((sgR0 ++ sgR1) ++ sgR2).lookup wd = some x from hl] at ev
    rw [ev]
    refine iteT ?_
    obtain ⟨k, hk⟩ := lookup_mem hl
    have g : DGet H2 p (.str wd) (some (.str x)) := by
      have z := DGet.k (k := Sum.inr wd) hp2
      rw [ev] at z
      exact z
    refine ⟨_, rfl, _, rfl, p, _, rfl, g, ⟨_, rfl⟩, x, _, rfl, rfl, by decide +kernel, sg_short _ hk, fun l nl => q _ l (new l nl) (s2.trans fun b u e => ?_) ?_⟩
    · rw [upd_ne (ne_of_none e nl)]; exact e
    · rw [upd_same]
      unfold signs
      rw [hl]
end K5

namespace K5
open PySem PySem.Spec PyProof.Rows L2
/-! ### the law's table of all kinds -/
abbrev sTbl : Stmt := topS 40
abbrev nTbl : List Str := ["_law_found", "_law_rows", "_law_kind", "_law_part", "_law_word_here"]
theorem scTbl : FnScope nTbl [] (defScope sTbl) := ⟨rfl, rfl, rfl, by decide +kernel, rfl, by decide +kernel, by decide +kernel⟩
structure TDefs (P : Program) (w : World) (K : PySem.W.Frag) (mg : Str → Option Value) (base : Heap) (fS fE fT fR fG : Addr) (dS dE dT dR dG : FuncData) : Prop where
  S : FnOk P w K mg base CX0 1 fS dS [] (spTab StmRows)
  bS : Binds K dS [] []
  kS : PySem.W.keepIn K (.ref fS) = true
  mS : mg "_law_statements" = some (.ref fS)
  E : FnOk P w K mg base CX0 1 fE dE [] (spTab ExpRows)
  bE : Binds K dE [] []
  kE : PySem.W.keepIn K (.ref fE) = true
  mE : mg "_law_expressions" = some (.ref fE)
  T : FnOk P w K mg base CX0 1 fT dT [] (spTab PatRows)
  bT : Binds K dT [] []
  kT : PySem.W.keepIn K (.ref fT) = true
  mT : mg "_law_patterns" = some (.ref fT)
  R : FnOk P w K mg base CX0 1 fR dR [] (spTab PrtRows)
  bR : Binds K dR [] []
  kR : PySem.W.keepIn K (.ref fR) = true
  mR : mg "_law_parts" = some (.ref fR)
  G : FnOk P w K mg base CX0 1 fG dG ["_law_word_here"] spSg
  bG : Binds K dG ["_law_word_here"] []
  kG : PySem.W.keepIn K (.ref fG) = true
  mG : mg "_law_signs_of" = some (.ref fG)
/-- the parts of a kind: pairs of a field and what it holds -/
def partsOf (x : Str) : List (List Str) := if x = "" then [] else (Txt.split x ", ").map fun p => Txt.split p " "
def PartsAt (H : Hp) (a : Addr) (ps : List (List Str)) : Prop := ∃ as : List Addr, H a = some (.lst (as.map V.ref)) ∧ as.length = ps.length ∧ ∀ (i : Nat) b p, as[i]? = some b → ps[i]? = some p → H b = some (.lst (p.map V.str))
theorem PartsAt.same {H H' : Hp} {a : Addr} {ps : List (List Str)} (k : Same H H') (h : PartsAt H a ps) : PartsAt H' a ps := by
  obtain ⟨as, h1, h2, h3⟩ := h
  exact ⟨as, k _ _ h1, h2, fun i b p g1 g2 => k _ _ (h3 i b p g1 g2)⟩
theorem PartsAt.put {H : Hp} {a t : Addr} {ps : List (List Str)} {kv kv' : List (Key × V)} (h : PartsAt H a ps) (ht : H t = some (.dK kv)) : PartsAt (upd H t (.dK kv')) a ps := by
  have st : ∀ b xs, H b = some (.lst xs) → (upd H t (.dK kv')) b = some (.lst xs) := fun b xs e => by
    have n : b ≠ t := fun z => by rw [z, ht] at e; cases e
    rw [upd_ne n]; exact e
  obtain ⟨as, h1, h2, h3⟩ := h
  exact ⟨as, st _ _ h1, h2, fun i b p g1 g2 => st _ _ (h3 i b p g1 g2)⟩
def mkT (ents : List (Str × List (List Str))) (vs : List Addr) : List (Key × V) := List.zipWith (fun e v => (Sum.inr e.1, V.ref v)) ents vs
/-- the table at t, so far -/
structure Tbl (H0 H : Hp) (t : Addr) (ents : List (Str × List (List Str))) (vs : List Addr) : Prop where
  n0 : H0 t = none
  sm : Same H0 H
  len : vs.length = ents.length
  at_ : H t = some (.dK (mkT ents vs))
  pts : ∀ (i : Nat) v e, vs[i]? = some v → ents[i]? = some e → PartsAt H v e.2
  nw : ∀ v ∈ vs, H0 v = none
def ent (r : Str × Str) : Str × List (List Str) := (r.1, partsOf r.2)
theorem mkT_snoc {ents : List (Str × List (List Str))} {vs : List Addr} (h : vs.length = ents.length) (e : Str × List (List Str)) (v : Addr) : mkT (ents ++ [e]) (vs ++ [v]) = mkT ents vs ++ [(Sum.inr e.1, V.ref v)] := by
  unfold mkT
  rw [List.zipWith_append h.symm]
  rfl
theorem mkT_keys : ∀ {ents : List (Str × List (List Str))} {vs : List Addr}, vs.length = ents.length → (mkT ents vs).map Prod.fst = (ents.map Prod.fst).map fun x : Str => (Sum.inr x : Key)
  | [], [], _ => rfl
  | e :: r, v :: vs, h => by
    show Sum.inr e.1 :: (mkT r vs).map Prod.fst = _
    rw [mkT_keys (ents := r) (vs := vs) (Nat.succ.inj h)]
    rfl
  | [], _ :: _, h => by cases h
  | _ :: _, [], h => by cases h
theorem mkT_len {ents : List (Str × List (List Str))} {vs : List Addr} (h : vs.length = ents.length) : (mkT ents vs).length = ents.length := by
  unfold mkT
  rw [List.length_zipWith, h, Nat.min_self]
/-- one kind more -/
theorem Tbl.put {H0 H : Hp} {t v : Addr} {ents : List (Str × List (List Str))} {vs : List Addr} {k : Str} {ps : List (List Str)} (T : Tbl H0 H t ents vs) (hp : PartsAt H v ps) (hk : k ∉ ents.map Prod.fst) (hv : H0 v = none) :
    Tbl H0 (upd H t (.dK (putK (mkT ents vs) (Sum.inr k) (.ref v)))) t (ents ++ [(k, ps)]) (vs ++ [v]) := by
  have e : putK (mkT ents vs) (Sum.inr k) (.ref v) = mkT (ents ++ [(k, ps)]) (vs ++ [v]) := by
    rw [putK_new, mkT_snoc T.len]
    rw [mkT_keys T.len]
    intro z
    obtain ⟨x, hx, z⟩ := List.mem_map.mp z
    injection z with z
    exact hk (z ▸ hx)
  refine ⟨T.n0, fun b o eb => ?_, by rw [List.length_append, List.length_append, T.len]; rfl, by rw [upd_same, e], fun i x p g1 g2 => ?_, fun x hx => (List.mem_append.mp hx).elim (T.nw x) fun h => by rw [List.mem_singleton.mp h]; exact hv⟩
  · rw [upd_ne (ne_of_none eb T.n0)]; exact T.sm _ _ eb
  · by_cases hi : i < vs.length
    · rw [List.getElem?_append_left hi] at g1
      rw [List.getElem?_append_left (by rw [← T.len]; exact hi)] at g2
      exact (T.pts i x p g1 g2).put T.at_
    · have li : i < (vs ++ [v]).length := by
        rcases Nat.lt_or_ge i (vs ++ [v]).length with q | q
        · exact q
        · rw [List.getElem?_eq_none q] at g1; cases g1
      rw [List.length_append, List.length_singleton] at li
      have e1 : i = vs.length := by omega
      subst e1
      rw [List.getElem?_append_right (Nat.le_refl _), Nat.sub_self] at g1
      rw [T.len, List.getElem?_append_right (Nat.le_refl _), Nat.sub_self] at g2
      cases g1
      cases g2
      exact hp.put T.at_
theorem Tbl.keep {H0 H H' : Hp} {t : Addr} {ents : List (Str × List (List Str))} {vs : List Addr} (T : Tbl H0 H t ents vs) (k : Same H H') : Tbl H0 H' t ents vs :=
  ⟨T.n0, T.sm.trans k, T.len, k _ _ T.at_, fun i v e g1 g2 => (T.pts i v e g1 g2).same k, T.nw⟩
/-- what is asked of a table of texts -/
def fine (rows : List (Str × Str)) : Bool := rows.all fun r => decide (r.2.length ≤ 200) && decide ((Txt.split r.2 ", ").length ≤ 20) && (Txt.split r.2 ", ").all fun p => decide (p.length ≤ 100)
theorem fine_at {rows : List (Str × Str)} (h : fine rows = true) {r : Str × Str} (hr : r ∈ rows) : r.2.length + 2 ≤ sizeLine ∧ (Txt.split r.2 ", ").length ≤ 20 ∧ ∀ p ∈ Txt.split r.2 ", ", p.length + 2 ≤ sizeLine := by
  have z := List.all_eq_true.mp h r hr
  simp only [Bool.and_eq_true, decide_eq_true_eq, List.all_eq_true] at z
  have s : (202 : Nat) ≤ sizeLine := by decide
  exact ⟨by omega, z.1.2, fun p hp => by have := z.2 p hp; omega⟩
theorem lookup_at : ∀ {rows : List (Str × Str)} {j : Nat} {k x : Str}, (rows.map Prod.fst).Nodup → rows[j]? = some (k, x) → rows.lookup k = some x
  | [], j, k, x, _, h => by simp at h
  | (k0, x0) :: r, 0, k, x, _, h => by
    cases h
    exact List.lookup_cons_self
  | (k0, x0) :: r, j + 1, k, x, n, h => by
    have hm : k ∈ r.map Prod.fst := List.mem_map.mpr ⟨(k, x), List.mem_of_getElem? h, rfl⟩
    have n2 := List.nodup_cons.mp n
    have ne : (k == k0) = false := by
      have : k ≠ k0 := fun z => n2.1 (z ▸ hm)
      simpa using this
    rw [List.lookup_cons, ne]
    exact lookup_at n2.2 h
theorem fineS : fine StmRows = true := by decide +kernel
theorem fineE : fine ExpRows = true := by decide +kernel
theorem fineP : fine PatRows = true := by decide +kernel
theorem fineR : fine PrtRows = true := by decide +kernel
theorem PartsAt.off {H : Hp} {a d : Addr} {ps : List (List Str)} {u o : HO} (h : PartsAt H a ps) (hd : H d = some u) (hu : ∀ xs, u ≠ .lst xs) : PartsAt (upd H d o) a ps := by
  have st : ∀ b xs, H b = some (.lst xs) → (upd H d o) b = some (.lst xs) := fun b xs e => by
    have n : b ≠ d := fun z => by
      rw [z, hd] at e
      exact hu xs (Option.some.inj e)
    rw [upd_ne n]; exact e
  obtain ⟨as, h1, h2, h3⟩ := h
  exact ⟨as, st _ _ h1, h2, fun i b p g1 g2 => st _ _ (h3 i b p g1 g2)⟩
theorem Tbl.off {H0 H : Hp} {t d : Addr} {ents : List (Str × List (List Str))} {vs : List Addr} {u o : HO} (T : Tbl H0 H t ents vs) (hd : H d = some u) (hu : ∀ xs, u ≠ .lst xs) (hdt : d ≠ t) (hd0 : H0 d = none) : Tbl H0 (upd H d o) t ents vs :=
  ⟨T.n0, fun b p e => by rw [upd_ne (ne_of_none e hd0)]; exact T.sm _ _ e, T.len, by rw [upd_ne hdt.symm]; exact T.at_, fun i v e g1 g2 => (T.pts i v e g1 g2).off hd hu, T.nw⟩
theorem fresh_key {A R : List (Str × Str)} {j : Nat} {r : Str × Str} (n : ((A ++ R).map Prod.fst).Nodup) (hr : R[j]? = some r) : r.1 ∉ ((A ++ R.take j).map ent).map Prod.fst := by
  intro z
  have e : ((A ++ R.take j).map ent).map Prod.fst = (A ++ R.take j).map Prod.fst := by rw [List.map_map]; rfl
  rw [e] at z
  have hR : R = R.take j ++ R.drop j := (List.take_append_drop j R).symm
  have hj : j < R.length := by
    rcases Nat.lt_or_ge j R.length with q | q
    · exact q
    · rw [List.getElem?_eq_none q] at hr; cases hr
  have hd : r ∈ R.drop j := by
    rw [List.drop_eq_getElem_cons hj]
    rw [List.getElem?_eq_getElem hj] at hr
    cases hr
    exact List.mem_cons_self ..
  rw [hR, ← List.append_assoc, List.map_append, List.nodup_append] at n
  exact n.2.2 r.1 z r.1 (List.mem_map.mpr ⟨r, hd, rfl⟩) rfl
theorem take_next {A R : List (Str × Str)} {j : Nat} {r : Str × Str} (hr : R[j]? = some r) : (A ++ R.take (j + 1)).map ent = (A ++ R.take j).map ent ++ [ent r] := by
  have e : R.take (j + 1) = R.take j ++ [r] := by
    rw [List.take_succ, hr]; rfl
  rw [e, ← List.append_assoc, List.map_append]
  rfl
def signRows (w : Str) : List (Str × Str) := (signs w).map fun k => (k, "")
def lets : List Str := ["B", "U", "X", "O", "C"]
def allRows : List (Str × Str) := StmRows ++ ExpRows ++ PatRows ++ PrtRows
def rowsTo (i : Nat) : List (Str × Str) := allRows ++ (lets.take i).flatMap signRows
def allEnts : List (Str × List (List Str)) := (rowsTo 5).map ent
def kv3 (e s q : Addr) : List (Key × V) := [(.inr "E", .ref e), (.inr "S", .ref s), (.inr "P", .ref q)]
/-- the whole table at t, with the groups -/
structure TblOk (H : Hp) (t : Addr) (vs : List Addr) (g e s q : Addr) : Prop where
  len : vs.length = allEnts.length
  at_ : H t = some (.dK (mkT allEnts vs ++ [(.inr "groups", .ref g)]))
  pts : ∀ (i : Nat) v p, vs[i]? = some v → allEnts[i]? = some p → PartsAt H v p.2
  gr : H g = some (.dK (kv3 e s q))
  ge : H e = some (.dK (kvOf ExpRows))
  gs : H s = some (.dK (kvOf StmRows))
  gq : H q = some (.dK (kvOf PatRows))
def spTbl : Sp := fun vs H Q _ => vs = [] ∧ ∀ (H' : Hp) (t : Addr) (vs : List Addr) (g e s q : Addr), H t = none → Same H H' → TblOk H' t vs g e s q → (∀ v ∈ vs, H v = none) → Q (.ref t) H'
theorem keysN : ∀ i, i < 5 → ((rowsTo i ++ signRows (lets.getD i "")).map Prod.fst).Nodup ∧ (rowsTo i ++ signRows (lets.getD i "")).length ≤ 200 ∧ rowsTo (i + 1) = rowsTo i ++ signRows (lets.getD i "") := by
  intro i hi
  rcases i with _ | _ | _ | _ | _ | i
  · exact ⟨by decide +kernel, by decide +kernel, by decide +kernel⟩
  · exact ⟨by decide +kernel, by decide +kernel, by decide +kernel⟩
  · exact ⟨by decide +kernel, by decide +kernel, by decide +kernel⟩
  · exact ⟨by decide +kernel, by decide +kernel, by decide +kernel⟩
  · exact ⟨by decide +kernel, by decide +kernel, by decide +kernel⟩
  · omega
theorem noGroups : ("groups" : Str) ∉ allEnts.map Prod.fst := by
  have h : ((rowsTo 5).map Prod.fst).contains "groups" = false := by decide +kernel
  intro z
  unfold allEnts at z
  rw [List.map_map] at z
  have z' : ("groups" : Str) ∈ (rowsTo 5).map Prod.fst := z
  rw [List.contains_iff_mem.mpr z'] at h
  cases h
theorem allLen : allEnts.length ≤ 200 := by
  unfold allEnts
  rw [List.length_map]
  decide +kernel
theorem letAt : ∀ (i : Nat) (c : Nat), ("BUXOC" : Str).cps[i]? = some c → i < 5 ∧ (⟨#[c]⟩ : Str) = lets.getD i "" := by
  intro i c h
  have e : ("BUXOC" : Str).cps = #[66, 85, 88, 79, 67] := by decide +kernel
  rw [e] at h
  rcases i with _ | _ | _ | _ | _ | i
  · cases h; exact ⟨by decide, by decide +kernel⟩
  · cases h; exact ⟨by decide, by decide +kernel⟩
  · cases h; exact ⟨by decide, by decide +kernel⟩
  · cases h; exact ⟨by decide, by decide +kernel⟩
  · cases h; exact ⟨by decide, by decide +kernel⟩
  · simp at h
end K5

namespace K5
open PySem PySem.Spec PyProof.Rows L2
theorem ok_tbl {P : Program} {w : World} {K : PySem.W.Frag} {mg : Str → Option Value} {base : Heap} {f fS fE fT fR fG : Addr} {fd dS dE dT dR dG : FuncData} (F : Fun K "_law_table" "_law_table" sTbl f fd) (Y : TDefs P w K mg base fS fE fT fR fG dS dE dT dR dG) :
    FnOk P w K mg base CX0 2 f fd [] spTbl := by
  refine F.ok scTbl (fun vs H Q E h => ?_) (fun cdv A outer s H vs Q E hr h => ?_)
  · rw [h.1]; rfl
  obtain ⟨rfl, q⟩ := h
  refine ⟨_, pss_cons (ps_set (i := 0) scTbl.nd rfl (.inl rfl) pe_dnewK)
    (pss_cons (ps_for PassesOwn.never rfl (pi_tup (pe_tup (pa_cons (pe_call0 Y.S hr (by rfl) Y.mS Y.kS Y.bS .nil pass0) (pa_cons (pe_call0 Y.E hr (by rfl) Y.mE Y.kE Y.bE .nil pass0) (pa_cons (pe_call0 Y.T hr (by rfl) Y.mT Y.kT Y.bT .nil pass0) (pa_cons (pe_call0 Y.R hr (by rfl) Y.mR Y.kR Y.bR .nil pass0) pa_nil)))))) (pg_name (i := 1) scTbl.nd rfl (.inl rfl)) (pss_one (ps_lock (ps_for PassesOwn.never rfl (pi_keys (pv 1)) (pg_name (i := 2) scTbl.nd rfl (.inl rfl)) (pss_one (ps_dput (hu_of hr) (pv 0) (pv 2) (pe_ifExp (pt_cmpR op_ne (pe_dget (hu_of hr) (pv 1) (pv 2) (fun _ _ => rfl)) pe_str (nomark _)) (pe_lc (own := [("_law_part", 3)]) (g := gName 3) (tt := tYes) rfl scTbl.nd (pi_list (pe_split (pe_dget (hu_of hr) (pv 1) (pv 2) (fun _ _ => rfl)) pe_str))
      (blkOk_by (own := [("_law_part", 3)]) (N := nTbl) (sc := defScope sTbl) (by decide +kernel)) (fun _ _ _ _ _ => pg_name (i := 3) scTbl.nd rfl (.inl rfl)) (fun _ _ _ _ _ => pts_nil) (fun _ _ _ _ _ => pe_split (pv 3) pe_str)) (pe_lst pa_nil)) (by rfl)))))))
    (pss_cons (ps_for PassesOwn.never rfl (pi_str pe_str) (pg_name (i := 4) scTbl.nd rfl (.inl rfl)) (pss_one (ps_for PassesOwn.never rfl (pi_list (pe_call Y.G hr rfl Y.mG Y.kG Y.bG .nil pass0 (pa_cons (pv 4) pa_nil))) (pg_name (i := 2) scTbl.nd rfl (.inl rfl)) (pss_one (ps_dput (hu_of hr) (pv 0) (pv 2) (pe_lst pa_nil) (by rfl))))))
    (pss_cons (ps_dput (hu_of hr) (pv 0) pe_str (pe_disp (pps_cons pe_str (pe_call0 Y.E hr (by rfl) Y.mE Y.kE Y.bE .nil pass0) (pps_cons pe_str (pe_call0 Y.S hr (by rfl) Y.mS Y.kS Y.bS .nil pass0) (pps_cons pe_str (pe_call0 Y.T hr (by rfl) Y.mT Y.kT Y.bT .nil pass0) pps_nil))) (by rfl) (by rfl) (fun z => by cases z) (by decide)) (by rfl))
    (pss_one (ps_ret (pv 0)))))), ?_⟩
  refine fun t nt => ?_
  have T0 : Tbl H (upd H t (.dK [])) t [] [] := ⟨nt, fun b o e => by rw [upd_ne (ne_of_none e nt)]; exact e, rfl, upd_same, fun i v e g => (by simp at g), fun v hv => (by cases hv)⟩
  generalize upd H t (.dK []) = H1 at T0
  refine ⟨rfl, fun H2 d1 t1 => ⟨rfl, fun H3 d2 t2 => ⟨rfl, fun H4 d3 t3 => ⟨rfl, fun H5 d4 t4 => ⟨by show 4 ≤ sizeLine; decide, fun tu ntu => ⟨tu, rfl, ⟨_, SqT.of upd_same⟩, ?_⟩⟩⟩⟩⟩⟩
  have sU : Same H5 (upd H5 tu (.tup [.ref d1, .ref d2, .ref d3, .ref d4])) := fun b o e => by rw [upd_ne (ne_of_none e ntu)]; exact e
  have hU : (upd H5 tu (.tup [.ref d1, .ref d2, .ref d3, .ref d4])) tu = some (.tup [.ref d1, .ref d2, .ref d3, .ref d4]) := upd_same
  generalize upd H5 tu (.tup [.ref d1, .ref d2, .ref d3, .ref d4]) = Hc at sU hU
  have u1 := sU _ _ (t4.2.1 _ _ (t3.2.1 _ _ (t2.2.1 _ _ t1.2.2)))
  have u2 := sU _ _ (t4.2.1 _ _ (t3.2.1 _ _ t2.2.2))
  have u3 := sU _ _ (t4.2.1 _ _ t3.2.2)
  have u4 := sU _ _ t4.2.2
  have Tc := (((((T0.keep t1.2.1).keep t2.2.1).keep t3.2.1).keep t4.2.1)).keep sU
  have nt1 : d1 ≠ t := fun z => by have := t1.1; rw [z, T0.at_] at this; cases this
  have nt2 : d2 ≠ t := fun z => by have := t2.1; rw [z, (T0.keep t1.2.1).at_] at this; cases this
  have nt3 : d3 ≠ t := fun z => by have := t3.1; rw [z, ((T0.keep t1.2.1).keep t2.2.1).at_] at this; cases this
  have nt4 : d4 ≠ t := fun z => by have := t4.1; rw [z, (((T0.keep t1.2.1).keep t2.2.1).keep t3.2.1).at_] at this; cases this
  have fr : ∀ {H' : Hp} {a : Addr}, Same H H' → H' a = none → H a = none := fun {H' a} s n => by
    cases e : H a with
    | none => rfl
    | some o => rw [s _ _ e] at n; cases n
  have nh1 : H d1 = none := fr T0.sm t1.1
  have nh2 : H d2 = none := fr (T0.keep t1.2.1).sm t2.1
  have nh3 : H d3 = none := fr ((T0.keep t1.2.1).keep t2.2.1).sm t3.1
  have nh4 : H d4 = none := fr (((T0.keep t1.2.1).keep t2.2.1).keep t3.2.1).sm t4.1
  let rowsOf : Nat → List (Str × Str) := fun i => match i with
    | 0 => [] | 1 => StmRows | 2 => StmRows ++ ExpRows | 3 => StmRows ++ ExpRows ++ PatRows | _ => StmRows ++ ExpRows ++ PatRows ++ PrtRows
  refine for_tup (a := tu) (xs := [.ref d1, .ref d2, .ref d3, .ref d4]) (fun i σ H6 => ∃ x1 x2 x3 x4 vs, σ = [some (.ref t), x1, x2, x3, x4] ∧ Tbl H H6 t ((rowsOf i).map ent) vs ∧ (∀ b o, b ≠ t → Hc b = some o → H6 b = some o)) ⟨none, none, none, none, [], rfl, Tc, fun b o _ e => e⟩ (fun i σ H6 _ ⟨_, _, _, _, _, _, _, k⟩ => SqT.of (k _ _ (fun z => by rw [z, Tc.at_] at hU; cases hU) hU)) ?_ ?_
  · rintro i x σ H6 hx ⟨x1, x2, x3, x4, vs, rfl, T6, k6⟩
    obtain ⟨d, R, rfl, hd, hR, hfine, hnd, hlen, hdt, hd0⟩ : ∃ (d : Addr) (R : List (Str × Str)), x = .ref d ∧ Hc d = some (.dK (kvOf R)) ∧ rowsOf (i + 1) = rowsOf i ++ R ∧ fine R = true ∧ ((rowsOf i ++ R).map Prod.fst).Nodup ∧ (rowsOf i ++ R).length ≤ 200 ∧ d ≠ t ∧ H d = none := by
      rcases i with _ | _ | _ | _ | i
      · cases hx; exact ⟨d1, StmRows, rfl, u1, rfl, fineS, by decide +kernel, by decide +kernel, nt1, nh1⟩
      · cases hx; exact ⟨d2, ExpRows, rfl, u2, rfl, fineE, by decide +kernel, by decide +kernel, nt2, nh2⟩
      · cases hx; exact ⟨d3, PatRows, rfl, u3, rfl, fineP, by decide +kernel, by decide +kernel, nt3, nh3⟩
      · cases hx; exact ⟨d4, PrtRows, rfl, u4, rfl, fineR, by decide +kernel, by decide +kernel, nt4, nh4⟩
      · simp at hx
    have hRn : (R.map Prod.fst).Nodup := by
      rw [List.map_append, List.nodup_append] at hnd
      exact hnd.2.1
    refine ⟨d, .dK (kvOf R), k6 _ _ hdt hd, trivial, fun od => ?_⟩
    refine ⟨_, rfl, d, od, rfl, .inl ⟨kvOf R, upd_same, ?_⟩⟩
    refine for_it walk_keys (fun j σ H7 => ∃ x2 x3 x4 vs, σ = [some (.ref t), some (.ref d), x2, x3, x4] ∧ H7 d = some (.frz od (.dK (kvOf R))) ∧ Tbl H H7 t ((rowsOf i ++ R.take j).map ent) vs ∧ (∀ b o, b ≠ t → b ≠ d → Hc b = some o → H7 b = some o)) ?_ (fun j σ H7 _ ⟨_, _, _, _, _, h, _⟩ => h) ?_ ?_
    · refine ⟨x2, x3, x4, vs, rfl, upd_same, ?_, fun b o n1 n2 e => by rw [upd_ne n2]; exact k6 b o n1 e⟩
      rw [List.take_zero, List.append_nil]
      exact T6.off (k6 _ _ hdt hd) (fun xs z => by cases z) hdt hd0
    · rintro j x σ H0' H7 hj ⟨x2, x3, x4, vs, rfl, hdz, T7, k7⟩ ⟨rfl, k, v, hkv, rfl⟩
      obtain ⟨r, hr, rfl, rfl⟩ : ∃ r : Str × Str, R[j]? = some r ∧ k = Sum.inr r.1 ∧ v = .str r.2 := by
        unfold kvOf at hkv
        rw [List.getElem?_map] at hkv
        cases hr : R[j]? with
        | none => rw [hr] at hkv; cases hkv
        | some r => rw [hr] at hkv; cases hkv; exact ⟨r, rfl, rfl, rfl⟩
      have hmem := List.mem_of_getElem? hr
      obtain ⟨sh1, sh2, sh3⟩ := fine_at hfine hmem
      have g : DGet H7 d (.str r.1) (some (.str r.2)) := .inl ⟨kvOf R, Sum.inr r.1, .inr ⟨od, hdz⟩, rfl, by rw [valV_kvOf, lookup_at hRn (show R[j]? = some (r.1, r.2) from hr)]; rfl⟩
      have hsz : (mkT ((rowsOf i ++ R.take j).map ent) vs).length < sizeLine := by
        rw [mkT_len T7.len, List.length_map, List.length_append, List.length_take]
        rw [List.length_append] at hlen
        have s : (202 : Nat) ≤ sizeLine := by decide
        omega
      have fin : ∀ (H8 : Hp) (D : Addr), H D = none → Same H7 H8 → PartsAt H8 D (partsOf r.2) → ∃ x2' x3' x4' vs', [some (V.ref t), some (V.ref d), some (V.str r.1), x3, x4] = [some (V.ref t), some (V.ref d), x2', x3', x4'] ∧ (upd H8 t (.dK (putK (mkT ((rowsOf i ++ R.take j).map ent) vs) (Sum.inr r.1) (.ref D)))) d = some (.frz od (.dK (kvOf R))) ∧
          Tbl H (upd H8 t (.dK (putK (mkT ((rowsOf i ++ R.take j).map ent) vs) (Sum.inr r.1) (.ref D)))) t ((rowsOf i ++ R.take (j + 1)).map ent) vs' ∧ (∀ b o, b ≠ t → b ≠ d → Hc b = some o → (upd H8 t (.dK (putK (mkT ((rowsOf i ++ R.take j).map ent) vs) (Sum.inr r.1) (.ref D)))) b = some o) := fun H8 D nwD s8 pD => by
        refine ⟨_, _, _, vs ++ [D], rfl, by rw [upd_ne hdt]; exact s8 _ _ hdz, ?_, fun b o n1 n2 e => by rw [upd_ne n1]; exact s8 _ _ (k7 b o n1 n2 e)⟩
        rw [take_next hr]
        exact (T7.keep s8).put pD (fresh_key hnd hr) nwD
      refine ⟨_, rfl, _, rfl, d, _, rfl, g, rfl, _, rfl, ?_⟩
      refine ite2 (fun c1 => ?_) (fun c1 => ?_)
      · have hne : r.2 ≠ "" := fun z => by rw [z] at c1; simp at c1
        have hpo : partsOf r.2 = (Txt.split r.2 ", ").map fun p => Txt.split p " " := by
          unfold partsOf
          rw [if_neg hne]
        refine ⟨_, rfl, _, rfl, d, _, rfl, g, ⟨_, rfl⟩, r.2, _, rfl, rfl, by decide +kernel, sh1, fun l nl => ⟨l, rfl, ⟨_, SqL.of upd_same⟩, fun D nD => ?_⟩⟩
        have sl := same_new (o := .lst ((Txt.split r.2 ", ").map V.str)) nl
        have hl : (upd H7 l (.lst ((Txt.split r.2 ", ").map V.str))) l = some (.lst ((Txt.split r.2 ", ").map V.str)) := upd_same
        generalize upd H7 l (.lst ((Txt.split r.2 ", ").map V.str)) = Hl at sl hl nD
        refine lc_list (K := K) (a := l) (xs := (Txt.split r.2 ", ").map V.str) (fun m H8 => ∃ as : List Addr, Same Hl H8 ∧ H8 D = some (.lst (as.map V.ref)) ∧ as.length = m ∧ ∀ (n : Nat) b p, as[n]? = some b → (partsOf r.2)[n]? = some p → H8 b = some (.lst (p.map V.str))) ⟨[], same_new nD, upd_same, rfl, fun n b p e => by simp at e⟩ (fun m H8 _ ⟨_, s8, _⟩ => SqL.of (s8 _ _ hl)) ?_ ?_
        · rintro m x H8 hx ⟨as, s8, hD, hlen8, hp8⟩
          rw [List.getElem?_map] at hx
          cases hp : (Txt.split r.2 ", ")[m]? with
          | none => rw [hp] at hx; cases hx
          | some p =>
            rw [hp] at hx
            cases hx
            have hpm := List.mem_of_getElem? hp
            refine ⟨rfl, ?_⟩
            unfold tYes
            refine iteT ?_
            refine ⟨_, rfl, ⟨_, rfl⟩, p, _, rfl, rfl, by decide +kernel, sh3 p hpm, fun b nb => ?_⟩
            have Db : D ≠ b := ne_of_none hD nb
            refine ⟨as.map V.ref, by rw [upd_ne Db]; exact hD, ?_, as ++ [b], fun b' o e => ?_, by rw [upd_same, List.map_append]; rfl, by rw [List.length_append, hlen8]; rfl, fun n b' p' g1 g2 => ?_⟩
            · have s : (30 : Nat) ≤ sizeLine := by decide
              have hm : m < (Txt.split r.2 ", ").length := by
                rcases Nat.lt_or_ge m (Txt.split r.2 ", ").length with q | q
                · exact q
                · rw [List.getElem?_eq_none q] at hp; cases hp
              rw [List.length_map, hlen8]
              omega
            · rw [upd_ne (ne_of_none e nD), upd_ne (ne_of_none (s8 _ _ e) nb)]
              exact s8 _ _ e
            · by_cases hn : n < as.length
              · rw [List.getElem?_append_left hn] at g1
                have z := hp8 n b' p' g1 g2
                have n1 : b' ≠ D := fun q => by
                  rw [q, hD] at z
                  injection z with z
                  injection z with z
                  cases as with
                  | nil => simp at hn
                  | cons a0 ar =>
                    cases p' with
                    | nil => cases z
                    | cons p0 pr => cases z
                rw [upd_ne n1, upd_ne (ne_of_none z nb)]
                exact z
              · have li : n < (as ++ [b]).length := by
                  rcases Nat.lt_or_ge n (as ++ [b]).length with q | q
                  · exact q
                  · rw [List.getElem?_eq_none q] at g1; cases g1
                rw [List.length_append, List.length_singleton] at li
                have e1 : n = as.length := by omega
                subst e1
                rw [List.getElem?_append_right (Nat.le_refl _), Nat.sub_self] at g1
                cases g1
                rw [hpo, hlen8, List.getElem?_map, hp] at g2
                cases g2
                rw [upd_ne Db.symm, upd_same]
        · rintro H8 ⟨as, s8, hD, hlen8, hp8⟩
          have T8 := T7.keep (sl.trans s8)
          refine ⟨_, rfl, _, rfl, t, _, rfl, DPut.k (k := Sum.inr r.1) T8.at_ hsz, fin H8 D ((T7.sm.trans sl).free nD) (sl.trans s8) ⟨as, hD, ?_, hp8⟩⟩
          rw [hlen8, hpo, List.length_map, List.length_map]
      · have he : r.2 = "" := by simpa using c1
        refine ⟨Nat.zero_le _, fun l nl => ?_⟩
        have sl := same_new (o := .lst []) nl
        have T8 := T7.keep sl
        refine ⟨_, rfl, _, rfl, t, _, rfl, DPut.k (k := Sum.inr r.1) T8.at_ hsz, fin _ l (T7.sm.free nl) sl ⟨[], upd_same, ?_, fun i b p e => by simp at e⟩⟩
        unfold partsOf
        rw [if_pos he]
        rfl
    · rintro σ H7 ⟨x2, x3, x4, vs, rfl, hdz, T7, k7⟩
      have hkl : (kvOf R).length = R.length := by unfold kvOf; rw [List.length_map]
      rw [hkl, List.take_length] at T7
      refine ⟨hdz, _, _, _, _, vs, rfl, ?_, fun b o n1 e => ?_⟩
      · rw [hR]
        exact T7.off hdz (fun xs z => by cases z) hdt hd0
      · by_cases hb : b = d
        · rw [hb, upd_same]
          rw [hb, hd] at e
          exact e
        · rw [upd_ne hb]; exact k7 b o n1 hb e
  · rintro σ H6 ⟨x1, x2, x3, x4, vs, rfl, T6, k6⟩
    clear u1 u2 u3 u4 hU sU Tc T0 t1 t2 t3 t4 k6
    refine ⟨_, rfl, for_it (walk_str (z := "BUXOC")) (fun i σ H7 => ∃ x1 x2 x3 x4 vs, σ = [some (.ref t), x1, x2, x3, x4] ∧ Tbl H H7 t ((rowsTo i).map ent) vs) ?_ (fun _ _ _ _ _ => trivial) ?_ ?_⟩
    · refine ⟨x1, x2, x3, x4, vs, rfl, ?_⟩
      have e : rowsTo 0 = rowsOf 4 := by show allRows ++ [] = _; rw [List.append_nil]; rfl
      rw [e]
      exact T6
    · rintro i x σ H0' H7 hi ⟨x1, x2, x3, x4, vs, rfl, T7⟩ ⟨rfl, c, hc, rfl⟩
      obtain ⟨hi5, hw⟩ := letAt i c hc
      obtain ⟨kn, kl, kr⟩ := keysN i hi5
      refine ⟨_, rfl, ⟨#[c]⟩, rfl, fun H8 p np s8 hp => ?_⟩
      rw [hw] at hp
      refine ⟨p, rfl, ⟨_, SqL.of hp⟩, ?_⟩
      refine for_list (K := K) (a := p) (xs := (signs (lets.getD i "")).map V.str) (fun j σ H9 => ∃ x1 x2 x3 x4 vs, σ = [some (.ref t), x1, x2, x3, x4] ∧ H9 p = some (.lst ((signs (lets.getD i "")).map V.str)) ∧ Tbl H H9 t ((rowsTo i ++ (signRows (lets.getD i "")).take j).map ent) vs) ?_ (fun j σ H9 _ ⟨_, _, _, _, _, _, h, _⟩ => SqL.of h) ?_ ?_
      · refine ⟨x1, x2, x3, _, vs, rfl, hp, ?_⟩
        rw [List.take_zero, List.append_nil]
        exact T7.keep s8
      · rintro j x σ H9 hx ⟨x1, x2, x3, x4, vs, rfl, hp9, T9⟩
        rw [List.getElem?_map] at hx
        cases hk : (signs (lets.getD i ""))[j]? with
        | none => rw [hk] at hx; cases hx
        | some k =>
          rw [hk] at hx
          cases hx
          have hr : (signRows (lets.getD i ""))[j]? = some (k, ("" : Str)) := by
            unfold signRows
            rw [List.getElem?_map, hk]; rfl
          have hsz : (mkT ((rowsTo i ++ (signRows (lets.getD i "")).take j).map ent) vs).length < sizeLine := by
            rw [mkT_len T9.len, List.length_map, List.length_append, List.length_take]
            rw [List.length_append] at kl
            have s : (202 : Nat) ≤ sizeLine := by decide
            omega
          refine ⟨Nat.zero_le _, fun l nl => ?_⟩
          have sl := same_new (o := .lst []) nl
          have T10 := T9.keep sl
          have pE : PartsAt (upd H9 l (.lst [])) l (partsOf "") := ⟨[], upd_same, by unfold partsOf; rw [if_pos rfl]; rfl, fun i b p e => by simp at e⟩
          refine ⟨_, rfl, _, rfl, t, _, rfl, DPut.k (k := Sum.inr k) T10.at_ hsz, _, _, _, _, vs ++ [l], rfl, ?_, ?_⟩
          · have n : p ≠ t := fun z => by rw [z, T9.at_] at hp9; cases hp9
            rw [upd_ne n]; exact sl _ _ hp9
          · rw [take_next hr]
            exact T10.put pE (fresh_key kn hr) (T9.sm.free nl)
      · rintro σ H9 ⟨x1, x2, x3, x4, vs, rfl, hp9, T9⟩
        refine ⟨x1, x2, x3, x4, vs, rfl, ?_⟩
        rw [kr]
        have hlen : ((signs (lets.getD i "")).map V.str).length = (signRows (lets.getD i "")).length := by unfold signRows; rw [List.length_map, List.length_map]
        rw [hlen, List.take_length] at T9
        exact T9
    · rintro σ H7 ⟨x1, x2, x3, x4, vs, rfl, T7⟩
      have e5 : ("BUXOC" : Str).cps.size = 5 := by decide +kernel
      rw [e5] at T7
      have T7 : Tbl H H7 t allEnts vs := T7
      refine fun g ng => ⟨rfl, fun He e te => ⟨rfl, fun Hs s1 ts => ⟨rfl, fun Hq q1 tq => ?_⟩⟩⟩
      have hg0 : (upd H7 g (.dK [])) g = some (.dK []) := upd_same
      have sg := same_new (o := .dK []) ng
      generalize upd H7 g (.dK []) = Hg at hg0 sg te
      have hgq := tq.2.1 _ _ (ts.2.1 _ _ (te.2.1 _ _ hg0))
      refine ⟨hgq, kv3 e s1 q1, rfl, by show 3 ≤ 15; decide, ?_⟩
      rw [show mergeK [] (kv3 e s1 q1) = kv3 e s1 q1 from rfl]
      have Tq := (((T7.keep sg).keep te.2.1).keep ts.2.1).keep tq.2.1
      have gt : g ≠ t := fun z => by rw [z, T7.at_] at ng; cases ng
      have hg1 : H g = none := by
        cases z : H g with
        | none => rfl
        | some o => rw [T7.sm _ _ z] at ng; cases ng
      have Tz := Tq.off (o := .dK (kv3 e s1 q1)) hgq (fun xs z => by cases z) gt hg1
      have eg : e ≠ g := fun z => by have := te.1; rw [z, hg0] at this; cases this
      have et : e ≠ t := fun z => by have := te.1; rw [z, (T7.keep sg).at_] at this; cases this
      have sg2 : s1 ≠ g := fun z => by have := ts.1; rw [z, te.2.1 _ _ hg0] at this; cases this
      have st2 : s1 ≠ t := fun z => by have := ts.1; rw [z, ((T7.keep sg).keep te.2.1).at_] at this; cases this
      have qg : q1 ≠ g := fun z => by have := tq.1; rw [z, ts.2.1 _ _ (te.2.1 _ _ hg0)] at this; cases this
      have qt : q1 ≠ t := fun z => by have := tq.1; rw [z, (((T7.keep sg).keep te.2.1).keep ts.2.1).at_] at this; cases this
      have hsz : (mkT allEnts vs).length < sizeLine := by
        rw [mkT_len Tz.len]
        have z := allLen
        have s : (202 : Nat) ≤ sizeLine := by decide
        omega
      refine ⟨_, rfl, t, _, rfl, DPut.k (k := Sum.inr "groups") Tz.at_ hsz, ?_⟩
      have hput : putK (mkT allEnts vs) (Sum.inr "groups" : Key) (V.ref g) = mkT allEnts vs ++ [((Sum.inr "groups" : Key), V.ref g)] := putK_new (by
        rw [mkT_keys Tz.len]
        intro z
        obtain ⟨x, hx, z⟩ := List.mem_map.mp z
        have z := Sum.inr.inj z
        exact noGroups (z ▸ hx))
      refine ⟨_, rfl, q _ t vs g e s1 q1 T7.n0 (fun b o eb => ?_) ⟨Tz.len, by rw [upd_same]; exact congrArg (fun z => some (HO.dK z)) hput, fun i v p g1 g2 => (Tz.pts i v p g1 g2).off Tz.at_ (fun xs z => by cases z), ?_, ?_, ?_, ?_⟩ T7.nw⟩
      · rw [upd_ne (ne_of_none eb T7.n0)]; exact Tz.sm _ _ eb
      · rw [upd_ne gt, upd_same]
      · rw [upd_ne et, upd_ne eg]; exact tq.2.1 _ _ (ts.2.1 _ _ te.2.2)
      · rw [upd_ne st2, upd_ne sg2]; exact tq.2.1 _ _ ts.2.2
      · rw [upd_ne qt, upd_ne qg]; exact tq.2.2
end K5

namespace K5
open PySem PySem.Spec PyProof.Rows L2
/-! ### a name that is drawn -/
def words : List Str := ["a", "_", "if", "None", "aB_9", "match", "q", "x0", "Z", "__"]
abbrev sWord : Stmt := topS 41
theorem scWord : FnScope ["_law_stream"] ["_law_stream"] (defScope sWord) := ⟨rfl, rfl, rfl, by decide +kernel, rfl, by decide +kernel, by decide +kernel⟩
def spWord : Sp := fun vs H Q _ => ∃ (a c : Addr) (S : Stm), vs = [.ref a] ∧ StmAt H a c S ∧ S.cnt < 1000000 ∧ ∀ (H' : Hp) (S' : Stm) (w : Str), StmAt H' a c S' → S'.cnt ≤ S.cnt + 1 → Kept a c H H' → w ∈ words → Q (.str w) H'
theorem ok_word {P : Program} {w : World} {K : PySem.W.Frag} {mg : Str → Option Value} {base : Heap} {f fP : Addr} {fd fdP : FuncData} (F : Fun K "_law_word" "_law_word" sWord f fd)
    (G : FnOk P w K mg base CX0 2 fP fdP ["_law_stream", "_law_some"] (spPick K)) (bP : Binds K fdP ["_law_stream", "_law_some"] []) (kP : PySem.W.keepIn K (.ref fP) = true) (mP : mg "_law_pick" = some (.ref fP)) : FnOk P w K mg base CX0 3 f fd ["_law_stream"] spWord := by
  refine F.ok scWord (fun vs H Q E h => ?_) (fun cdv A outer s H vs Q E hr h => ?_)
  · obtain ⟨a, c, S, rfl, _⟩ := h
    rfl
  obtain ⟨a, c, S, rfl, hS, hcnt, q⟩ := h
  refine ⟨_, pss_one (ps_ret (pe_call G hr rfl mP kP bP .nil pass0 (pa_cons (pv 0) (pa_cons (pe_lst (pa_cons pe_str (pa_cons pe_str (pa_cons pe_str (pa_cons pe_str (pa_cons pe_str (pa_cons pe_str (pa_cons pe_str (pa_cons pe_str (pa_cons pe_str (pa_cons pe_str pa_nil))))))))))) pa_nil)))), ?_⟩
  refine ⟨_, rfl, by show 10 ≤ sizeLine; decide, fun l nl => ?_⟩
  have s1 := same_new (o := .lst (words.map V.str)) nl
  have la : l ≠ a := fun z => hS.a0 (z ▸ nl)
  have lc : l ≠ c := fun z => hS.c0 (z ▸ nl)
  refine ⟨a, c, l, S, words.map V.str, rfl, hS.keep s1, hcnt, upd_same, la, lc, by show 0 < 10; decide, by show 10 < 1000000; decide, fun H3 S3 x h3 hc3 k3 hx => ?_⟩
  obtain ⟨wd, hw, rfl⟩ := List.mem_map.mp hx
  exact q H3 S3 wd h3 hc3 ((Kept.same s1).trans k3) hw
end K5

namespace K5
open PySem PySem.Spec PyProof.Rows L2
/-! ### o[name] and o[name] = v by the class's own defs -/
structure NodeC (K : PySem.W.Frag) (C fG fS : Addr) : Prop where
  cl : Cls K C
  sq : PySem.W.noSeq K C = true
  gt : PySem.W.findIn K (.ref C) "__getitem__" = some (some (.ref fG))
  gfn : PySem.W.fnIn K fG = true
  gf : PySem.W.isFn K (.ref fG) = true
  st : PySem.W.findIn K (.ref C) "__setitem__" = some (some (.ref fS))
  sf : PySem.W.isFn K (.ref fS) = true
def spGet (C : Addr) : Sp := fun vs H Q _ => ∃ (p dx d : Addr) (nm : Str) (fs : List (Str × V)) (kvs : List (Key × V)) (v : V), vs = [.ref p, .str nm] ∧ H p = some (.ins C dx fs) ∧ fs.lookup ("_fields" : Str) = some (V.ref d) ∧ H d = some (.dK kvs) ∧ valV kvs (.inr nm) = some v ∧ Q v H
def spSet (C : Addr) : Sp := fun vs H Q _ => ∃ (p dx d : Addr) (nm : Str) (fs : List (Str × V)) (kvs : List (Key × V)) (v w : V), vs = [.ref p, .str nm, w] ∧ H p = some (.ins C dx fs) ∧ fs.lookup ("_fields" : Str) = some (V.ref d) ∧ H d = some (.dK kvs) ∧ valV kvs (.inr nm) = some v ∧ kvs.length < sizeLine ∧ Q .non (upd H d (.dK (putK kvs (.inr nm) w)))
/-- a def called within an around of the same frames -/
theorem callAt {X : Cx} {A : Around} {m : Nat} {f : Addr} {fd : FuncData} {ps : List Str} {sp : Sp} {E : XK} {pins : List (Addr × Obj)} {σ : L2.St} {H : Hp} {s : Shared} {us : List Value} {vs : List V} {Q : VK}
    (F : FnOk X.prog X.w X.K X.mg X.base CX0 m f fd ps sp) (hb : Binds X.K fd ps []) (sb : Sub X m A) (I : Inv X pins σ H s) (r : Vals vs us) (h : sp vs H Q E) : wpAny (model X.prog X.w) A (call (.ref f) us) (EP X pins σ Q) X.xe s := by
  have e0 : Env0 X.prog X.w X.K X.mg X.base A X.stack s H := by
    have z := I.env0
    exact { frames := by rw [sb.fr]; exact z.frames, mod := z.mod, bs := z.bs, bsz := z.bsz, funs := z.funs, frf := z.frf, hok := z.hok, bare := z.bare }
  have hl : us.length = ps.length := by rw [← r.length]; exact F.len _ _ _ _ h
  have hb2 := hb s us I.kIn (by rw [List.append_nil]; exact hl)
  rw [List.append_nil] at hb2
  refine wpAny_call (codeAny_mono (F.run A X.stack s H _ _ _ _ E sb.room e0 hb2 r h) fun r s' hq => ?_)
  cases r with
  | error er => exact hq.elim
  | ok fl =>
    cases fl with
    | next => exact False.elim hq
    | brk => exact False.elim hq
    | cont => exact False.elim hq
    | ret w' => exact I.after hq
theorem sub_own {prog : Program} {w : World} {A : Around} {E : Value → Shared → Prop} {s : Shared} {K : PySem.W.Frag} {x C f : Addr} {ox : Obj} {od : Option Obj} {value slice : Expr} {i : Value} {Q : Value → Shared → Prop}
    (kin : K.In s.heap) (J : PySem.W.InstAt s.heap x ox C od) (g1 : PySem.W.findIn K (.ref C) "__getitem__" = some (some (.ref f))) (g2 : PySem.W.fnIn K f = true) (g3 : PySem.W.isFn K (.ref f) = true)
    (go : wpAny (model prog w) A.in1 (call (.ref f) [.ref x, i]) Q E s) (sl : subscripted slice true (.ref x) i = runValue (.builtin "lifetime.subscript" ⟨[.ref x, i], []⟩)) : wpAny (model prog w) A (subscriptTail value slice (.ref x) i) Q E s := by
  obtain ⟨o, fd, ho, hd⟩ : ∃ (o : Obj) (fd : FuncData), K.lookup f = some o ∧ o.data = .func fd := by
    unfold PySem.W.fnIn at g2
    split at g2
    · rename_i e
      exact ⟨_, _, e, rfl⟩
    · cases g2
  unfold subscriptTail getitemInPython
  refine wpAny_bind (wpAny_bind (wpAny_bind (J.type.here ((PySem.W.looks_findIn kin g1).here ?_))))
  refine wpAny_bind (wpAny_load (kin _ _ ho) (wpAny_pure ?_))
  rw [hd]
  show wpAny (model prog w) A (subscripted slice true (.ref x) i >>= fun v => letTemporaryGo value (.ref x) v >>= fun _ => pure v) Q E s
  rw [sl]
  refine wpAny_bind (wpAny_runValue (codeAny_builtin PySem.W.entry_sub ?_))
  unfold Builtin.«lifetime.subscript»
  exact wpAny_bind (PySem.W.special_fn kin J g1 (beq_iff_eq.mp g3) (wpAny_mono go (fun v s' z => wpAny_pure (wpAny_bind (wpAny_letTemporaryGo (wpAny_pure z)))) fun _ _ z => z))
def tIxN (C : Addr) (ta tb : TE) : TE := fun σ H Q => ta σ H fun x H1 => tb σ H1 fun y H2 => ∃ (p dx d : Addr) (nm : Str) (fs : List (Str × V)) (kvs : List (Key × V)) (v : V), x = .ref p ∧ y = .str nm ∧ H2 p = some (.ins C dx fs) ∧ fs.lookup ("_fields" : Str) = some (V.ref d) ∧ H2 d = some (.dK kvs) ∧ valV kvs (.inr nm) = some v ∧ Q v H2
section
variable {X : Cx} {C fG fS : Addr} {gd sd : FuncData} {m : Nat} {a b : Expr} {ta tb : TE} {pos : Pos}
theorem pe_ixN (N : NodeC X.K C fG fS) (F : FnOk X.prog X.w X.K X.mg X.base CX0 m fG gd ["self", "at"] (spGet C)) (hb : Binds X.K gd ["self", "at"] []) (hr : Room (m + 1) X.A) (h1 : PE X a ta) (h2 : PE X b tb)
    (hs : ∀ o i, subscripted b true o i = runValue (.builtin "lifetime.subscript" ⟨[o, i], []⟩) := by intro _ _; rfl) : PE X (.Subscript a b pos) (tIxN C ta tb) := by
  refine ⟨fun pins s σ H Q I h => ?_⟩
  refine Subscript_ (binT h1 h2 I h fun v u s2 x y H2 I2 rx ry q => ?_)
  obtain ⟨p, dx, d, nm, fs, kvs, z, rfl, rfl, hp, hf, hd, hv, q⟩ := q
  obtain rfl : v = Value.ref p := rx
  obtain ⟨mA, O, _⟩ := ins_get I2.hok hp
  obtain ⟨od, J, _⟩ := O.look
  have sb : Sub X (m + 1) X.A := ⟨hr, rfl⟩
  exact sub_own I2.kIn J N.gt N.gfn N.gf (callAt (E := fun _ _ _ => False) F hb sb.in1 I2 (Paired.cons (show RelV (V.ref p) (Value.ref p) from rfl) (.cons ry .nil)) ⟨p, dx, d, nm, fs, kvs, z, rfl, hp, hf, hd, hv, q⟩) (hs _ _)
def rSetN (C : Addr) : V → V → V → Hp → (Hp → Prop) → Prop := fun o i w H Q => ∃ (p dx d : Addr) (nm : Str) (fs : List (Str × V)) (kvs : List (Key × V)) (v : V), o = .ref p ∧ i = .str nm ∧ H p = some (.ins C dx fs) ∧ fs.lookup ("_fields" : Str) = some (V.ref d) ∧ H d = some (.dK kvs) ∧ valV kvs (.inr nm) = some v ∧ kvs.length < sizeLine ∧ Q (upd H d (.dK (putK kvs (.inr nm) w)))
theorem set_node (N : NodeC X.K C fG fS) (F : FnOk X.prog X.w X.K X.mg X.base CX0 m fS sd ["self", "at", "worth"] (spSet C)) (hb : Binds X.K sd ["self", "at", "worth"] []) (hr : Room m X.A) : PSet X (rSetN C) := by
  intro pins s σ H o i w ov iv u Q I ro ri rw' h
  obtain ⟨p, dx, d, nm, fs, kvs, z, rfl, rfl, hp, hf, hd, hv, hz, q⟩ := h
  obtain rfl : ov = Value.ref p := ro
  obtain ⟨mA, O, _⟩ := ins_get I.hok hp
  obtain ⟨od, J, _⟩ := O.look
  have X0 := I.kIn
  unfold setItem sequenceKey
  refine wpAny_holding (wpAny_bind (wpAny_bind (J.type.here ?_)))
  refine wpAny_bind ((PySem.W.anyM_none X0 N.sq).here ?_)
  rw [if_pos (show (!false) = true from rfl)]
  have go := callAt (E := fun _ _ _ => False) (Q := fun _ H' => Q H') F hb ⟨hr, rfl⟩ I (Paired.cons (show RelV (V.ref p) (Value.ref p) from rfl) (.cons ri (.cons rw' .nil))) ⟨p, dx, d, nm, fs, kvs, z, w, rfl, hp, hf, hd, hv, hz, q⟩
  refine wpAny_pure (wpAny_bind (PySem.W.special_fn X0 J N.st (beq_iff_eq.mp N.sf) (wpAny_mono go (fun v s' hq => ?_) fun _ _ z => z)))
  obtain ⟨v', H', I', _, q'⟩ := hq
  exact wpAny_pure ⟨H', I', q'⟩
end
end K5

namespace K5
open PySem PySem.Spec PyProof.Rows L2
/-! ### the program's tables, as they stand in the written part -/
def fr0_0 : Str × List (Str × Str × Str) := ("Module", [("body", "STMT", "*")])
def fr0_1 : Str × List (Str × Str × Str) := ("Expression", [("body", "EXPR", "")])
def fr0_2 : Str × List (Str × Str × Str) := ("FunctionDef", [("name", "NAME", ""), ("args", "arguments", ""), ("body", "STMT", "+"), ("decorator_list", "EXPR", "*"), ("returns", "EXPR", "?")])
def fr0_3 : Str × List (Str × Str × Str) := ("AsyncFunctionDef", [("name", "NAME", ""), ("args", "arguments", ""), ("body", "STMT", "+"), ("decorator_list", "EXPR", "*"), ("returns", "EXPR", "?")])
def fr0_4 : Str × List (Str × Str × Str) := ("ClassDef", [("name", "NAME", ""), ("bases", "EXPR", "*"), ("keywords", "keyword", "*"), ("body", "STMT", "+"), ("decorator_list", "EXPR", "*")])
def fr0_5 : Str × List (Str × Str × Str) := ("Return", [("value", "EXPR", "?")])
def fr0_6 : Str × List (Str × Str × Str) := ("Delete", [("targets", "EXPR", "+")])
def fr0_7 : Str × List (Str × Str × Str) := ("Assign", [("targets", "EXPR", "+"), ("value", "EXPR", "")])
def fr0_8 : Str × List (Str × Str × Str) := ("AugAssign", [("target", "EXPR", ""), ("op", "OPERATOR", ""), ("value", "EXPR", "")])
def fr0_9 : Str × List (Str × Str × Str) := ("AnnAssign", [("target", "EXPR", ""), ("annotation", "EXPR", ""), ("value", "EXPR", "?"), ("simple", "BIT", "")])
def fr0_10 : Str × List (Str × Str × Str) := ("For", [("target", "EXPR", ""), ("iter", "EXPR", ""), ("body", "STMT", "+"), ("orelse", "STMT", "*")])
def fr0_11 : Str × List (Str × Str × Str) := ("AsyncFor", [("target", "EXPR", ""), ("iter", "EXPR", ""), ("body", "STMT", "+"), ("orelse", "STMT", "*")])
def fr0_12 : Str × List (Str × Str × Str) := ("While", [("test", "EXPR", ""), ("body", "STMT", "+"), ("orelse", "STMT", "*")])
def fr0_13 : Str × List (Str × Str × Str) := ("If", [("test", "EXPR", ""), ("body", "STMT", "+"), ("orelse", "STMT", "*")])
def fr0_14 : Str × List (Str × Str × Str) := ("With", [("items", "withitem", "+"), ("body", "STMT", "+")])
def fr0_15 : Str × List (Str × Str × Str) := ("AsyncWith", [("items", "withitem", "+"), ("body", "STMT", "+")])
def fr0_16 : Str × List (Str × Str × Str) := ("Match", [("subject", "EXPR", ""), ("cases", "match_case", "+")])
def fr0_17 : Str × List (Str × Str × Str) := ("Raise", [("exc", "EXPR", "?"), ("cause", "EXPR", "?")])
def fr0_18 : Str × List (Str × Str × Str) := ("Assert", [("test", "EXPR", ""), ("msg", "EXPR", "?")])
def fr0_19 : Str × List (Str × Str × Str) := ("Try", [("body", "STMT", "+"), ("handlers", "ExceptHandler", "*"), ("orelse", "STMT", "*"), ("finalbody", "STMT", "*")])
def fr0_20 : Str × List (Str × Str × Str) := ("Import", [("names", "alias", "+")])
def fr0_21 : Str × List (Str × Str × Str) := ("ImportFrom", [("module", "DOTTED", "?"), ("names", "alias", "+"), ("level", "COUNT", "")])
def fr0_22 : Str × List (Str × Str × Str) := ("Global", [("names", "NAME", "+")])
def fr0_23 : Str × List (Str × Str × Str) := ("Nonlocal", [("names", "NAME", "+")])
def fr0_24 : Str × List (Str × Str × Str) := ("Expr", [("value", "EXPR", "")])
def fr0_25 : Str × List (Str × Str × Str) := ("Pass", [])
def Fld0 : List (Str × List (Str × Str × Str)) := [fr0_0, fr0_1, fr0_2, fr0_3, fr0_4, fr0_5, fr0_6, fr0_7, fr0_8, fr0_9, fr0_10, fr0_11, fr0_12, fr0_13, fr0_14, fr0_15, fr0_16, fr0_17, fr0_18, fr0_19, fr0_20, fr0_21, fr0_22, fr0_23, fr0_24, fr0_25]
def fr1_0 : Str × List (Str × Str × Str) := ("Break", [])
def fr1_1 : Str × List (Str × Str × Str) := ("Continue", [])
def fr1_2 : Str × List (Str × Str × Str) := ("BoolOp", [("op", "BOOLEAN", ""), ("values", "EXPR", "+")])
def fr1_3 : Str × List (Str × Str × Str) := ("NamedExpr", [("target", "EXPR", ""), ("value", "EXPR", "")])
def fr1_4 : Str × List (Str × Str × Str) := ("BinOp", [("left", "EXPR", ""), ("op", "OPERATOR", ""), ("right", "EXPR", "")])
def fr1_5 : Str × List (Str × Str × Str) := ("UnaryOp", [("op", "UNARY", ""), ("operand", "EXPR", "")])
def fr1_6 : Str × List (Str × Str × Str) := ("Lambda", [("args", "arguments", ""), ("body", "EXPR", "")])
def fr1_7 : Str × List (Str × Str × Str) := ("IfExp", [("test", "EXPR", ""), ("body", "EXPR", ""), ("orelse", "EXPR", "")])
def fr1_8 : Str × List (Str × Str × Str) := ("Dict", [("keys", "EXPR", "?*"), ("values", "EXPR", "*")])
def fr1_9 : Str × List (Str × Str × Str) := ("Set", [("elts", "EXPR", "+")])
def fr1_10 : Str × List (Str × Str × Str) := ("ListComp", [("elt", "EXPR", ""), ("generators", "comprehension", "+")])
def fr1_11 : Str × List (Str × Str × Str) := ("SetComp", [("elt", "EXPR", ""), ("generators", "comprehension", "+")])
def fr1_12 : Str × List (Str × Str × Str) := ("GeneratorExp", [("elt", "EXPR", ""), ("generators", "comprehension", "+")])
def fr1_13 : Str × List (Str × Str × Str) := ("DictComp", [("key", "EXPR", ""), ("value", "EXPR", ""), ("generators", "comprehension", "+")])
def fr1_14 : Str × List (Str × Str × Str) := ("Await", [("value", "EXPR", "")])
def fr1_15 : Str × List (Str × Str × Str) := ("Yield", [("value", "EXPR", "?")])
def fr1_16 : Str × List (Str × Str × Str) := ("YieldFrom", [("value", "EXPR", "")])
def fr1_17 : Str × List (Str × Str × Str) := ("Compare", [("left", "EXPR", ""), ("ops", "COMPARISON", "+"), ("comparators", "EXPR", "+")])
def fr1_18 : Str × List (Str × Str × Str) := ("Call", [("func", "EXPR", ""), ("args", "EXPR", "*"), ("keywords", "keyword", "*")])
def fr1_19 : Str × List (Str × Str × Str) := ("FormattedValue", [("value", "EXPR", ""), ("conversion", "CONVERSION", ""), ("format_spec", "JoinedStr", "?")])
def fr1_20 : Str × List (Str × Str × Str) := ("JoinedStr", [("values", "EXPR", "*")])
def fr1_21 : Str × List (Str × Str × Str) := ("Constant", [("value", "VALUE", "")])
def fr1_22 : Str × List (Str × Str × Str) := ("Attribute", [("value", "EXPR", ""), ("attr", "NAME", ""), ("ctx", "CONTEXT", "")])
def fr1_23 : Str × List (Str × Str × Str) := ("Subscript", [("value", "EXPR", ""), ("slice", "EXPR", ""), ("ctx", "CONTEXT", "")])
def fr1_24 : Str × List (Str × Str × Str) := ("Starred", [("value", "EXPR", ""), ("ctx", "CONTEXT", "")])
def fr1_25 : Str × List (Str × Str × Str) := ("Name", [("id", "NAME", ""), ("ctx", "CONTEXT", "")])
def Fld1 : List (Str × List (Str × Str × Str)) := [fr1_0, fr1_1, fr1_2, fr1_3, fr1_4, fr1_5, fr1_6, fr1_7, fr1_8, fr1_9, fr1_10, fr1_11, fr1_12, fr1_13, fr1_14, fr1_15, fr1_16, fr1_17, fr1_18, fr1_19, fr1_20, fr1_21, fr1_22, fr1_23, fr1_24, fr1_25]
def fr2_0 : Str × List (Str × Str × Str) := ("List", [("elts", "EXPR", "*"), ("ctx", "CONTEXT", "")])
def fr2_1 : Str × List (Str × Str × Str) := ("Tuple", [("elts", "EXPR", "*"), ("ctx", "CONTEXT", "")])
def fr2_2 : Str × List (Str × Str × Str) := ("Slice", [("lower", "EXPR", "?"), ("upper", "EXPR", "?"), ("step", "EXPR", "?")])
def fr2_3 : Str × List (Str × Str × Str) := ("comprehension", [("target", "EXPR", ""), ("iter", "EXPR", ""), ("ifs", "EXPR", "*"), ("is_async", "BIT", "")])
def fr2_4 : Str × List (Str × Str × Str) := ("ExceptHandler", [("exc", "EXPR", "?"), ("name", "NAME", "?"), ("body", "STMT", "+")])
def fr2_5 : Str × List (Str × Str × Str) := ("arguments", [("posonlyargs", "arg", "*"), ("args", "arg", "*"), ("vararg", "arg", "?"), ("kwonlyargs", "arg", "*"), ("kw_defaults", "EXPR", "?*"), ("kwarg", "arg", "?"), ("defaults", "EXPR", "*")])
def fr2_6 : Str × List (Str × Str × Str) := ("arg", [("arg", "NAME", ""), ("annotation", "EXPR", "?")])
def fr2_7 : Str × List (Str × Str × Str) := ("keyword", [("arg", "NAME", "?"), ("value", "EXPR", "")])
def fr2_8 : Str × List (Str × Str × Str) := ("alias", [("name", "DOTTED_OR_STAR", ""), ("asname", "NAME", "?")])
def fr2_9 : Str × List (Str × Str × Str) := ("withitem", [("context_expr", "EXPR", ""), ("optional_vars", "EXPR", "?")])
def fr2_10 : Str × List (Str × Str × Str) := ("match_case", [("pattern", "PATTERN", ""), ("guard", "EXPR", "?"), ("body", "STMT", "+")])
def fr2_11 : Str × List (Str × Str × Str) := ("MatchValue", [("value", "EXPR", "")])
def fr2_12 : Str × List (Str × Str × Str) := ("MatchSingleton", [("value", "SINGLETON", "")])
def fr2_13 : Str × List (Str × Str × Str) := ("MatchSequence", [("patterns", "PATTERN", "*")])
def fr2_14 : Str × List (Str × Str × Str) := ("MatchOr", [("patterns", "PATTERN", "+")])
def fr2_15 : Str × List (Str × Str × Str) := ("MatchMapping", [("keys", "EXPR", "*"), ("patterns", "PATTERN", "*"), ("rest", "NAME", "?")])
def fr2_16 : Str × List (Str × Str × Str) := ("MatchClass", [("cls", "EXPR", ""), ("patterns", "PATTERN", "*"), ("kwd_attrs", "NAME", "*"), ("kwd_patterns", "PATTERN", "*")])
def fr2_17 : Str × List (Str × Str × Str) := ("MatchStar", [("name", "NAME", "?")])
def fr2_18 : Str × List (Str × Str × Str) := ("MatchAs", [("pattern", "PATTERN", "?"), ("name", "NAME", "?")])
def fr2_19 : Str × List (Str × Str × Str) := ("And", [])
def fr2_20 : Str × List (Str × Str × Str) := ("Or", [])
def fr2_21 : Str × List (Str × Str × Str) := ("Invert", [])
def fr2_22 : Str × List (Str × Str × Str) := ("Not", [])
def fr2_23 : Str × List (Str × Str × Str) := ("UAdd", [])
def fr2_24 : Str × List (Str × Str × Str) := ("USub", [])
def fr2_25 : Str × List (Str × Str × Str) := ("Load", [])
def Fld2 : List (Str × List (Str × Str × Str)) := [fr2_0, fr2_1, fr2_2, fr2_3, fr2_4, fr2_5, fr2_6, fr2_7, fr2_8, fr2_9, fr2_10, fr2_11, fr2_12, fr2_13, fr2_14, fr2_15, fr2_16, fr2_17, fr2_18, fr2_19, fr2_20, fr2_21, fr2_22, fr2_23, fr2_24, fr2_25]
def fr3_0 : Str × List (Str × Str × Str) := ("Store", [])
def fr3_1 : Str × List (Str × Str × Str) := ("Del", [])
def fr3_2 : Str × List (Str × Str × Str) := ("Add", [])
def fr3_3 : Str × List (Str × Str × Str) := ("Sub", [])
def fr3_4 : Str × List (Str × Str × Str) := ("Mult", [])
def fr3_5 : Str × List (Str × Str × Str) := ("MatMult", [])
def fr3_6 : Str × List (Str × Str × Str) := ("Div", [])
def fr3_7 : Str × List (Str × Str × Str) := ("FloorDiv", [])
def fr3_8 : Str × List (Str × Str × Str) := ("Pow", [])
def fr3_9 : Str × List (Str × Str × Str) := ("LShift", [])
def fr3_10 : Str × List (Str × Str × Str) := ("RShift", [])
def fr3_11 : Str × List (Str × Str × Str) := ("BitOr", [])
def fr3_12 : Str × List (Str × Str × Str) := ("BitXor", [])
def fr3_13 : Str × List (Str × Str × Str) := ("BitAnd", [])
def fr3_14 : Str × List (Str × Str × Str) := ("Eq", [])
def fr3_15 : Str × List (Str × Str × Str) := ("NotEq", [])
def fr3_16 : Str × List (Str × Str × Str) := ("Lt", [])
def fr3_17 : Str × List (Str × Str × Str) := ("LtE", [])
def fr3_18 : Str × List (Str × Str × Str) := ("Gt", [])
def fr3_19 : Str × List (Str × Str × Str) := ("GtE", [])
def fr3_20 : Str × List (Str × Str × Str) := ("Is", [])
def fr3_21 : Str × List (Str × Str × Str) := ("IsNot", [])
def fr3_22 : Str × List (Str × Str × Str) := ("In", [])
def fr3_23 : Str × List (Str × Str × Str) := ("NotIn", [])
def Fld3 : List (Str × List (Str × Str × Str)) := [fr3_0, fr3_1, fr3_2, fr3_3, fr3_4, fr3_5, fr3_6, fr3_7, fr3_8, fr3_9, fr3_10, fr3_11, fr3_12, fr3_13, fr3_14, fr3_15, fr3_16, fr3_17, fr3_18, fr3_19, fr3_20, fr3_21, fr3_22, fr3_23]
def Fld : List (Str × List (Str × Str × Str)) := Fld0 ++ Fld1 ++ Fld2 ++ Fld3
def gr_0 : Str × List Str := ("STMT", ["FunctionDef", "AsyncFunctionDef", "ClassDef", "Return", "Delete", "Assign", "AugAssign", "AnnAssign", "For", "AsyncFor", "While", "If", "With", "AsyncWith", "Match", "Raise", "Assert", "Try", "Import", "ImportFrom", "Global", "Nonlocal", "Expr", "Pass", "Break", "Continue"])
def gr_1 : Str × List Str := ("EXPR", ["BoolOp", "NamedExpr", "BinOp", "UnaryOp", "Lambda", "IfExp", "Dict", "Set", "ListComp", "SetComp", "GeneratorExp", "DictComp", "Await", "Yield", "YieldFrom", "Compare", "Call", "FormattedValue", "JoinedStr", "Constant", "Attribute", "Subscript", "Starred", "Name", "List", "Tuple", "Slice"])
def gr_2 : Str × List Str := ("PATTERN", ["MatchValue", "MatchSingleton", "MatchSequence", "MatchOr", "MatchMapping", "MatchClass", "MatchStar", "MatchAs"])
def gr_3 : Str × List Str := ("BOOLEAN", ["And", "Or"])
def gr_4 : Str × List Str := ("UNARY", ["Invert", "Not", "UAdd", "USub"])
def gr_5 : Str × List Str := ("CONTEXT", ["Load", "Store", "Del"])
def gr_6 : Str × List Str := ("OPERATOR", ["Add", "Sub", "Mult", "MatMult", "Div", "FloorDiv", "Pow", "LShift", "RShift", "BitOr", "BitXor", "BitAnd"])
def gr_7 : Str × List Str := ("COMPARISON", ["Eq", "NotEq", "Lt", "LtE", "Gt", "GtE", "Is", "IsNot", "In", "NotIn"])
def Grp : List (Str × List Str) := [gr_0, gr_1, gr_2, gr_3, gr_4, gr_5, gr_6, gr_7]
def tupIn (K : PySem.W.Frag) (a : Addr) : Option (List Value) := match K.lookup a with
  | some o => match o.data with
    | .seq its _ => if o.cls == .type "tuple" && decide (its.size ≤ 1000) then some its.toList else none
    | _ => none
  | none => none
theorem tupIn_sq {K : PySem.W.Frag} {H : Hp} {a : Addr} {us : List Value} {vs : List V} (h : tupIn K a = some us) (r : Vals vs us) : SqT K H a vs := by
  unfold tupIn at h
  split at h
  · rename_i o ho
    split at h
    · rename_i its n hd
      split at h
      · rename_i hc
        cases h
        obtain ⟨h1, h2⟩ := Bool.and_eq_true_iff.mp hc
        refine .inr ⟨o, its, n, ho, ?_, hd, ?_, r⟩
        · exact beq_iff_eq.mp h1
        · have z : (1000 : Nat) ≤ sizeLine := by decide
          have := of_decide_eq_true h2
          omega
      · cases h
    · cases h
  · cases h
def strIs (x : Str) : Value → Bool
  | .str y _ => decide (x = y)
  | _ => false
theorem strIs_rel {x : Str} {u : Value} (h : strIs x u = true) : RelV (.str x) u := by
  unfold strIs at h
  split at h
  · have := of_decide_eq_true h
    subst this
    exact ⟨_, rfl⟩
  · cases h
def strsIs : List Str → List Value → Bool
  | [], [] => true
  | x :: r, u :: us => strIs x u && strsIs r us
  | _, _ => false
theorem strsIs_vals : ∀ {xs : List Str} {us : List Value}, strsIs xs us = true → Vals (xs.map V.str) us
  | [], [], _ => .nil
  | x :: r, u :: us, h => by
    obtain ⟨h1, h2⟩ := Bool.and_eq_true_iff.mp h
    exact .cons (strIs_rel h1) (strsIs_vals h2)
  | [], _ :: _, h => by cases h
  | _ :: _, [], h => by cases h
def rowsIs (K : PySem.W.Frag) : List (Str × Str × Str) → List Value → Bool
  | [], [] => true
  | r :: rs, u :: us => (match u with
    | .ref b => (match tupIn K b with
      | some ys => strsIs [r.1, r.2.1, r.2.2] ys
      | none => false)
    | _ => false) && rowsIs K rs us
  | _, _ => false
/-- a kind's row at a -/
def RowAt (K : PySem.W.Frag) (a : Addr) (rs : List (Str × Str × Str)) : Prop := ∃ as : List Addr, (∀ H, SqT K H a (as.map V.ref)) ∧ as.length = rs.length ∧ ∀ (i : Nat) b r, as[i]? = some b → rs[i]? = some r → ∀ H, SqT K H b [.str r.1, .str r.2.1, .str r.2.2]
theorem rowsIs_at {K : PySem.W.Frag} : ∀ {rs : List (Str × Str × Str)} {us : List Value}, rowsIs K rs us = true → ∃ as : List Addr, Vals (as.map V.ref) us ∧ as.length = rs.length ∧ ∀ (i : Nat) b r, as[i]? = some b → rs[i]? = some r → ∀ H, SqT K H b [.str r.1, .str r.2.1, .str r.2.2]
  | [], [], _ => ⟨[], .nil, rfl, fun i b r e => by simp at e⟩
  | r :: rs, u :: us, h => by
    obtain ⟨h1, h2⟩ := Bool.and_eq_true_iff.mp h
    obtain ⟨as, v, l, p⟩ := rowsIs_at h2
    split at h1
    · rename_i b
      split at h1
      · rename_i ys hy
        refine ⟨b :: as, .cons rfl v, congrArg (· + 1) l, fun i b' r' e1 e2 H => ?_⟩
        cases i with
        | zero =>
          cases e1
          cases e2
          exact tupIn_sq hy (strsIs_vals h1)
        | succ i => exact p i b' r' e1 e2 H
      · cases h1
    · cases h1
  | [], _ :: _, h => by cases h
  | _ :: _, [], h => by cases h
def fldOne (K : PySem.W.Frag) (aF : Addr) (p : Str × List (Str × Str × Str)) : Bool := match PySem.W.nsIn K aF p.1 with
  | some (some (.ref a)) => (match tupIn K a with
    | some us => rowsIs K p.2 us
    | none => false)
  | _ => false
def fldIs (K : PySem.W.Frag) (aF : Addr) : Bool := Fld.all (fldOne K aF)
def grpOne (K : PySem.W.Frag) (aG : Addr) (p : Str × List Str) : Bool := match PySem.W.nsIn K aG p.1 with
  | some (some (.ref a)) => (match tupIn K a with
    | some us => strsIs p.2 us
    | none => false)
  | _ => false
def grpIs (K : PySem.W.Frag) (aG : Addr) : Bool := Grp.all (grpOne K aG)
theorem lookMem {β : Type} {k : Str} {x : β} : ∀ {rows : List (Str × β)}, rows.lookup k = some x → (k, x) ∈ rows
  | [], h => by cases h
  | (a, y) :: r, h => by
    rw [List.lookup_cons] at h
    split at h
    · rename_i e
      cases h
      rw [beq_iff_eq.mp e]
      exact List.mem_cons_self ..
    · exact List.mem_cons_of_mem _ (lookMem h)
theorem fldIs_at {K : PySem.W.Frag} {aF : Addr} (h : fldIs K aF = true) {k : Str} {rs : List (Str × Str × Str)} (hk : Fld.lookup k = some rs) : ∃ a, PySem.W.nsIn K aF k = some (some (.ref a)) ∧ RowAt K a rs := by
  have z := List.all_eq_true.mp h _ (lookMem hk)
  unfold fldOne at z
  split at z
  · rename_i a ha
    split at z
    · rename_i us hu
      obtain ⟨as, v, l, p⟩ := rowsIs_at z
      exact ⟨a, ha, as, fun H => tupIn_sq hu v, l, p⟩
    · cases z
  · cases z
theorem grpIs_at {K : PySem.W.Frag} {aG : Addr} (h : grpIs K aG = true) {k : Str} {xs : List Str} (hk : Grp.lookup k = some xs) : ∃ a, PySem.W.nsIn K aG k = some (some (.ref a)) ∧ ∀ H, SqT K H a (xs.map V.str) := by
  have z := List.all_eq_true.mp h _ (lookMem hk)
  unfold grpOne at z
  split at z
  · rename_i a ha
    split at z
    · rename_i us hu
      exact ⟨a, ha, fun H => tupIn_sq hu (strsIs_vals z)⟩
    · cases z
  · cases z
/-- what the program's names hold: FIELDS and GROUPS -/
structure Tabs (K : PySem.W.Frag) (w : World) (mg : Str → Option Value) (aF aG : Addr) (eF eG : Array DictEntry) (nF nG : Nat) : Prop where
  dF : KDict K w aF eF nF
  dG : KDict K w aG eG nG
  mF : mg "FIELDS" = some (.ref aF)
  mG : mg "GROUPS" = some (.ref aG)
  oF : fldIs K aF = true
  oG : grpIs K aG = true
  gN : ((["ExceptHandler", "JoinedStr", "alias", "arg", "arguments", "comprehension", "keyword", "match_case", "withitem"] : List Str).all fun r : Str => PySem.W.nsIn K aG r == some none) = true
theorem rows_small {k : Str} {rs : List (Str × Str × Str)} (h : Fld.lookup k = some rs) : rs.length ≤ 7 := by
  have z : (Fld.all fun p => decide (p.2.length ≤ 7)) = true := by decide +kernel
  exact of_decide_eq_true (List.all_eq_true.mp z _ (lookMem h))
def namesOf (rs : List (Str × Str × Str)) : List Str := rs.map (·.1)
theorem rows_nodup {k : Str} {rs : List (Str × Str × Str)} (h : Fld.lookup k = some rs) : (namesOf rs).Nodup := by
  have z : (Fld.all fun p => decide (namesOf p.2).Nodup) = true := by decide +kernel
  exact of_decide_eq_true (List.all_eq_true.mp z _ (lookMem h))
end K5

namespace K5
open PySem PySem.Spec PyProof.Rows L2
abbrev sNI : Stmt := inClass (topS 25) 0
abbrev sNG : Stmt := inClass (topS 25) 1
abbrev sNS : Stmt := inClass (topS 25) 2
abbrev sDef : Stmt := topS 26
abbrev sFO : Stmt := topS 27
theorem scNG : FnScope ["self", "at"] ["self", "at"] (defScope sNG) := ⟨rfl, rfl, rfl, by decide +kernel, rfl, by decide +kernel, by decide +kernel⟩
theorem scNS : FnScope ["self", "at", "worth"] ["self", "at", "worth"] (defScope sNS) := ⟨rfl, rfl, rfl, by decide +kernel, rfl, by decide +kernel, by decide +kernel⟩
theorem scDef : FnScope ["name", "mark"] ["name", "mark"] (defScope sDef) := ⟨rfl, rfl, rfl, by decide +kernel, rfl, by decide +kernel, by decide +kernel⟩
theorem scFO : FnScope ["kind", "row"] ["kind"] (defScope sFO) := ⟨rfl, rfl, rfl, by decide +kernel, rfl, by decide +kernel, by decide +kernel⟩
abbrev nNI : List Str := ["self", "kind", "parts", "more", "names", "missing", "name", "value", "_", "mark"]
theorem scNI : FnScope nNI ["self", "kind", "parts", "more"] (defScope sNI) := ⟨rfl, rfl, rfl, by decide +kernel, rfl, by decide +kernel, by decide +kernel⟩
/-- a statement that is never come to -/
theorem ps_no {X : Cx} {st : Stmt} : PS X st (fun _ _ _ => False) := ⟨fun pins s σ H D I h => h.elim⟩
theorem str_in {K : PySem.W.Frag} : PySem.W.kitOne K (.type "str") (.type "str") = some true := kit_ty (by decide +kernel)
section
variable {P : Program} {w : World} {K : PySem.W.Frag} {mg : Str → Option Value} {base : Heap}
theorem ok_get {f : Addr} {fd : FuncData} {C : Addr} (F : Fun K "__getitem__" "Node.__getitem__" sNG f fd) (c : Cls K C) (na : NoAttr K C "_fields") (zI : mg "isinstance" = none) (zS : mg "str" = none) : FnOk P w K mg base CX0 1 f fd ["self", "at"] (spGet C) := by
  refine F.ok scNG (fun vs H Q E h => ?_) (fun cdv A outer s H vs Q E hr h => ?_)
  · obtain ⟨p, dx, d, nm, fs, kvs, v, rfl, _⟩ := h
    rfl
  obtain ⟨p, dx, d, nm, fs, kvs, v, rfl, hp, hf, hd, hv, q⟩ := h
  refine ⟨_, pss_cons (ps_if (PW.pt (pw_or (pt_not (pt_val (pe_callB call_isi (by rfl) zI (by decide +kernel) (pa_cons (pv 1) (pa_cons (pe_bltn (v := .ty "str") (by rfl) zS (by decide +kernel) rfl) pa_nil)))))
      (pw_or1 (pt_cmp (pc_dnotin (hu_of hr) (pv 1) (pe_fld (pv 0) rfl)))))) (pss_one ps_no) pss_nil)
    (pss_one (ps_ret (pe_dget (hu_of hr) (pe_fld (pv 0) rfl) (pv 1) (fun _ _ => rfl)))), ?_⟩
  refine ⟨_, rfl, .str nm, .ty "str", _, _, _, rfl, .ty _, .base (.str nm), str_in, _, rfl, iteF ?_⟩
  refine ⟨_, rfl, _, rfl, p, C, dx, fs, _, rfl, hp, c, na, hf, d, _, rfl, DGet.k (k := Sum.inr nm) hd, ?_⟩
  rw [hv]
  refine ⟨_, rfl, iteF ?_⟩
  refine ⟨_, rfl, p, C, dx, fs, _, rfl, hp, c, na, hf, _, rfl, d, v, rfl, ?_, q⟩
  rw [← hv]
  exact DGet.k (k := Sum.inr nm) hd
theorem ok_set {f : Addr} {fd : FuncData} {C : Addr} (F : Fun K "__setitem__" "Node.__setitem__" sNS f fd) (c : Cls K C) (na : NoAttr K C "_fields") (zI : mg "isinstance" = none) (zS : mg "str" = none) : FnOk P w K mg base CX0 1 f fd ["self", "at", "worth"] (spSet C) := by
  refine F.ok scNS (fun vs H Q E h => ?_) (fun cdv A outer s H vs Q E hr h => ?_)
  · obtain ⟨p, dx, d, nm, fs, kvs, v, u, rfl, _⟩ := h
    rfl
  obtain ⟨p, dx, d, nm, fs, kvs, v, u, rfl, hp, hf, hd, hv, hz, q⟩ := h
  refine ⟨_, pss_cons (ps_if (PW.pt (pw_or (pt_not (pt_val (pe_callB call_isi (by rfl) zI (by decide +kernel) (pa_cons (pv 1) (pa_cons (pe_bltn (v := .ty "str") (by rfl) zS (by decide +kernel) rfl) pa_nil)))))
      (pw_or1 (pt_cmp (pc_dnotin (hu_of hr) (pv 1) (pe_fld (pv 0) rfl)))))) (pss_one ps_no) pss_nil)
    (pss_one (ps_dput (hu_of hr) (pe_fld (pv 0) rfl) (pv 1) (pv 2) (by rfl))), ?_⟩
  refine ⟨_, rfl, .str nm, .ty "str", _, _, _, rfl, .ty _, .base (.str nm), str_in, _, rfl, iteF ?_⟩
  refine ⟨_, rfl, _, rfl, p, C, dx, fs, _, rfl, hp, c, na, hf, d, _, rfl, DGet.k (k := Sum.inr nm) hd, ?_⟩
  rw [hv]
  refine ⟨_, rfl, iteF ?_⟩
  exact ⟨_, rfl, _, rfl, p, C, dx, fs, _, rfl, hp, c, na, hf, _, rfl, d, _, rfl, DPut.k (k := Sum.inr nm) hd hz, q⟩
end
end K5

namespace K5
open PySem PySem.Spec PyProof.Rows L2
theorem ixt {K : PySem.W.Frag} (X : Cx) (e : X.K = K) : IxR X (rIxT K) := e ▸ ix_tup
theorem ixl {K : PySem.W.Frag} (X : Cx) (e : X.K = K) : IxR X (rIxL K) := e ▸ ix_list
/-- the built-in names that are what they are -/
structure Blt (mg : Str → Option Value) : Prop where
  isI : mg "isinstance" = none
  st : mg "str" = none
  tp : mg "tuple" = none
  ls : mg "list" = none
  ln : mg "len" = none
  zp : mg "zip" = none
  al : mg "all" = none
  it : mg "int" = none
  bo : mg "bool" = none
  so : mg "sorted" = none
  rg : mg "range" = none
  mx : mg "max" = none
  rp : mg "repr" = none
def spFO : Sp := fun vs H Q _ => ∃ (k : Str) (rs : List (Str × Str × Str)), vs = [.str k] ∧ Fld.lookup k = some rs ∧ ∀ (H' : Hp) (t : Addr), H t = none → Same H H' → H' t = some (.tup ((namesOf rs).map V.str)) → Q (.ref t) H'
section
variable {P : Program} {w : World} {K : PySem.W.Frag} {mg : Str → Option Value} {base : Heap} {aF aG : Addr} {eF eG : Array DictEntry} {nF nG : Nat}
theorem Tabs.kd (T : Tabs K w mg aF aG eF eG nF nG) {k : Str} {a : Addr} (h : PySem.W.nsIn K aF k = some (some (.ref a))) : KDct K w aF k (.ref a) := ⟨_, _, _, T.dF.at_, T.dF.lit, h, rfl⟩
theorem ok_fo {f : Addr} {fd : FuncData} (F : Fun K "fields_of" "fields_of" sFO f fd) (T : Tabs K w mg aF aG eF eG nF nG) (Z : Blt mg) : FnOk P w K mg base CX0 1 f fd ["kind"] spFO := by
  refine F.ok scFO (fun vs H Q E h => ?_) (fun cdv A outer s H vs Q E hr h => ?_)
  · obtain ⟨k, rs, rfl, _⟩ := h
    rfl
  obtain ⟨k, rs, rfl, hk, q⟩ := h
  obtain ⟨a, ha, as, hs, hl, hp⟩ := fldIs_at T.oF hk
  refine ⟨_, pss_cons (ps_if (PW.pt (pw_or (pt_not (pt_val (pe_callB call_isi (by rfl) Z.isI (by decide +kernel) (pa_cons (pv 0) (pa_cons (pe_bltn (v := .ty "str") (by rfl) Z.st (by decide +kernel) rfl) pa_nil)))))
      (pw_or1 (pt_cmpR (op_notIn_kd T.dF) (pv 0) (pe_glob (v := .ref aF) rfl T.mF rfl) (by rfl))))) (pss_one ps_no) pss_nil)
    (pss_one (ps_ret (pe_callTy call_tuple_of (by rfl) Z.tp (by decide +kernel) (pa_cons (pe_lc (own := [("row", 1)]) (g := gName 1) (tt := tYes) rfl scFO.nd (pi_tup (pe_ix ix_kdict (pe_glob (v := .ref aF) rfl T.mF rfl) (pv 0) (fun _ _ => rfl)))
        (blkOk_by (own := [("row", 1)]) (N := ["kind", "row"]) (sc := defScope sFO) (by decide +kernel)) (fun _ _ _ _ _ => pg_name (i := 1) scFO.nd rfl (.inl rfl)) (fun _ _ _ _ _ => pts_nil) (fun _ _ _ _ _ => pe_ix (ixt _ rfl) (pv 1) pe_int (fun _ _ => rfl))) pa_nil)))), ?_⟩
  refine ⟨_, rfl, .str k, .ty "str", _, _, _, rfl, .ty _, .base (.str k), str_in, _, rfl, iteF ?_⟩
  refine ⟨_, rfl, k, _, rfl, rfl, ha, _, rfl, iteF ?_⟩
  refine ⟨_, rfl, aF, k, .ref a, rfl, rfl, T.kd ha, a, rfl, ⟨_, hs H⟩, fun D nD => ?_⟩
  refine lc_tup (K := K) (a := a) (xs := as.map V.ref) (fun i H1 => Same H H1 ∧ H1 D = some (.lst (((namesOf rs).take i).map V.str))) ⟨same_new nD, by rw [upd_same]; rfl⟩ (fun i H1 _ _ => hs H1) ?_ ?_
  · rintro i x H1 hx ⟨s1, h1⟩
    rw [List.getElem?_map] at hx
    cases hb : as[i]? with
    | none => rw [hb] at hx; cases hx
    | some b =>
      rw [hb] at hx
      cases hx
      have hi : i < rs.length := by
        rcases Nat.lt_or_ge i as.length with z | z
        · omega
        · rw [List.getElem?_eq_none z] at hb; cases hb
      have hr' := List.getElem?_eq_getElem hi
      refine ⟨rfl, ?_⟩
      unfold tYes
      refine iteT ?_
      have ln : (((namesOf rs).take i).map V.str).length < sizeLine := by
        have z : (1000 : Nat) < sizeLine := by decide
        have := rows_small hk
        rw [List.length_map, List.length_take]
        omega
      refine ⟨_, rfl, b, _, 0, .str rs[i].1, rfl, rfl, hp i b _ hb hr' H1, rfl, _, h1, ln, ?_⟩
      refine ⟨fun c o e => ?_, ?_⟩
      · rw [upd_ne (ne_of_none e nD)]; exact s1 _ _ e
      · rw [upd_same]
        have e1 : (namesOf rs).take (i + 1) = (namesOf rs).take i ++ [rs[i].1] := by
          unfold namesOf
          rw [← List.map_take, ← List.map_take, List.take_succ, hr', List.map_append]
          rfl
        rw [e1, List.map_append]
        rfl
  · rintro H1 ⟨s1, h1⟩
    have e0 : (as.map V.ref).length = (namesOf rs).length := by unfold namesOf; rw [List.length_map, List.length_map, hl]
    rw [e0, List.take_length] at h1
    refine ⟨D, _, rfl, .inl ⟨SqL.of h1, fun l nl => q _ l (s1.free nl) (s1.trans (same_new nl)) upd_same⟩⟩
end
end K5

namespace K5
open PySem PySem.Spec PyProof.Rows L2 StX
/-! ### a node in the heap -/
def marks : List Str := ["*", "+", "?*"]
def nodeFs (k : Str) (d : Addr) : List (Str × V) := [("kind", .str k), ("lineno", .non), ("col_offset", .non), ("end_lineno", .non), ("end_col_offset", .non), ("_fields", .ref d)]
def fkv (ns : List Str) (vs : List V) : List (Key × V) := List.zipWith (fun n v => (Sum.inr n, v)) ns vs
theorem fkv_len {ns : List Str} {vs : List V} (h : vs.length ≤ ns.length) : (fkv ns vs).length = vs.length := by
  unfold fkv
  rw [List.length_zipWith]
  omega
theorem zip_keys : ∀ {ns : List Str} {vs : List V}, ∀ p ∈ fkv ns vs, ∃ n ∈ ns, p.1 = Sum.inr n
  | [], _, p, h => by cases h
  | n :: ns, [], p, h => by cases h
  | n :: ns, v :: vs, p, h => by
    rcases List.mem_cons.mp h with e | h
    · exact ⟨n, List.mem_cons_self .., by rw [e]⟩
    · obtain ⟨m, hm, e⟩ := zip_keys p h
      exact ⟨m, List.mem_cons_of_mem _ hm, e⟩
theorem fkv_snoc {ns : List Str} {vs : List V} {nm : Str} {v : V} (hn : ns.Nodup) (h : ns[vs.length]? = some nm) : putK (fkv ns vs) (.inr nm) v = fkv ns (vs ++ [v]) := by
  obtain ⟨A, B, rfl, hA⟩ : ∃ A B, ns = A ++ nm :: B ∧ A.length = vs.length := by
    have hi : vs.length < ns.length := by
      rcases Nat.lt_or_ge vs.length ns.length with q | q
      · exact q
      · rw [List.getElem?_eq_none q] at h; cases h
    refine ⟨ns.take vs.length, ns.drop (vs.length + 1), ?_, by rw [List.length_take]; omega⟩
    rw [List.getElem?_eq_getElem hi] at h
    cases h
    rw [← List.drop_eq_getElem_cons hi, List.take_append_drop]
  have e1 : fkv (A ++ nm :: B) vs = fkv A vs := by
    have z : fkv (A ++ nm :: B) (vs ++ []) = fkv A vs ++ fkv (nm :: B) [] := List.zipWith_append hA
    rw [List.append_nil] at z
    rw [z]
    exact List.append_nil _
  have e2 : fkv (A ++ nm :: B) (vs ++ [v]) = fkv A vs ++ [(Sum.inr nm, v)] := by
    have z : fkv (A ++ nm :: B) (vs ++ [v]) = fkv A vs ++ fkv (nm :: B) [v] := List.zipWith_append hA
    rw [z]
    cases B <;> rfl
  rw [e1, e2, putK_new]
  intro z
  obtain ⟨p, hp, e⟩ := List.mem_map.mp z
  obtain ⟨m, hm, e'⟩ := zip_keys p hp
  rw [e'] at e
  have e := Sum.inr.inj e
  subst e
  rw [List.nodup_append] at hn
  exact hn.2.2 m hm m (List.mem_cons_self ..) rfl
/-- what a field holds that was not given -/
def DefV (C : Addr) (H H' : Hp) (nm mk : Str) (v : V) : Prop :=
  (mk ∈ marks ∧ ∃ l, v = .ref l ∧ H l = none ∧ H' l = some (.lst [])) ∨ (mk ∉ marks ∧ nm = "ctx" ∧ ∃ p dx d, v = .ref p ∧ H p = none ∧ H d = none ∧ H' p = some (.ins C dx (nodeFs "Load" d)) ∧ H' d = some (.dK [])) ∨ (mk ∉ marks ∧ nm ≠ "ctx" ∧ v = .non)
theorem DefV.mono {C : Addr} {H H0 H1 H2 : Hp} {nm mk : Str} {v : V} (h : DefV C H H1 nm mk v) (h0 : ∀ b, H b = none → H0 b = none) (k : ∀ b o, H b = none → H1 b = some o → H2 b = some o) : DefV C H0 H2 nm mk v := by
  rcases h with ⟨a, l, e, n, g⟩ | ⟨a, b, p, dx, d, e, n1, n2, g1, g2⟩ | h
  · exact .inl ⟨a, l, e, h0 _ n, k _ _ n g⟩
  · exact .inr (.inl ⟨a, b, p, dx, d, e, h0 _ n1, h0 _ n2, k _ _ n1 g1, k _ _ n2 g2⟩)
  · exact .inr (.inr h)
/-- a node of the kind k, new behind H -/
structure NewN (C : Addr) (H H' : Hp) (p : Addr) (k : Str) (rs : List (Str × Str × Str)) (parts : List V) (d : Addr) (ds : List V) : Prop where
  sm : Same H H'
  np : H p = none
  nd : H d = none
  at_ : ∃ dx, H' p = some (.ins C dx (nodeFs k d))
  dk : H' d = some (.dK (fkv (namesOf rs) (parts ++ ds)))
  len : (parts ++ ds).length = rs.length
  df : ∀ (i : Nat) v r, ds[i]? = some v → rs[parts.length + i]? = some r → DefV C H H' r.1 r.2.2 v
/-- Node(kind, *parts) -/
def tNode (n : Nat) (C : Addr) (t : TA) : TE := fun σ H Q => t σ H fun vs H1 => ∃ (k : Str) (rs : List (Str × Str × Str)) (parts : List V), vs = .str k :: parts ∧ Fld.lookup k = some rs ∧ parts.length ≤ rs.length ∧ (n = 1 ∨ rs = []) ∧
  ∀ (H2 : Hp) (p d : Addr) (ds : List V), NewN C H1 H2 p k rs parts d ds → Q (.ref p) H2
def spIniB (n : Nat) (C : Addr) : Sp := fun vs H Q _ => ∃ (x dx tp dm : Addr) (k : Str) (rs : List (Str × Str × Str)) (parts : List V), vs = [.ref x, .str k, .ref tp, .ref dm] ∧ H x = some (.ins C dx []) ∧ H tp = some (.tup parts) ∧ H dm = some (.dK []) ∧
  Fld.lookup k = some rs ∧ parts.length ≤ rs.length ∧ (n = 1 ∨ rs = []) ∧
  ∀ (H' : Hp) (d : Addr) (ds : List V), (∀ b o, b ≠ x → H b = some o → H' b = some o) → H d = none → H' x = some (.ins C dx (nodeFs k d)) → H' d = some (.dK (fkv (namesOf rs) (parts ++ ds))) → (parts ++ ds).length = rs.length →
    (∀ (i : Nat) v r, ds[i]? = some v → rs[parts.length + i]? = some r → DefV C H H' r.1 r.2.2 v) → Q .non H'
def spIni (n : Nat) (C : Addr) : Sp := fun vs H Q E => ∃ ws rest, vs = ws ++ rest ∧ ws.length = (["self", "kind"] : List Str).length ∧ rest.length ≤ sizeLine ∧ ∀ p d, H p = Option.none → H d = Option.none → d ≠ p → spIniB n C (ws ++ [V.ref p, V.ref d]) (upd (upd H p (.tup rest)) d (.dK [])) Q E
theorem pe_node {X : Cx} {n k : Nat} {C f : Addr} {e : Expr} {es : List Expr} {t : TA} {p pos : Pos} (M : Mk X.K C f) (F : FnR X.prog X.w X.K X.mg X.base CX0 k f (spIni n C)) (hr : Room (k + 1) X.A) (hg : Gl X "Node") (hm : X.mg "Node" = some (.ref C)) (ha : PA X (e :: es) t)
    (he : starEach (e :: es) X.env = (false, eval e X.env) :: starEach es X.env := by rfl) (hpl : (backTo pos (starEach es X.env)).any (·.1) = false := by rfl) : PE X (.Call (.Name "Node" p) (e :: es) [] pos) (tNode n C t) := by
  refine ⟨fun pins s σ H Q I h => ?_⟩
  refine wpAny_Call_Name_kw (ld_glob I hg hm ?_ (by decide))
  refine PySem.W.callWith_K (h₀ := X.base) I.ok.mod.kin M.kp (thn (ha.run pos pins s σ H _ I h) fun us s1 ⟨vs, H1, I1, r, q⟩ => ⟨I1.kIn, ?_⟩) he hpl
  obtain ⟨kd, rs, parts, rfl, hk, hl, hn, q⟩ := q
  refine run_makeR (E := E0) M F hr pass0 I1 r fun x dx nx ndx hd => ⟨[.ref x, .str kd], parts, rfl, rfl, ?_, fun tp dm nt nm hm' => ?_⟩
  · have := rows_small hk
    have z : (1000 : Nat) < sizeLine := by decide
    omega
  have ne : ∀ {a b : Addr} {H : Hp} {o : HO}, H a = none → H b = some o → b ≠ a := fun {a b H o} h1 h2 z => by rw [z, h1] at h2; cases h2
  have hx0 : (upd (upd H1 dx (.own x)) x (.ins C dx [])) x = some (.ins C dx []) := upd_same
  have tx : x ≠ tp := ne nt hx0
  have mx : x ≠ dm := ne nm hx0
  have tdx : dx ≠ tp := ne nt (by rw [upd_ne hd]; exact upd_same)
  refine ⟨x, dx, tp, dm, kd, rs, parts, rfl, ?_, ?_, upd_same, hk, hl, hn, fun H' d ds kp nd at_ dk len df => ⟨rfl, q H' x d ds ⟨?_, nx, ?_, ⟨dx, at_⟩, dk, len, ?_⟩⟩⟩
  · rw [upd_ne mx, upd_ne tx]; exact hx0
  · rw [upd_ne hm'.symm]; exact upd_same
  · intro b o e
    have n1 := ne nx e
    have n2 := ne ndx e
    have e2 : (upd (upd H1 dx (.own x)) x (.ins C dx [])) b = some o := by rw [upd_ne n1, upd_ne n2]; exact e
    refine kp b o n1 ?_
    rw [upd_ne (ne nm e2), upd_ne (ne nt e2)]
    exact e2
  · cases z : H1 d with
    | none => rfl
    | some o =>
      have n1 := ne nx z
      have n2 := ne ndx z
      have e2 : (upd (upd H1 dx (.own x)) x (.ins C dx [])) d = some o := by rw [upd_ne n1, upd_ne n2]; exact z
      rw [upd_ne (ne nm e2), upd_ne (ne nt e2), e2] at nd
      cases nd
  · intro i v r g1 g2
    refine (df i v r g1 g2).mono (fun b hb => ?_) fun b o _ g => g
    cases z : H1 b with
    | none => rfl
    | some o =>
      have n1 := ne nx z
      have n2 := ne ndx z
      have e2 : (upd (upd H1 dx (.own x)) x (.ins C dx [])) b = some o := by rw [upd_ne n1, upd_ne n2]; exact z
      rw [upd_ne (ne nm e2), upd_ne (ne nt e2), e2] at hb
      cases hb
end K5

namespace K5
open PySem PySem.Spec PyProof.Rows L2 StX
def spDef (n : Nat) (C : Addr) : Sp := fun vs H Q _ => ∃ nm mk : Str, vs = [.str nm, .str mk] ∧ n = 1 ∧ ∀ (H' : Hp) (v : V), Same H H' → DefV C H H' nm mk v → Q v H'
section
variable {P : Program} {w : World} {K : PySem.W.Frag} {mg : Str → Option Value} {base : Heap} {aF aG aM C fI : Addr} {eF eG : Array DictEntry} {nF nG : Nat}
theorem no_def {f : Addr} {fd : FuncData} {k : Nat} : FnOk P w K mg base CX0 k f fd ["name", "mark"] (spDef 0 C) := by
  have no : ∀ vs H Q E, ¬ spDef 0 C vs H Q E := fun vs H Q E h => by
    obtain ⟨nm, mk, _, h1, _⟩ := h
    omega
  exact ⟨fun vs H Q E h => absurd h (no vs H Q E), fun A outer s H args us vs Q E _ _ _ _ h => absurd h (no vs H Q E)⟩
theorem marks_flat : (marks.map V.str).all flatV = true := by decide +kernel
theorem marks_in (mk : Str) : inV (.str mk) (marks.map V.str) = decide (mk ∈ marks) := by
  by_cases h : mk ∈ marks
  · rw [decide_eq_true h]
    unfold marks at h
    rcases List.mem_cons.mp h with rfl | h
    · decide +kernel
    rcases List.mem_cons.mp h with rfl | h
    · decide +kernel
    rcases List.mem_cons.mp h with rfl | h
    · decide +kernel
    cases h
  · rw [decide_eq_false h]
    unfold inV
    rw [List.any_eq_false]
    intro x hx
    obtain ⟨y, hy, rfl⟩ := List.mem_map.mp hx
    have ne : y ≠ mk := fun z => h (z ▸ hy)
    unfold eqV
    simp [ne, Ne.symm ne]
theorem ld : Fld.lookup ("Load" : Str) = some [] := by decide +kernel
theorem ok_def {f : Addr} {fd : FuncData} (F : Fun K "_default" "_default" sDef f fd) (mM : mg "LIST_MARKS" = some (.ref aM)) (hM : ∀ H, SqT K H aM (marks.map V.str)) (M : Mk K C fI) (mN : mg "Node" = some (.ref C))
    {k : Nat} (N0 : FnR P w K mg base CX0 k fI (spIni 0 C)) : FnOk P w K mg base CX0 (k + 2) f fd ["name", "mark"] (spDef 1 C) := by
  refine F.ok scDef (fun vs H Q E h => ?_) (fun cdv A outer s H vs Q E hr h => ?_)
  · obtain ⟨nm, mk, rfl, _⟩ := h
    rfl
  obtain ⟨nm, mk, rfl, _, q⟩ := h
  refine ⟨_, pss_cons (ps_if (pt_cmpR op_in_seq (pv 1) (pe_glob (v := .ref aM) rfl mM rfl) (by rfl)) (pss_one (ps_ret (pe_lst pa_nil))) pss_nil)
    (pss_cons (ps_if (pt_cmpR op_eq (pv 0) pe_str (nomark _)) (pss_one (ps_ret (pe_node M N0 hr rfl mN (pa_cons pe_str pa_nil)))) pss_nil)
    (pss_one (ps_ret pe_non))), ?_⟩
  refine ⟨_, rfl, aM, _, rfl, .inr (hM H), rfl, marks_flat, _, rfl, ?_⟩
  rw [if_neg (by decide), marks_in]
  by_cases hm : mk ∈ marks
  · rw [decide_eq_true hm]
    refine iteT ?_
    refine ⟨Nat.zero_le _, fun l nl => q _ _ (same_new nl) (.inl ⟨hm, l, rfl, nl, upd_same⟩)⟩
  · rw [decide_eq_false hm]
    refine iteF ?_
    refine ⟨_, rfl, rfl, _, rfl, ?_⟩
    refine ite2 (fun c => ?_) (fun c => ?_)
    · have c : nm = "ctx" := V.str.inj (of_decide_eq_true c)
      refine ⟨"Load", [], [], rfl, ld, Nat.le_refl 0, .inr rfl, fun H2 p d ds N => ?_⟩
      obtain ⟨dx, hp⟩ := N.at_
      have hd := N.dk
      exact q H2 _ N.sm (.inr (.inl ⟨hm, c, p, dx, d, rfl, N.np, N.nd, hp, hd⟩))
    · have c : ¬ nm = "ctx" := by simpa using c
      exact q H _ (Same.refl H) (.inr (.inr ⟨hm, c, rfl⟩))
end
end K5

namespace K5
open PySem PySem.Spec PyProof.Rows L2 StX RZ
theorem sl_from {K : PySem.W.Frag} {H : Hp} {a : Addr} {xs : List V} {n : Nat} {Q : VK} (h : SqT K H a xs) (hn : n ≤ xs.length) (q : ∀ p H', Same H H' → SqT K H' p (xs.drop n) → Q (.ref p) H') : rSlA K (.ref a) (some (n : Int)) none H Q := by
  refine ⟨a, xs, rfl, h, fun z => ?_, fun _ p np => ?_⟩
  · rw [HT.sIx_nat] at z
    have e : n = 0 ∨ xs = [] := by
      rcases Nat.eq_zero_or_pos n with e | e
      · exact .inl e
      · right
        have : xs.length = 0 := by omega
        exact List.eq_nil_of_length_eq_zero this
    refine q a H (Same.refl H) ?_
    rcases e with e | e
    · rw [e, List.drop_zero]; exact h
    · rw [e, List.drop_nil]; rw [e] at h; exact h
  · refine q p _ (same_new np) (SqT.of ?_)
    rw [upd_same]
    have e : cutV xs (some (n : Int)) none = xs.drop n := by
      unfold cutV
      rw [HT.sIx_nat, HT.sIx_none, Nat.min_eq_left hn]
      exact List.take_of_length_le (by rw [List.length_drop]; omega)
    rw [e]
structure NodeF (K : PySem.W.Frag) (C : Addr) : Prop where
  cl : Cls K C
  n1 : NoAttr K C "kind"
  n2 : NoAttr K C "lineno"
  n3 : NoAttr K C "col_offset"
  n4 : NoAttr K C "end_lineno"
  n5 : NoAttr K C "end_col_offset"
  n6 : NoAttr K C "_fields"
theorem walk_zipT {K : PySem.W.Frag} {a b : Addr} {xs ys : List V} {n : Nat} (hn : n = min xs.length ys.length) : Walk (ItzT K a b) n (fun H => SqT K H a xs ∧ SqT K H b ys) (YPair (fun i => xs[i]?) (fun i => ys[i]?)) := by
  refine ⟨fun i H hi q => ⟨xs, ys, xs[i]'(by omega), ys[i]'(by omega), q.1, q.2, by simp, by simp⟩, fun H q => ⟨xs, ys, q.1, q.2, by omega⟩, fun i H x H' _ q y => ?_⟩
  obtain ⟨T, x', y', h1, h2, h3, h4, h5⟩ := y
  exact ⟨T, x', y', h1, h2, h3, h4 xs q.1, h5 ys q.2⟩
theorem putF_new {f : Str} {v : V} : ∀ {fs : List (Str × V)}, f ∉ fs.map Prod.fst → putF f v fs = fs ++ [(f, v)]
  | [], _ => rfl
  | (g, x) :: r, h => by
    have ne : g ≠ f := fun z => h (by rw [z]; exact List.mem_cons_self ..)
    show (if g = f then _ else _) = _
    rw [if_neg ne, putF_new (fs := r) (fun z => h (List.mem_cons_of_mem _ z))]
    rfl
def nf1 (k : Str) : List (Str × V) := [("kind", .str k)]
def nf2 (k : Str) : List (Str × V) := [("kind", .str k), ("lineno", .non)]
def nf3 (k : Str) : List (Str × V) := [("kind", .str k), ("lineno", .non), ("col_offset", .non)]
def nf4 (k : Str) : List (Str × V) := [("kind", .str k), ("lineno", .non), ("col_offset", .non), ("end_lineno", .non)]
def nf5 (k : Str) : List (Str × V) := [("kind", .str k), ("lineno", .non), ("col_offset", .non), ("end_lineno", .non), ("end_col_offset", .non)]
theorem nf1_put (k : Str) : putF "lineno" V.non (nf1 k) = nf2 k := putF_new (by show ("lineno" : Str) ∉ (["kind"] : List Str); decide +kernel)
theorem nf2_put (k : Str) : putF "col_offset" V.non (nf2 k) = nf3 k := putF_new (by show ("col_offset" : Str) ∉ (["kind", "lineno"] : List Str); decide +kernel)
theorem nf3_put (k : Str) : putF "end_lineno" V.non (nf3 k) = nf4 k := putF_new (by show ("end_lineno" : Str) ∉ (["kind", "lineno", "col_offset"] : List Str); decide +kernel)
theorem nf4_put (k : Str) : putF "end_col_offset" V.non (nf4 k) = nf5 k := putF_new (by show ("end_col_offset" : Str) ∉ (["kind", "lineno", "col_offset", "end_lineno"] : List Str); decide +kernel)
theorem nf5_put (k : Str) (d : Addr) : putF "_fields" (V.ref d) (nf5 k) = nodeFs k d := putF_new (by show ("_fields" : Str) ∉ (["kind", "lineno", "col_offset", "end_lineno", "end_col_offset"] : List Str); decide +kernel)
/-- while a node is made: its attributes fs so far -/
structure Ini (H : Hp) (C x dx tp dm tn : Addr) (parts : List V) (ns : List Str) (fs : List (Str × V)) (H5 : Hp) : Prop where
  kp : ∀ b o, b ≠ x → H b = some o → H5 b = some o
  hx : H5 x = some (.ins C dx fs)
  htp : H5 tp = some (.tup parts)
  hdm : H5 dm = some (.dK [])
  htn : H5 tn = some (.tup (ns.map V.str))
theorem Ini.fld {H H5 : Hp} {C x dx tp dm tn : Addr} {parts : List V} {ns : List Str} {fs fs' : List (Str × V)} (I : Ini H C x dx tp dm tn parts ns fs H5) : Ini H C x dx tp dm tn parts ns fs' (upd H5 x (.ins C dx fs')) := by
  have n1 : tp ≠ x := fun z => by have := I.htp; rw [z, I.hx] at this; cases this
  have n2 : dm ≠ x := fun z => by have := I.hdm; rw [z, I.hx] at this; cases this
  have n3 : tn ≠ x := fun z => by have := I.htn; rw [z, I.hx] at this; cases this
  exact ⟨fun b o n e => by rw [upd_ne n]; exact I.kp b o n e, upd_same, by rw [upd_ne n1]; exact I.htp, by rw [upd_ne n2]; exact I.hdm, by rw [upd_ne n3]; exact I.htn⟩
theorem Ini.up {H H5 H6 : Hp} {C x dx tp dm tn : Addr} {parts : List V} {ns : List Str} {fs : List (Str × V)} (I : Ini H C x dx tp dm tn parts ns fs H5) (s : Same H5 H6) : Ini H C x dx tp dm tn parts ns fs H6 :=
  ⟨fun b o n e => s _ _ (I.kp b o n e), s _ _ I.hx, s _ _ I.htp, s _ _ I.hdm, s _ _ I.htn⟩
section
variable {P : Program} {w : World} {K : PySem.W.Frag} {mg : Str → Option Value} {base : Heap} {aF aG C : Addr} {eF eG : Array DictEntry} {nF nG : Nat}
theorem ok_ini {f fO fD : Addr} {fd dO dD : FuncData} (F : Fun K "__init__" "Node.__init__" sNI f fd) (T : Tabs K w mg aF aG eF eG nF nG) (Z : Blt mg) (N : NodeF K C)
    (O : FnOk P w K mg base CX0 1 fO dO ["kind"] spFO) (bO : Binds K dO ["kind"] []) (kO : PySem.W.keepIn K (.ref fO) = true) (mO : mg "fields_of" = some (.ref fO))
    (bD : Binds K dD ["name", "mark"] []) (kD : PySem.W.keepIn K (.ref fD) = true) (mD : mg "_default" = some (.ref fD)) {n k : Nat} (hk1 : 1 ≤ k) (D : FnOk P w K mg base CX0 k fD dD ["name", "mark"] (spDef n C)) :
    FnR P w K mg base CX0 (k + 1) f (spIni n C) := by
  obtain ⟨oc, od, kV, doc, pm, an, cdv, ct, osl, rfl, lk, hcd⟩ := F.ex
  refine fn_starkw (ps := ["self", "kind"]) (pv := "parts") (pd := "more") lk hcd scNI (cxUp_none) (fun us rest hl => ?_) (fun A outer s H vs Q E hr h => ?_)
  · match us, hl with
    | [a, b], _ =>
      cases rest with
      | nil => rfl
      | cons r rs => rfl
  have hr1 := hr.mono hk1
  obtain ⟨x, dx, tp, dm, kd, rs, parts, rfl, hx, htp, hdm, hk, hl, hn, q⟩ := h
  have main : ∃ t, PSs (cxOf CX0 P w K mg base nNI "Node.__init__" (defScope sNI) f cdv A outer s H E).nox (defBody sNI) t ∧ t { nx := fun _ H' => Q .non H', rt := Q } (start nNI [.ref x, .str kd, .ref tp, .ref dm]) H := by
    refine ⟨_, pss_cons (ps_set (i := 4) scNI.nd rfl (.inl rfl) (pe_call O hr1 rfl mO kO bO .nil pass0 (pa_cons (pv 1) pa_nil)))
      (pss_cons (ps_if (pt_cmpR op_gt (pe_callB call_len_seq rfl Z.ln PySem.boot_len (pa_cons (pv 2) pa_nil)) (pe_callB call_len_seq rfl Z.ln PySem.boot_len (pa_cons (pv 4) pa_nil)) (nomark _)) (pss_one ps_no) pss_nil)
      (pss_cons (ps_set (i := 5) scNI.nd rfl (.inl rfl) (pe_slice sl_tupA (pv 4) (po_some (pe_callB call_len_seq rfl Z.ln PySem.boot_len (pa_cons (pv 2) pa_nil))) po_none))
      (pss_cons (ps_lock (ps_for PassesOwn.never rfl (pi_keys (pv 3)) (pg_name (i := 6) scNI.nd rfl (.inl rfl)) (pss_one ps_no)))
      (pss_cons (ps_fld (pv 0) (pv 1) rfl)
      (pss_cons (ps_fld (pv 0) (pe_dget1 (hu_of hr) (pv 3) pe_str ⟨rfl, rfl, rfl, rfl⟩) rfl)
      (pss_cons (ps_fld (pv 0) (pe_dget1 (hu_of hr) (pv 3) pe_str ⟨rfl, rfl, rfl, rfl⟩) rfl)
      (pss_cons (ps_fld (pv 0) (pe_dget1 (hu_of hr) (pv 3) pe_str ⟨rfl, rfl, rfl, rfl⟩) rfl)
      (pss_cons (ps_fld (pv 0) (pe_dget1 (hu_of hr) (pv 3) pe_str ⟨rfl, rfl, rfl, rfl⟩) rfl)
      (pss_cons (ps_fld (pv 0) pe_dnewK rfl)
      (pss_cons (ps_for PassesOwn.never rfl (pi_zipA rfl Z.zp (pa_cons (pv 4) (pa_cons (pv 2) pa_nil))) (pg_tup rfl (pgs_cons (pg_name (i := 6) scNI.nd rfl (.inl rfl)) (pgs_cons (pg_name (i := 7) scNI.nd rfl (.inl rfl)) pgs_nil)))
          (pss_one (ps_dput (hu_of hr) (pe_fld (pv 0) rfl) (pv 6) (pv 7) (by rfl))))
      (pss_one (ps_for PassesOwn.never rfl (pi_tup (pe_slice sl_tupA (pe_ix ix_kdict (pe_glob (v := .ref aF) rfl T.mF rfl) (pv 1) (fun _ _ => rfl)) (po_some (pe_callB call_len_seq rfl Z.ln PySem.boot_len (pa_cons (pv 2) pa_nil))) po_none))
          (pg_tup rfl (pgs_cons (pg_name (i := 6) scNI.nd rfl (.inl rfl)) (pgs_cons (pg_name (i := 8) scNI.nd rfl (.inl rfl)) (pgs_cons (pg_name (i := 9) scNI.nd rfl (.inl rfl)) pgs_nil))))
          (pss_one (ps_dput (hu_of hr) (pe_fld (pv 0) rfl) (pv 6) (pe_ifExp (pt_cmp (pc_din (hu_of hr) (pv 6) (pv 3))) (pe_dget (hu_of hr) (pv 3) (pv 6) (fun _ _ => rfl))
            (pe_call D hr rfl mD kD bD .nil pass0 (pa_cons (pv 6) (pa_cons (pv 9) pa_nil)))) (by rfl))))))))))))))), ?_⟩
    refine ⟨_, rfl, kd, rs, rfl, hk, fun H1 tn ntn s1 htn => ?_⟩
    have hx1 := s1 _ _ hx
    have htp1 := s1 _ _ htp
    have hdm1 := s1 _ _ hdm
    have fr1 : ∀ b o, H b = some o → H1 b = some o := s1
    refine ⟨_, rfl, tp, _, rfl, .inr (SqT.of htp1), _, rfl, tn, _, rfl, .inr (SqT.of htn), _, _, rfl, rfl, _, rfl, ?_⟩
    have hnl : (namesOf rs).length = rs.length := by unfold namesOf; rw [List.length_map]
    refine ite2 (fun c => ?_) (fun _ => ?_)
    · have c := of_decide_eq_true c
      rw [List.length_map, hnl] at c
      omega
    refine ⟨_, rfl, _, rfl, tp, _, rfl, .inr (SqT.of htp1), _, rfl, ?_⟩
    dsimp only [tNoPart]
    refine sl_from (K := K) (SqT.of htn) (by rw [List.length_map, hnl]; exact hl) fun pm H2 s2 _ => ?_
    have I2 : Ini H C x dx tp dm tn parts (namesOf rs) [] H2 := ⟨fun b o _ e => s2 _ _ (s1 _ _ e), s2 _ _ hx1, s2 _ _ htp1, s2 _ _ hdm1, s2 _ _ htn⟩
    refine ⟨dm, .dK [], I2.hdm, trivial, fun od => ?_⟩
    refine ⟨_, rfl, dm, od, rfl, .inl ⟨[], upd_same, ?_⟩⟩
    refine for_it (g := gName 6) (tb := fun _ _ _ => False) walk_keys (fun j σ H7 => σ = [some (.ref x), some (.str kd), some (.ref tp), some (.ref dm), some (.ref tn), some (.ref pm), none, none, none, none] ∧ H7 = upd H2 dm (.frz od (.dK []))) ⟨rfl, rfl⟩ (fun j σ H7 _ ⟨_, e⟩ => by rw [e]; exact upd_same) (fun i x σ H0 H7 hi => absurd hi (Nat.not_lt_zero _)) ?_
    rintro σ H7 ⟨rfl, rfl⟩
    refine ⟨upd_same, ?_⟩
    have s3 : Same H2 (upd (upd H2 dm (.frz od (.dK []))) dm (.dK [])) := fun b o e => by
      by_cases hb : b = dm
      · rw [hb, upd_same]
        rw [hb, I2.hdm] at e
        exact e
      · rw [upd_ne hb, upd_ne hb]; exact e
    have I3 := I2.up s3
    generalize upd (upd H2 dm (.frz od (.dK []))) dm (.dK []) = H3 at I3
    refine ⟨_, rfl, _, rfl, x, C, dx, _, rfl, I3.hx, N.cl, N.n1, by show 0 < 1000; decide, ?_⟩
    have I4 := I3.fld (fs' := nf1 kd)
    rw [show putF "kind" (V.str kd) [] = nf1 kd from rfl]
    generalize upd H3 x (.ins C dx (nf1 kd)) = H4 at I4
    refine ⟨_, rfl, dm, rfl, .inl ⟨_, Rd.of I4.hdm⟩, none, DGet.k (k := Sum.inr "lineno") I4.hdm, _, rfl, x, C, dx, _, rfl, I4.hx, N.cl, N.n2, by show 1 < 1000; decide, ?_⟩
    rw [show (Option.none.getD V.non) = V.non from rfl, nf1_put]
    have I5 := I4.fld (fs' := nf2 kd)
    generalize upd H4 x (.ins C dx (nf2 kd)) = H5 at I5
    refine ⟨_, rfl, dm, rfl, .inl ⟨_, Rd.of I5.hdm⟩, none, DGet.k (k := Sum.inr "col_offset") I5.hdm, _, rfl, x, C, dx, _, rfl, I5.hx, N.cl, N.n3, by show 2 < 1000; decide, ?_⟩
    rw [show (Option.none.getD V.non) = V.non from rfl, nf2_put]
    have I6 := I5.fld (fs' := nf3 kd)
    generalize upd H5 x (.ins C dx (nf3 kd)) = H6 at I6
    refine ⟨_, rfl, dm, rfl, .inl ⟨_, Rd.of I6.hdm⟩, none, DGet.k (k := Sum.inr "end_lineno") I6.hdm, _, rfl, x, C, dx, _, rfl, I6.hx, N.cl, N.n4, by show 3 < 1000; decide, ?_⟩
    rw [show (Option.none.getD V.non) = V.non from rfl, nf3_put]
    have I7 := I6.fld (fs' := nf4 kd)
    generalize upd H6 x (.ins C dx (nf4 kd)) = H7 at I7
    refine ⟨_, rfl, dm, rfl, .inl ⟨_, Rd.of I7.hdm⟩, none, DGet.k (k := Sum.inr "end_col_offset") I7.hdm, _, rfl, x, C, dx, _, rfl, I7.hx, N.cl, N.n5, by show 4 < 1000; decide, ?_⟩
    rw [show (Option.none.getD V.non) = V.non from rfl, nf4_put]
    have I8 := I7.fld (fs' := nf5 kd)
    generalize upd H7 x (.ins C dx (nf5 kd)) = H8 at I8
    refine fun d nd => ⟨_, rfl, x, C, dx, _, rfl, (I8.up (same_new nd)).hx, N.cl, N.n6, by show 5 < 1000; decide, ?_⟩
    rw [nf5_put]
    have I9 := (I8.up (same_new (o := .dK []) nd)).fld (fs' := nodeFs kd d)
    have xd : d ≠ x := fun z => by rw [z, I8.hx] at nd; cases nd
    have hd9 : (upd (upd H8 d (.dK [])) x (.ins C dx (nodeFs kd d))) d = some (.dK []) := by rw [upd_ne xd]; exact upd_same
    generalize upd (upd H8 d (.dK [])) x (.ins C dx (nodeFs kd d)) = H9 at I9 hd9
    have ndH : H d = none := by
      cases z : H d with
      | none => rfl
      | some o => rw [I8.kp d o xd z] at nd; cases nd
    have dtp : tp ≠ d := fun z => by have := I9.htp; rw [z, hd9] at this; cases this
    have dtn : tn ≠ d := fun z => by have := I9.htn; rw [z, hd9] at this; cases this
    have ddm : dm ≠ d := fun z => by have := I8.hdm; rw [z, nd] at this; cases this
    have hnd := rows_nodup hk
    have hs7 := rows_small hk
    have sL : (1000 : Nat) < sizeLine := by decide
    refine ⟨_, rfl, _, rfl, tn, tp, _, _, rfl, .inr ⟨SqT.of I9.htn, SqT.of I9.htp, ?_⟩⟩
    refine for_it (walk_zipT (xs := (namesOf rs).map V.str) (ys := parts) (n := parts.length) (by rw [List.length_map, hnl]; omega)) (fun i σ H10 => ∃ x6 x7, σ = [some (.ref x), some (.str kd), some (.ref tp), some (.ref dm), some (.ref tn), some (.ref pm), x6, x7, none, none] ∧ (∀ b o, b ≠ d → H9 b = some o → H10 b = some o) ∧ H10 d = some (.dK (fkv (namesOf rs) (parts.take i))))
      ⟨none, none, rfl, fun b o _ e => e, ?_⟩ (fun i σ H10 _ ⟨_, _, _, k10, _⟩ => ⟨SqT.of (k10 _ _ dtn I9.htn), SqT.of (k10 _ _ dtp I9.htp)⟩) ?_ ?_
    · rw [hd9, List.take_zero]
      cases namesOf rs <;> rfl
    · rintro i v σ H10 H11 hi ⟨x6, x7, rfl, k10, h10⟩ ⟨Tp, y1, y2, rfl, nT, rfl, hy1, hy2⟩
      have hy1 : ((namesOf rs).map V.str)[i]? = some y1 := hy1
      have hy2 : parts[i]? = some y2 := hy2
      obtain ⟨nm, hnm, rfl⟩ : ∃ nm, (namesOf rs)[i]? = some nm ∧ y1 = .str nm := by
        rw [List.getElem?_map] at hy1
        cases z : (namesOf rs)[i]? with
        | none => rw [z] at hy1; cases hy1
        | some nm => rw [z] at hy1; cases hy1; exact ⟨nm, rfl, rfl⟩
      have Td : Tp ≠ d := fun z => by rw [z, h10] at nT; cases nT
      refine ⟨Tp, [.str nm, y2], rfl, SqT.of upd_same, rfl, _, _, rfl, _, _, rfl, rfl, ?_⟩
      have hx11 : (upd H10 Tp (.tup [.str nm, y2])) x = some (.ins C dx (nodeFs kd d)) := same_new nT _ _ (k10 _ _ xd.symm I9.hx)
      have hd11 : (upd H10 Tp (.tup [.str nm, y2])) d = some (.dK (fkv (namesOf rs) (parts.take i))) := same_new nT _ _ h10
      have ltk : (parts.take i).length = i := by rw [List.length_take]; omega
      have hsz : (fkv (namesOf rs) (parts.take i)).length < sizeLine := by
        rw [fkv_len (by rw [ltk, hnl]; omega), ltk]
        omega
      refine ⟨_, rfl, _, rfl, x, C, dx, _, .ref d, rfl, hx11, N.cl, N.n6, rfl, _, rfl, d, _, rfl, DPut.k (k := Sum.inr nm) hd11 hsz, _, _, rfl, ?_, ?_⟩
      · intro b o nb e
        rw [upd_ne nb]
        exact same_new nT _ _ (k10 _ _ nb e)
      · rw [upd_same, fkv_snoc hnd (by rw [ltk]; exact hnm)]
        rw [List.take_succ, hy2]
        rfl
    · rintro σ H10 ⟨x6, x7, rfl, k10, h10⟩
      rw [List.take_length] at h10
      obtain ⟨a, ha, as, hs, hla, hp⟩ := fldIs_at T.oF hk
      refine ⟨_, rfl, aF, kd, .ref a, rfl, rfl, T.kd ha, _, rfl, tp, _, rfl, .inr (SqT.of (k10 _ _ dtp I9.htp)), _, rfl, ?_⟩
      dsimp only [tNoPart]
      refine sl_from (K := K) (hs _) (by rw [List.length_map, hla]; exact hl) fun pr H11 s11 hpr => ?_
      refine ⟨pr, rfl, ⟨_, hpr⟩, ?_⟩
      have k11 : ∀ b o, b ≠ d → H9 b = some o → H11 b = some o := fun b o nb e => s11 _ _ (k10 b o nb e)
      have hx11 : H11 x = some (.ins C dx (nodeFs kd d)) := k11 _ _ xd.symm I9.hx
      have hdm11 : H11 dm = some (.dK []) := k11 _ _ ddm I9.hdm
      have hd11 := s11 _ _ h10
      have prd : ∀ {H' : Hp}, (∀ b o, b ≠ d → H11 b = some o → H' b = some o) → SqT K H' pr ((as.map V.ref).drop parts.length) := fun {H'} kk => by
        rcases hpr with (hpr | ⟨o, hpr⟩) | hpr
        · exact .inl (.inl (kk _ _ (fun z => by rw [z, hd11] at hpr; cases hpr) hpr))
        · exact .inl (.inr ⟨o, kk _ _ (fun z => by rw [z, hd11] at hpr; cases hpr) hpr⟩)
        · exact .inr hpr
      refine for_tup (D := { nx := fun _ H' => Q .non H', rt := Q }) (K := K) (a := pr) (xs := (as.map V.ref).drop parts.length) (fun i σ H12 => ∃ x6 x7 x8 x9 ds, σ = [some (.ref x), some (.str kd), some (.ref tp), some (.ref dm), some (.ref tn), some (.ref pm), x6, x7, x8, x9] ∧ (∀ b o, b ≠ d → H11 b = some o → H12 b = some o) ∧ ds.length = i ∧ H12 d = some (.dK (fkv (namesOf rs) (parts ++ ds))) ∧
          ∀ (j : Nat) v r, ds[j]? = some v → rs[parts.length + j]? = some r → DefV C H11 H12 r.1 r.2.2 v) ⟨x6, x7, none, none, [], rfl, fun b o _ e => e, rfl, by rw [List.append_nil]; exact hd11, fun j v r g => by simp at g⟩ (fun i σ H12 _ ⟨_, _, _, _, _, _, k12, _⟩ => prd k12) ?_ ?_
      · rintro i v σ H12 hv ⟨y6, y7, y8, y9, ds, rfl, k12, rfl, h12, df12⟩
        rw [List.getElem?_drop, List.getElem?_map] at hv
        obtain ⟨b, hb, rfl⟩ : ∃ b, as[parts.length + ds.length]? = some b ∧ v = .ref b := by
          cases z : as[parts.length + ds.length]? with
          | none => rw [z] at hv; cases hv
          | some b => rw [z] at hv; cases hv; exact ⟨b, rfl, rfl⟩
        have hi : parts.length + ds.length < rs.length := by
          rcases Nat.lt_or_ge (parts.length + ds.length) as.length with z | z
          · omega
          · rw [List.getElem?_eq_none z] at hb; cases hb
        obtain ⟨r, hr'⟩ : ∃ r, rs[parts.length + ds.length]? = some r := ⟨_, List.getElem?_eq_getElem hi⟩
        have n1 : n = 1 := by
          rcases hn with z | z
          · exact z
          · rw [z] at hi; exact absurd hi (Nat.not_lt_zero _)
        have hx12 := k12 _ _ xd.symm hx11
        have hdm12 := k12 _ _ ddm hdm11
        have hnm : (namesOf rs)[(parts ++ ds).length]? = some r.1 := by
          unfold namesOf
          rw [List.getElem?_map, List.length_append, hr']
          rfl
        have hll : (parts ++ ds).length < (namesOf rs).length := by rw [List.length_append, hnl]; exact hi
        refine ⟨b, [.str r.1, .str r.2.1, .str r.2.2], rfl, hp _ b r hb hr' H12, rfl, _, _, rfl, _, _, rfl, _, _, rfl, rfl, ?_⟩
        refine ⟨_, rfl, _, rfl, dm, _, rfl, DGet.k (k := Sum.inr r.1) hdm12, _, rfl, iteF ?_⟩
        refine ⟨_, rfl, _, rfl, r.1, r.2.2, rfl, n1, fun H13 v s13 dv => ?_⟩
        have h13 := s13 _ _ h12
        have hsz : (fkv (namesOf rs) (parts ++ ds)).length < sizeLine := by
          rw [fkv_len (Nat.le_of_lt hll)]
          omega
        refine ⟨_, rfl, x, C, dx, _, .ref d, rfl, s13 _ _ hx12, N.cl, N.n6, rfl, _, rfl, d, _, rfl, DPut.k (k := Sum.inr r.1) h13 hsz, _, _, _, _, ds ++ [v], rfl, ?_, ?_, ?_, ?_⟩
        · intro c o nc e
          rw [upd_ne nc]
          exact s13 _ _ (k12 c o nc e)
        · rw [List.length_append]; rfl
        · rw [upd_same, fkv_snoc hnd hnm, List.append_assoc]
        · intro j u r2 g1 g2
          have key : ∀ {c : Addr} {o : HO}, H11 c = none → ∀ {H' : Hp}, H' c = some o → (upd H' d (.dK (putK (fkv (namesOf rs) (parts ++ ds)) (.inr r.1) v))) c = some o := fun {c o} n0 {H'} e => by
            rw [upd_ne (fun z => by rw [z, hd11] at n0; cases n0)]; exact e
          by_cases hj : j < ds.length
          · rw [List.getElem?_append_left hj] at g1
            exact (df12 j u r2 g1 g2).mono (fun _ z => z) fun c o n0 e => key n0 (s13 _ _ e)
          · have lj : j < (ds ++ [v]).length := by
              rcases Nat.lt_or_ge j (ds ++ [v]).length with z | z
              · exact z
              · rw [List.getElem?_eq_none z] at g1; cases g1
            rw [List.length_append, List.length_singleton] at lj
            have ej : j = ds.length := by omega
            subst ej
            rw [List.getElem?_append_right (Nat.le_refl _), Nat.sub_self] at g1
            cases g1
            rw [hr'] at g2
            cases g2
            refine dv.mono (fun c n0 => ?_) fun c o n0 e => ?_
            · cases z : H11 c with
              | none => rfl
              | some o =>
                by_cases hc : c = d
                · rw [hc, h12] at n0; cases n0
                · rw [k12 c o hc z] at n0; cases n0
            · rw [upd_ne (fun z => by rw [z, h12] at n0; cases n0)]; exact e
      · rintro σ H12 ⟨y6, y7, y8, y9, ds, rfl, k12, hdl, h12, df12⟩
        rw [List.length_drop, List.length_map, hla] at hdl
        have kX : ∀ b o, b ≠ x → H b = some o → H12 b = some o := fun b o nb e => by
          have hb : b ≠ d := fun z => by rw [z, ndH] at e; cases e
          exact k12 b o hb (k11 b o hb (I9.kp b o nb e))
        refine q H12 d ds kX ndH (k12 _ _ xd.symm hx11) h12 (by rw [List.length_append, hdl]; omega) fun j v r g1 g2 => (df12 j v r g1 g2).mono (fun c n0 => ?_) fun c o n0 e => e
        cases z : H c with
        | none => rfl
        | some o =>
          by_cases hc : c = x
          · rw [hc, hx11] at n0; cases n0
          · have hb : c ≠ d := fun z' => by rw [z', ndH] at z; cases z
            rw [k11 c o hb (I9.kp c o hc z)] at n0; cases n0
  obtain ⟨t, h1, h2⟩ := main
  exact ⟨t, h1.nox, h2⟩
end
end K5

namespace K5
open PySem PySem.Spec PyProof.Rows L2 StX RZ
/-! ### what a value is, as far as isinstance asks -/
inductive Kv where
  | non | bl (b : Bool) | int (i : Int) | str (x : Str) | lst (xs : List V) | tup | node (k : Str) (d : Addr) | val (j : Nat)
inductive KvAt (C : Addr) (Cs : Nat → Addr) (H : Hp) : V → Kv → Prop where
  | non : KvAt C Cs H .non .non
  | bl (b : Bool) : KvAt C Cs H (.bl b) (.bl b)
  | int (i : Int) : KvAt C Cs H (.int i) (.int i)
  | str (x : Str) (hx : x.length ≤ 1000) : KvAt C Cs H (.str x) (.str x)
  | lst {a : Addr} {xs : List V} (h : H a = some (.lst xs)) (hl : xs.length ≤ 1000) : KvAt C Cs H (.ref a) (.lst xs)
  | tup {a : Addr} {xs : List V} (h : H a = some (.tup xs)) : KvAt C Cs H (.ref a) .tup
  | node {a dx d : Addr} {k : Str} (h : H a = some (.ins C dx (nodeFs k d))) : KvAt C Cs H (.ref a) (.node k d)
  | val {a dx : Addr} {j : Nat} {fs : List (Str × V)} (hj : j < 4) (h : H a = some (.ins (Cs j) dx fs)) : KvAt C Cs H (.ref a) (.val j)
theorem KvAt.up {C : Addr} {Cs : Nat → Addr} {H H' : Hp} {v : V} {kv : Kv} (h : KvAt C Cs H v kv) (s : Same H H') : KvAt C Cs H' v kv := by
  cases h with
  | non => exact .non
  | bl b => exact .bl b
  | int i => exact .int i
  | str x hx => exact .str x hx
  | lst h hl => exact .lst (s _ _ h) hl
  | tup h => exact .tup (s _ _ h)
  | node h => exact .node (s _ _ h)
  | val hj h => exact .val hj (s _ _ h)
def tyv (C : Addr) (Cs : Nat → Addr) : Kv → Value
  | .non => .type "NoneType" | .bl _ => .type "bool" | .int _ => .type "int" | .str _ => .type "str" | .lst _ => .type "list" | .tup => .type "tuple" | .node _ _ => .ref C | .val j => .ref (Cs j)
def tys (C : Addr) (Cs : Nat → Addr) : List Value := [.type "NoneType", .type "bool", .type "int", .type "str", .type "list", .type "tuple", .ref C, .ref (Cs 0), .ref (Cs 1), .ref (Cs 2), .ref (Cs 3)]
def clss (C : Addr) (Cs : Nat → Addr) : List Value := [.type "int", .type "bool", .type "str", .type "list", .ref C, .ref (Cs 0), .ref (Cs 1), .ref (Cs 2), .ref (Cs 3)]
def isOf (t c : Value) : Bool := t == c || (t == .type "bool" && c == .type "int")
/-- what the written part says of the classes -/
structure Kits (K : PySem.W.Frag) (C : Addr) (Cs : Nat → Addr) : Prop where
  tab : ((tys C Cs).all fun t => (clss C Cs).all fun c => PySem.W.kitOne K t c == some (isOf t c)) = true
  cl : Cls K C
  cl4 : ∀ j, j < 4 → Cls K (Cs j)
  ha : PySem.W.findIn K (.ref C) "__class__" = some (some (.builtin "object.__class__"))
  ha4 : ∀ j, j < 4 → PySem.W.findIn K (.ref (Cs j)) "__class__" = some (some (.builtin "object.__class__"))
  hn : PySem.W.specialIn K (.builtin "object.__class__") "__get__" = some (some (.builtin "getset_descriptor.__get__"))
  htk : PySem.W.takesIn K (.builtin "object.__class__") = some true
  hm : PySem.W.mroIn K C (.type "object") = some true
  hm4 : ∀ j, j < 4 → PySem.W.mroIn K (Cs j) (.type "object") = some true
  ne : ∀ j, j < 4 → Cs j ≠ C
  inj : ∀ i j, i < 4 → j < 4 → Cs i = Cs j → i = j
section
variable {K : PySem.W.Frag} {C : Addr} {Cs : Nat → Addr} {H : Hp} {v : V} {kv : Kv}
theorem KvAt.ty (S : Kits K C Cs) (h : KvAt C Cs H v kv) : TyX K H v (tyv C Cs kv) := by
  cases h with
  | non => exact .base .non
  | bl b => exact .base (.bl b)
  | int i => exact .base (.int i)
  | str x hx => exact .base (.str x)
  | lst h hl => exact .base (.lst h)
  | tup h => exact .base (.tup h)
  | node h => exact .base (.ins h S.cl S.ha S.hn S.htk S.hm)
  | val hj h => exact .base (.ins h (S.cl4 _ hj) (S.ha4 _ hj) S.hn S.htk (S.hm4 _ hj))
theorem KvAt.mem (h : KvAt C Cs H v kv) : tyv C Cs kv ∈ tys C Cs := by
  cases h with
  | @val a dx j fs hj h =>
    rcases j with _ | _ | _ | _ | j
    · simp [tyv, tys]
    · simp [tyv, tys]
    · simp [tyv, tys]
    · simp [tyv, tys]
    · omega
  | _ => simp [tyv, tys]
theorem KvAt.kit (S : Kits K C Cs) (h : KvAt C Cs H v kv) {c : Value} (hc : c ∈ clss C Cs) : PySem.W.kitOne K (tyv C Cs kv) c = some (isOf (tyv C Cs kv) c) :=
  beq_iff_eq.mp (List.all_eq_true.mp (List.all_eq_true.mp S.tab _ h.mem) _ hc)
theorem refN {a : Addr} {s : String} : ((Value.ref a) == (Value.type s)) = false := by simp
theorem refN' {a : Addr} {s : String} : ((Value.type s) == (Value.ref a)) = false := by simp
theorem refR (a b : Addr) : ((Value.ref a) == (Value.ref b)) = decide (a = b) := by
  by_cases h : a = b
  · rw [h]; simp
  · rw [decide_eq_false h]; simp [h]
def isInt : Kv → Bool | .int _ => true | .bl _ => true | _ => false
def isBool : Kv → Bool | .bl _ => true | _ => false
def isStr : Kv → Bool | .str _ => true | _ => false
def isLst : Kv → Bool | .lst _ => true | _ => false
def isNode : Kv → Bool | .node _ _ => true | _ => false
def isVal : Kv → Bool | .val _ => true | _ => false
theorem tyB (a b : String) : ((Value.type a) == (Value.type b)) = decide (a = b) := by
  by_cases h : a = b
  · rw [h]; simp
  · rw [decide_eq_false h]; simp [h]
theorem kit_int (S : Kits K C Cs) (h : KvAt C Cs H v kv) : PySem.W.kitOne K (tyv C Cs kv) (.type "int") = some (isInt kv) := by
  rw [h.kit S (by simp [clss])]
  cases kv <;> simp [isOf, tyv, isInt, tyB, refN]
theorem kit_bool (S : Kits K C Cs) (h : KvAt C Cs H v kv) : PySem.W.kitOne K (tyv C Cs kv) (.type "bool") = some (isBool kv) := by
  rw [h.kit S (by simp [clss])]
  cases kv <;> simp [isOf, tyv, isBool, tyB, refN]
theorem kit_str (S : Kits K C Cs) (h : KvAt C Cs H v kv) : PySem.W.kitOne K (tyv C Cs kv) (.type "str") = some (isStr kv) := by
  rw [h.kit S (by simp [clss])]
  cases kv <;> simp [isOf, tyv, isStr, tyB, refN]
theorem kit_list (S : Kits K C Cs) (h : KvAt C Cs H v kv) : PySem.W.kitOne K (tyv C Cs kv) (.type "list") = some (isLst kv) := by
  rw [h.kit S (by simp [clss])]
  cases kv <;> simp [isOf, tyv, isLst, tyB, refN]
theorem kit_node (S : Kits K C Cs) (h : KvAt C Cs H v kv) : PySem.W.kitOne K (tyv C Cs kv) (.ref C) = some (isNode kv) := by
  rw [h.kit S (by simp [clss])]
  cases h with
  | val hj h => simp [isOf, tyv, isNode, S.ne _ hj]
  | _ => simp [isOf, tyv, isNode]
theorem kit_val (S : Kits K C Cs) (h : KvAt C Cs H v kv) {j : Nat} (hj : j < 4) : PySem.W.kitOne K (tyv C Cs kv) (.ref (Cs j)) = some (match kv with | .val i => decide (i = j) | _ => false) := by
  have hm : Value.ref (Cs j) ∈ clss C Cs := by
    rcases j with _ | _ | _ | _ | j
    · simp [clss]
    · simp [clss]
    · simp [clss]
    · simp [clss]
    · omega
  rw [h.kit S hm]
  cases h with
  | @val a dx i fs hi h =>
    by_cases e : i = j
    · subst e; simp [isOf, tyv]
    · have z : Cs i ≠ Cs j := fun z => e (S.inj i j hi hj z)
      simp [isOf, tyv, z, e]
  | node h => simp [isOf, tyv, (S.ne _ hj).symm]
  | _ => simp [isOf, tyv]
/-- isinstance(x, (str, Dots, Float, Imaginary, Octets)) -/
theorem kit_five (S : Kits K C Cs) (h : KvAt C Cs H v kv) : PySem.W.kitAny K (tyv C Cs kv) [.type "str", .ref (Cs 0), .ref (Cs 1), .ref (Cs 2), .ref (Cs 3)] = some (isStr kv || isVal kv) := by
  refine kitAny_cons (kit_str S h) (fun h0 => ?_) fun h0 => by rw [h0]; rfl
  refine kitAny_cons (kit_val S h (j := 0) (by decide)) (fun h1 => ?_) fun h1 => ?_
  · refine kitAny_cons (kit_val S h (j := 1) (by decide)) (fun h2 => ?_) fun h2 => ?_
    · refine kitAny_cons (kit_val S h (j := 2) (by decide)) (fun h3 => ?_) fun h3 => ?_
      · refine kitAny_cons (kit_val S h (j := 3) (by decide)) (fun h4 => ?_) fun h4 => ?_
        · rw [kitAny_nil]
          congr 1
          rw [h0]
          cases h with
          | @val a dx i fs hi h =>
            simp at h1 h2 h3 h4
            omega
          | _ => rfl
        · cases kv <;> first | rfl | simp at h4
      · cases kv <;> first | rfl | simp at h3
    · cases kv <;> first | rfl | simp at h2
  · cases kv <;> first | rfl | simp at h1
end
end K5

namespace K5
open PySem PySem.Spec PyProof.Rows L2 StX RZ
/-! ### the program's checks of plain values -/
abbrev sC (i : Nat) : Stmt := topS (13 + i)
theorem scC0 : FnScope ["thing"] ["thing"] (defScope (sC 0)) := ⟨rfl, rfl, rfl, by decide +kernel, rfl, by decide +kernel, by decide +kernel⟩
theorem scC1 : FnScope ["thing"] ["thing"] (defScope (sC 1)) := ⟨rfl, rfl, rfl, by decide +kernel, rfl, by decide +kernel, by decide +kernel⟩
theorem scC2 : FnScope ["thing"] ["thing"] (defScope (sC 2)) := ⟨rfl, rfl, rfl, by decide +kernel, rfl, by decide +kernel, by decide +kernel⟩
theorem scC3 : FnScope ["thing"] ["thing"] (defScope (sC 3)) := ⟨rfl, rfl, rfl, by decide +kernel, rfl, by decide +kernel, by decide +kernel⟩
theorem scC4 : FnScope ["thing"] ["thing"] (defScope (sC 4)) := ⟨rfl, rfl, rfl, by decide +kernel, rfl, by decide +kernel, by decide +kernel⟩
theorem scC5 : FnScope ["thing", "part"] ["thing"] (defScope (sC 5)) := ⟨rfl, rfl, rfl, by decide +kernel, rfl, by decide +kernel, by decide +kernel⟩
theorem scC6 : FnScope ["thing"] ["thing"] (defScope (sC 6)) := ⟨rfl, rfl, rfl, by decide +kernel, rfl, by decide +kernel, by decide +kernel⟩
theorem scC7 : FnScope ["thing"] ["thing"] (defScope (sC 7)) := ⟨rfl, rfl, rfl, by decide +kernel, rfl, by decide +kernel, by decide +kernel⟩
theorem scC8 : FnScope ["thing"] ["thing"] (defScope (sC 8)) := ⟨rfl, rfl, rfl, by decide +kernel, rfl, by decide +kernel, by decide +kernel⟩
def isNm (x : Str) : Bool := Txt.isascii x && Txt.isidentifier x
def isDt (x : Str) : Bool := (Txt.split x ".").all isNm
def cInt : Kv → Bool | .int _ => true | _ => false
def cBit : Kv → Bool | .int i => decide (i = 0) || decide (i = 1) | _ => false
def cCnt : Kv → Bool | .int i => decide (0 ≤ i) | _ => false
def cCnv : Kv → Bool | .int i => decide (i = -1) || (decide (i = 97) || (decide (i = 114) || decide (i = 115))) | _ => false
def cNam : Kv → Bool | .str x => isNm x | _ => false
def cDot : Kv → Bool | .str x => isDt x | _ => false
def cStr : Kv → Bool | .str x => isDt x || decide (x = "*") | _ => false
def cSng : Kv → Bool | .non => true | .bl _ => true | _ => false
def cVal : Kv → Bool | .non => true | .bl _ => true | .int i => decide (0 ≤ i) | .str _ => true | .val _ => true | _ => false
def spK (C : Addr) (Cs : Nat → Addr) (f : Kv → Bool) : Sp := fun vs H Q _ => ∃ (v : V) (kv : Kv), vs = [v] ∧ KvAt C Cs H v kv ∧ ∀ H', Same H H' → Q (.bl (f kv)) H'
theorem op_isB {X : Cx} : OpR X (compareOp .Is) (fun x y H Q => ∃ b, y = .bl b ∧ Q (.bl (decide (x = .bl b))) H) := by
  intro pins s σ H x y v u Q I rx ry h
  obtain ⟨b, rfl, q⟩ := h
  cases (show u = Value.bool b from ry)
  cases x with
  | bl a =>
    cases (show v = Value.bool a from rx)
    by_cases e : a = b
    · subst e
      exact wpAny_is_self rfl ⟨.bl true, H, I, rfl, by simpa using q⟩
    · exact wpAny_is_other rfl (fun z => e (Value.bool.inj z)) ⟨.bl false, H, I, rfl, by simpa [e] using q⟩
  | non =>
    cases rx
    exact wpAny_is_other rfl (fun z => by cases z) ⟨.bl false, H, I, rfl, q⟩
  | int i =>
    obtain ⟨t, rfl⟩ := rx
    exact wpAny_is_other rfl (fun z => by cases z) ⟨.bl false, H, I, rfl, q⟩
  | str i =>
    obtain ⟨t, rfl⟩ := rx
    exact wpAny_is_other rfl (fun z => by cases z) ⟨.bl false, H, I, rfl, q⟩
  | byt i =>
    obtain ⟨t, rfl⟩ := rx
    exact wpAny_is_other rfl (fun z => by cases z) ⟨.bl false, H, I, rfl, q⟩
  | flt i =>
    obtain ⟨t, rfl⟩ := rx
    exact wpAny_is_other rfl (fun z => by cases z) ⟨.bl false, H, I, rfl, q⟩
  | ref i =>
    cases rx
    exact wpAny_is_other rfl (fun z => by cases z) ⟨.bl false, H, I, rfl, q⟩
  | ty i =>
    cases rx
    exact wpAny_is_other rfl (fun z => by cases z) ⟨.bl false, H, I, rfl, q⟩
theorem mt_isid {X : Cx} : MtR X "str.isidentifier" (fun x xs H Q => ∃ a, x = .str a ∧ xs = [] ∧ True ∧ Q (.bl (Txt.isidentifier a)) H) :=
  mt0 (C := fun _ => True) (g := fun a => .bl (Txt.isidentifier a)) fun _ _ s _ _ h => PySem.SC.isidentifier (h _ s.toks rfl)
section
variable {P : Program} {w : World} {K : PySem.W.Frag} {mg : Str → Option Value} {base : Heap} {C : Addr} {Cs : Nat → Addr}
theorem len_K {vs : List V} {H : Hp} {Q : VK} {E : XK} {f : Kv → Bool} (h : spK C Cs f vs H Q E) : vs.length = (["thing"] : List Str).length := by
  obtain ⟨v, kv, rfl, _⟩ := h
  rfl
theorem ok_int {f : Addr} {fd : FuncData} (F : Fun K "is_int" "is_int" (sC 0) f fd) (Z : Blt mg) (S : Kits K C Cs) : FnOk P w K mg base CX0 1 f fd ["thing"] (spK C Cs cInt) := by
  refine F.ok scC0 (fun vs H Q E h => len_K h) (fun cdv A outer s H vs Q E hr h => ?_)
  obtain ⟨v, kv, rfl, hv, q⟩ := h
  refine ⟨_, pss_one (ps_ret (pe_and (pe_callB call_isi (by rfl) Z.isI (by decide +kernel) (pa_cons (pv 0) (pa_cons (pe_bltn (v := .ty "int") (by rfl) Z.it (by decide +kernel) rfl) pa_nil)))
    (pe_one (pe_not (pe_callB call_isi (by rfl) Z.isI (by decide +kernel) (pa_cons (pv 0) (pa_cons (pe_bltn (v := .ty "bool") (by rfl) Z.bo (by decide +kernel) rfl) pa_nil))))))), ?_⟩
  refine ⟨_, rfl, v, .ty "int", _, _, _, rfl, .ty _, hv.ty S, kit_int S hv, _, rfl, ?_⟩
  refine ite2 (fun c => ?_) (fun c => ?_)
  · refine ⟨_, rfl, v, .ty "bool", _, _, _, rfl, .ty _, hv.ty S, kit_bool S hv, _, rfl, ?_⟩
    have e : (!isBool kv) = cInt kv := by cases kv <;> first | rfl | cases c
    rw [e]
    exact q H (Same.refl H)
  · have e : false = cInt kv := by cases kv <;> first | rfl | exact absurd rfl c
    rw [e]
    exact q H (Same.refl H)
theorem ok_bit {f fI : Addr} {fd dI : FuncData} (F : Fun K "is_bit" "is_bit" (sC 1) f fd) (I : FnOk P w K mg base CX0 1 fI dI ["thing"] (spK C Cs cInt)) (bI : Binds K dI ["thing"] []) (kI : PySem.W.keepIn K (.ref fI) = true) (mI : mg "is_int" = some (.ref fI)) :
    FnOk P w K mg base CX0 2 f fd ["thing"] (spK C Cs cBit) := by
  refine F.ok scC1 (fun vs H Q E h => len_K h) (fun cdv A outer s H vs Q E hr h => ?_)
  obtain ⟨v, kv, rfl, hv, q⟩ := h
  refine ⟨_, pss_one (ps_ret (pe_and (pe_call I hr rfl mI kI bI .nil pass0 (pa_cons (pv 0) pa_nil)) (pe_one (pe_cmpR op_in_seq (pv 0) (pe_tup (pa_cons pe_int (pa_cons pe_int pa_nil))) (by rfl))))), ?_⟩
  refine ⟨_, rfl, v, kv, rfl, hv, fun H1 s1 => ⟨_, rfl, ?_⟩⟩
  refine ite2 (fun c => ?_) (fun c => ?_)
  · cases hv <;> first | cases c | skip
    rename_i i
    refine ⟨_, rfl, by show 2 ≤ sizeLine; decide, fun t nt => ⟨t, [.int 0, .int 1], rfl, .inr (SqT.of upd_same), rfl, rfl, ?_⟩⟩
    have e : inV (.int i) [.int 0, .int 1] = cBit (.int i) := by
      unfold inV cBit
      simp [eqV]
      by_cases h0 : i = 0
      · subst h0; simp
      · by_cases h1 : i = 1
        · subst h1; simp
        · simp [h0, h1, Ne.symm h0, Ne.symm h1]
    rw [if_neg (by decide), e]
    exact q _ (s1.trans (same_new nt))
  · have e : false = cBit kv := by cases kv <;> first | rfl | exact absurd rfl c
    rw [e]
    exact q H1 s1
theorem ok_cnt {f fI : Addr} {fd dI : FuncData} (F : Fun K "is_count" "is_count" (sC 2) f fd) (I : FnOk P w K mg base CX0 1 fI dI ["thing"] (spK C Cs cInt)) (bI : Binds K dI ["thing"] []) (kI : PySem.W.keepIn K (.ref fI) = true) (mI : mg "is_int" = some (.ref fI)) :
    FnOk P w K mg base CX0 2 f fd ["thing"] (spK C Cs cCnt) := by
  refine F.ok scC2 (fun vs H Q E h => len_K h) (fun cdv A outer s H vs Q E hr h => ?_)
  obtain ⟨v, kv, rfl, hv, q⟩ := h
  refine ⟨_, pss_one (ps_ret (pe_and (pe_call I hr rfl mI kI bI .nil pass0 (pa_cons (pv 0) pa_nil)) (pe_one (pe_cmpR op_ge (pv 0) pe_int (nomark _))))), ?_⟩
  refine ⟨_, rfl, v, kv, rfl, hv, fun H1 s1 => ⟨_, rfl, ?_⟩⟩
  refine ite2 (fun c => ?_) (fun c => ?_)
  · cases hv <;> first | cases c | skip
    rename_i i
    refine ⟨_, rfl, _, _, rfl, rfl, ?_⟩
    exact q H1 s1
  · have e : false = cCnt kv := by cases kv <;> first | rfl | exact absurd rfl c
    rw [e]
    exact q H1 s1
theorem ok_cnv {f fI : Addr} {fd dI : FuncData} (F : Fun K "is_conversion" "is_conversion" (sC 3) f fd) (I : FnOk P w K mg base CX0 1 fI dI ["thing"] (spK C Cs cInt)) (bI : Binds K dI ["thing"] []) (kI : PySem.W.keepIn K (.ref fI) = true) (mI : mg "is_int" = some (.ref fI)) :
    FnOk P w K mg base CX0 2 f fd ["thing"] (spK C Cs cCnv) := by
  refine F.ok scC3 (fun vs H Q E h => len_K h) (fun cdv A outer s H vs Q E hr h => ?_)
  obtain ⟨v, kv, rfl, hv, q⟩ := h
  refine ⟨_, pss_one (ps_ret (pe_and (pe_call I hr rfl mI kI bI .nil pass0 (pa_cons (pv 0) pa_nil)) (pe_one (pe_cmpR op_in_seq (pv 0) (pe_tup (pa_cons (pe_un un_neg pe_int) (pa_cons pe_int (pa_cons pe_int (pa_cons pe_int pa_nil))))) (by rfl))))), ?_⟩
  refine ⟨_, rfl, v, kv, rfl, hv, fun H1 s1 => ⟨_, rfl, ?_⟩⟩
  refine ite2 (fun c => ?_) (fun c => ?_)
  · cases hv <;> first | cases c | skip
    rename_i i
    refine ⟨_, rfl, _, rfl, by show 4 ≤ sizeLine; decide, fun t nt => ⟨t, [.int (-1), .int 97, .int 114, .int 115], rfl, .inr (SqT.of upd_same), rfl, rfl, ?_⟩⟩
    have e : inV (.int i) [.int (-1), .int 97, .int 114, .int 115] = cCnv (.int i) := by
      have z : ∀ j : Int, eqV (.int j) (.int i) = decide (i = j) := fun j => by
        unfold eqV
        by_cases h : i = j
        · subst h; simp
        · simp [h, Ne.symm h]
      unfold inV cCnv
      simp only [List.any_cons, List.any_nil, z, Bool.or_false]
    rw [if_neg (by decide), e]
    exact q _ (s1.trans (same_new nt))
  · have e : false = cCnv kv := by cases kv <;> first | rfl | exact absurd rfl c
    rw [e]
    exact q H1 s1
end
end K5

namespace K5
open PySem PySem.Spec PyProof.Rows L2 StX RZ TL
theorem spl_piece (S : List Nat) : ∀ (L : List Nat) (k : Nat) (acc : List Nat), ∀ p ∈ spl S k acc L, p.length ≤ acc.length + L.length
  | [], k, acc, p, h => by
    rw [spl_nil] at h
    rw [List.mem_singleton.mp h]
    exact Nat.le_add_right _ _
  | c :: r, 0, acc, p, h => by
    cases hp : pre S (c :: r) with
    | true =>
      rw [spl_hit hp] at h
      rcases List.mem_cons.mp h with e | h
      · rw [e]; exact Nat.le_add_right _ _
      · have := spl_piece S r _ _ p h
        simp only [List.length_nil, List.length_cons] at this ⊢
        omega
    | false =>
      rw [spl_miss hp] at h
      have := spl_piece S r _ _ p h
      simp only [List.length_append, List.length_cons, List.length_nil] at this ⊢
      omega
  | c :: r, k + 1, acc, p, h => by
    have := spl_piece S r k acc p h
    simp only [List.length_cons] at this ⊢
    omega
theorem split_len (x : Str) : (Txt.split x ".").length ≤ x.length + 2 := PyProof.Rows.split_le x "."
theorem split_piece {x p : Str} (h : p ∈ Txt.split x ".") : p.length ≤ x.length := by
  have hk : ¬ Builtin.Str.strKind x < Builtin.Str.strKind "." := by
    have e1 : Builtin.Str.strKind "." = 1 := by decide +kernel
    have e2 := strKind_pos x
    rw [e1]
    omega
  have e := split_spl x "." (by decide +kernel) hk
  have hm : tl p ∈ (Txt.split x ".").map tl := List.mem_map.mpr ⟨p, h, rfl⟩
  rw [e] at hm
  have := spl_piece _ _ _ _ _ hm
  simp only [List.length_nil, Nat.zero_add] at this
  exact this
section
variable {P : Program} {w : World} {K : PySem.W.Frag} {mg : Str → Option Value} {base : Heap} {C : Addr} {Cs : Nat → Addr}
theorem ok_nam {f : Addr} {fd : FuncData} (F : Fun K "is_name" "is_name" (sC 4) f fd) (Z : Blt mg) (S : Kits K C Cs) : FnOk P w K mg base CX0 1 f fd ["thing"] (spK C Cs cNam) := by
  refine F.ok scC4 (fun vs H Q E h => len_K h) (fun cdv A outer s H vs Q E hr h => ?_)
  obtain ⟨v, kv, rfl, hv, q⟩ := h
  refine ⟨_, pss_one (ps_ret (pe_and (pe_callB call_isi (by rfl) Z.isI (by decide +kernel) (pa_cons (pv 0) (pa_cons (pe_bltn (v := .ty "str") (by rfl) Z.st (by decide +kernel) rfl) pa_nil)))
    (pe_and (pe_m0 PySem.F.slot_str_isascii PySem.F.type_str_isascii mt_isascii (pv 0)) (pe_one (pe_m0 PySem.F.slot_str_isidentifier PySem.F.type_str_isidentifier mt_isid (pv 0)))))), ?_⟩
  refine ⟨_, rfl, v, .ty "str", _, _, _, rfl, .ty _, hv.ty S, kit_str S hv, _, rfl, ?_⟩
  refine ite2 (fun c => ?_) (fun c => ?_)
  · cases hv <;> first | cases c | skip
    rename_i x hx
    refine ⟨_, rfl, ⟨_, rfl⟩, x, rfl, rfl, trivial, _, rfl, ?_⟩
    refine ite2 (fun c1 => ?_) (fun c1 => ?_)
    · refine ⟨_, rfl, ⟨_, rfl⟩, x, rfl, rfl, trivial, ?_⟩
      have e : Txt.isidentifier x = cNam (.str x) := by
        show _ = (Txt.isascii x && Txt.isidentifier x)
        rw [c1]; rfl
      rw [e]
      exact q H (Same.refl H)
    · have e : false = cNam (.str x) := by
        show _ = (Txt.isascii x && Txt.isidentifier x)
        rw [Bool.eq_false_iff.mpr c1]; rfl
      rw [e]
      exact q H (Same.refl H)
  · have e : false = cNam kv := by cases kv <;> first | rfl | exact absurd rfl c
    rw [e]
    exact q H (Same.refl H)
theorem ok_dot {f fN : Addr} {fd dN : FuncData} (F : Fun K "is_dotted" "is_dotted" (sC 5) f fd) (Z : Blt mg) (S : Kits K C Cs) (N : FnOk P w K mg base CX0 1 fN dN ["thing"] (spK C Cs cNam)) (bN : Binds K dN ["thing"] []) (kN : PySem.W.keepIn K (.ref fN) = true) (mN : mg "is_name" = some (.ref fN)) :
    FnOk P w K mg base CX0 2 f fd ["thing"] (spK C Cs cDot) := by
  refine F.ok scC5 (fun vs H Q E h => len_K h) (fun cdv A outer s H vs Q E hr h => ?_)
  obtain ⟨v, kv, rfl, hv, q⟩ := h
  refine ⟨_, pss_one (ps_ret (pe_and (pe_callB call_isi (by rfl) Z.isI (by decide +kernel) (pa_cons (pv 0) (pa_cons (pe_bltn (v := .ty "str") (by rfl) Z.st (by decide +kernel) rfl) pa_nil)))
    (pe_one (pe_callB (cr_all rfl) (by rfl) Z.al (by decide +kernel) (pa_cons (pe_lc (own := [("part", 1)]) (g := gName 1) (tt := tYes) rfl scC5.nd (pi_list (pe_split (pv 0) pe_str))
        (blkOk_by (own := [("part", 1)]) (N := ["thing", "part"]) (sc := defScope (sC 5)) (by decide +kernel)) (fun _ _ _ _ _ => pg_name (i := 1) scC5.nd rfl (.inl rfl)) (fun _ _ _ _ _ => pts_nil) (fun _ _ _ _ _ => pe_call N hr rfl mN kN bN .nil pass0 (pa_cons (pv 1) pa_nil))) pa_nil))))), ?_⟩
  refine ⟨_, rfl, v, .ty "str", _, _, _, rfl, .ty _, hv.ty S, kit_str S hv, _, rfl, ?_⟩
  refine ite2 (fun c => ?_) (fun c => ?_)
  · cases hv <;> first | cases c | skip
    rename_i x hx
    have s1000 : (1010 : Nat) ≤ sizeLine := by decide
    refine ⟨_, rfl, ⟨_, rfl⟩, x, _, rfl, rfl, by decide +kernel, by omega, fun l nl => ⟨l, rfl, ⟨_, SqL.of upd_same⟩, ?_⟩⟩
    have hl : (upd H l (.lst ((Txt.split x ".").map V.str))) l = some (.lst ((Txt.split x ".").map V.str)) := upd_same
    have s1 := same_new (o := .lst ((Txt.split x ".").map V.str)) nl
    generalize upd H l (.lst ((Txt.split x ".").map V.str)) = H1 at hl s1
    refine fun D nD => ?_
    have Dl : l ≠ D := ne_of_none hl nD
    refine lc_list (K := K) (a := l) (xs := (Txt.split x ".").map V.str) (fun i H2 => Same H1 H2 ∧ H2 D = some (.lst ((((Txt.split x ".").take i).map isNm).map V.bl))) ⟨same_new nD, by rw [upd_same]; rfl⟩ (fun i H2 _ ⟨s2, _⟩ => SqL.of (s2 _ _ hl)) ?_ ?_
    · rintro i u H2 hu ⟨s2, h2⟩
      rw [List.getElem?_map] at hu
      cases hp : (Txt.split x ".")[i]? with
      | none => rw [hp] at hu; cases hu
      | some p =>
        rw [hp] at hu
        cases hu
        refine ⟨rfl, ?_⟩
        unfold tYes
        refine iteT ?_
        have hpl : p.length ≤ 1000 := Nat.le_trans (split_piece (List.mem_of_getElem? hp)) hx
        refine ⟨_, rfl, .str p, .str p, rfl, .str p hpl, fun H3 s3 => ?_⟩
        have h3 := s3 _ _ h2
        have sl := split_len x
        refine ⟨_, h3, ?_, ?_, ?_⟩
        · rw [List.length_map, List.length_map, List.length_take]; omega
        · intro b o e
          rw [upd_ne (ne_of_none e nD)]
          exact s3 _ _ (s2 _ _ e)
        · rw [upd_same, List.take_succ, hp, List.map_append, List.map_append]
          rfl
    · rintro H2 ⟨s2, h2⟩
      rw [List.length_map, List.take_length] at h2
      refine ⟨D, _, rfl, SqL.of h2, ?_⟩
      have e : ((Txt.split x ".").map isNm).all id = cDot (.str x) := by
        show _ = (Txt.split x ".").all isNm
        rw [List.all_map]; rfl
      rw [e]
      exact q H2 (s1.trans s2)
  · have e : false = cDot kv := by cases kv <;> first | rfl | exact absurd rfl c
    rw [e]
    exact q H (Same.refl H)
theorem ok_str {f fI : Addr} {fd dI : FuncData} (F : Fun K "is_dotted_or_star" "is_dotted_or_star" (sC 6) f fd) (Z : Blt mg) (S : Kits K C Cs) (I : FnOk P w K mg base CX0 2 fI dI ["thing"] (spK C Cs cDot)) (bI : Binds K dI ["thing"] []) (kI : PySem.W.keepIn K (.ref fI) = true) (mI : mg "is_dotted" = some (.ref fI)) :
    FnOk P w K mg base CX0 3 f fd ["thing"] (spK C Cs cStr) := by
  refine F.ok scC6 (fun vs H Q E h => len_K h) (fun cdv A outer s H vs Q E hr h => ?_)
  obtain ⟨v, kv, rfl, hv, q⟩ := h
  refine ⟨_, pss_one (ps_ret (pe_or (pe_call I hr rfl mI kI bI .nil pass0 (pa_cons (pv 0) pa_nil)) (pe_one (pe_and (pe_callB call_isi (by rfl) Z.isI (by decide +kernel) (pa_cons (pv 0) (pa_cons (pe_bltn (v := .ty "str") (by rfl) Z.st (by decide +kernel) rfl) pa_nil)))
    (pe_one (pe_cmpR op_eq (pv 0) pe_str (nomark _))))))), ?_⟩
  refine ⟨_, rfl, v, kv, rfl, hv, fun H1 s1 => ⟨_, rfl, ?_⟩⟩
  have hv1 := hv.up s1
  refine ite2 (fun c => ?_) (fun c => ?_)
  · have e : true = cStr kv := by cases kv <;> first | cases c | (show true = (_ || _); rw [show isDt _ = true from c]; rfl)
    rw [e]
    exact q H1 s1
  · refine ⟨_, rfl, v, .ty "str", _, _, _, rfl, .ty _, hv1.ty S, kit_str S hv1, _, rfl, ?_⟩
    refine ite2 (fun c1 => ?_) (fun c1 => ?_)
    · cases hv <;> first | cases c1 | skip
      rename_i x hx
      refine ⟨_, rfl, rfl, ?_⟩
      have e : decide (V.str x = V.str "*") = cStr (.str x) := by
        have z : isDt x = false := Bool.eq_false_iff.mpr c
        show _ = (isDt x || decide (x = "*"))
        rw [z]
        by_cases h : x = "*"
        · subst h; simp
        · have h2 : V.str x ≠ V.str "*" := fun z => h (V.str.inj z)
          rw [decide_eq_false h, decide_eq_false h2]; rfl
      rw [e]
      exact q H1 s1
    · have e : false = cStr kv := by cases kv <;> first | rfl | exact absurd rfl c1
      rw [e]
      exact q H1 s1
theorem ok_sng {f : Addr} {fd : FuncData} (F : Fun K "is_singleton" "is_singleton" (sC 7) f fd) : FnOk P w K mg base CX0 1 f fd ["thing"] (spK C Cs cSng) := by
  refine F.ok scC7 (fun vs H Q E h => len_K h) (fun cdv A outer s H vs Q E hr h => ?_)
  obtain ⟨v, kv, rfl, hv, q⟩ := h
  refine ⟨_, pss_one (ps_ret (pe_or (pe_cmpR op_isN (pv 0) pe_non (nomark _)) (pe_or (pe_cmpR op_isB (pv 0) pe_bl (nomark _)) (pe_one (pe_cmpR op_isB (pv 0) pe_bl (nomark _)))))), ?_⟩
  have qq := q H (Same.refl H)
  refine ⟨_, rfl, rfl, _, rfl, ?_⟩
  refine ite2 (fun c => ?_) (fun c => ⟨_, rfl, true, rfl, _, rfl, ?_⟩)
  · have c := of_decide_eq_true c
    subst c
    cases hv
    exact qq
  refine ite2 (fun c1 => ?_) (fun c1 => ⟨_, rfl, false, rfl, ?_⟩)
  · have c1 := of_decide_eq_true c1
    subst c1
    cases hv
    exact qq
  have e : decide (v = .bl false) = cSng kv := by
    cases hv with
    | non => exact absurd rfl c
    | bl b => cases b <;> first | rfl | exact absurd rfl c1
    | _ => rfl
  rw [e]
  exact qq
theorem ok_val {f fS fN : Addr} {fd dS dN : FuncData} (F : Fun K "is_value" "is_value" (sC 8) f fd) (Z : Blt mg) (S : Kits K C Cs) (I : FnOk P w K mg base CX0 1 fS dS ["thing"] (spK C Cs cSng)) (bI : Binds K dS ["thing"] []) (kI : PySem.W.keepIn K (.ref fS) = true) (mI : mg "is_singleton" = some (.ref fS))
    (N : FnOk P w K mg base CX0 2 fN dN ["thing"] (spK C Cs cCnt)) (bN : Binds K dN ["thing"] []) (kN : PySem.W.keepIn K (.ref fN) = true) (mN : mg "is_count" = some (.ref fN))
    (m0 : mg "Dots" = some (.ref (Cs 0))) (m1 : mg "Float" = some (.ref (Cs 1))) (m2 : mg "Imaginary" = some (.ref (Cs 2))) (m3 : mg "Octets" = some (.ref (Cs 3))) :
    FnOk P w K mg base CX0 3 f fd ["thing"] (spK C Cs cVal) := by
  refine F.ok scC8 (fun vs H Q E h => len_K h) (fun cdv A outer s H vs Q E hr h => ?_)
  obtain ⟨v, kv, rfl, hv, q⟩ := h
  have hr1 := hr.mono (show 1 ≤ 2 by omega)
  refine ⟨_, pss_one (ps_ret (pe_or (pe_call I hr1 rfl mI kI bI .nil pass0 (pa_cons (pv 0) pa_nil)) (pe_or (pe_call N hr rfl mN kN bN .nil pass0 (pa_cons (pv 0) pa_nil))
    (pe_one (pe_callB call_isiT (by rfl) Z.isI (by decide +kernel) (pa_cons (pv 0) (pa_cons (pe_tup (pa_cons (pe_bltn (v := .ty "str") (by rfl) Z.st (by decide +kernel) rfl) (pa_cons (pe_glob (v := .ref (Cs 0)) rfl m0 rfl) (pa_cons (pe_glob (v := .ref (Cs 1)) rfl m1 rfl)
      (pa_cons (pe_glob (v := .ref (Cs 2)) rfl m2 rfl) (pa_cons (pe_glob (v := .ref (Cs 3)) rfl m3 rfl) pa_nil)))))) pa_nil))))))), ?_⟩
  refine ⟨_, rfl, v, kv, rfl, hv, fun H1 s1 => ⟨_, rfl, ?_⟩⟩
  have hv1 := hv.up s1
  refine ite2 (fun c => ?_) (fun c => ?_)
  · have e : true = cVal kv := by cases kv <;> first | rfl | cases c
    rw [e]
    exact q H1 s1
  refine ⟨_, rfl, v, kv, rfl, hv1, fun H2 s2 => ⟨_, rfl, ?_⟩⟩
  have hv2 := hv1.up s2
  refine ite2 (fun c1 => ?_) (fun c1 => ?_)
  · have e : true = cVal kv := by cases kv <;> first | rfl | cases c1 | exact c1.symm
    rw [e]
    exact q H2 (s1.trans s2)
  refine ⟨_, rfl, by show 5 ≤ sizeLine; decide, fun t nt => ?_⟩
  have s3 := same_new (o := .tup [.ty "str", .ref (Cs 0), .ref (Cs 1), .ref (Cs 2), .ref (Cs 3)]) nt
  have hv3 := hv2.up s3
  refine ⟨v, t, _, _, _, _, rfl, upd_same, .cons (.ty _) (.cons (.own _) (.cons (.own _) (.cons (.own _) (.cons (.own _) .nil)))), hv3.ty S, kit_five S hv3, ?_⟩
  have e : (isStr kv || isVal kv) = cVal kv := by
    cases kv with
    | int i => exact (Bool.eq_false_iff.mpr c1).symm
    | non => exact absurd rfl c
    | bl b => exact absurd rfl c
    | _ => rfl
  rw [e]
  exact q _ ((s1.trans s2).trans s3)
end
end K5

namespace K5
open PySem PySem.Spec PyProof.Rows L2 StX RZ TL
/-! ### d.get(k, x), d a dict of the written part -/
def tKGet2 (K : PySem.W.Frag) (d : Addr) (td ty tx : TE) : TE := fun σ H Q => td σ H fun x H1 => x = .ref d ∧ ty σ H1 fun y H2 => tx σ H2 fun zz H3 => ∃ (z : Str) (r : Option Value), y = .str z ∧ PySem.W.nsIn K d z = some r ∧ ((r = none ∧ Q zz H3) ∨ ∃ (u : Value) (v0 : V), r = some u ∧ RelV v0 u ∧ Q v0 H3)
theorem pe_kget2 {X : Cx} {o e f : Expr} {apos cpos : Pos} {td ty tx : TE} {d : Addr} {es : Array DictEntry} {n : Nat} (D : KDict X.K X.w d es n) (ho : PE X o td) (he : PE X e ty) (hf : PE X f tx) (m : M2 X o "get" apos e f cpos) : PE X (.Call (.Attribute o "get" apos) [e, f] [] cpos) (tKGet2 X.K d td ty tx) := by
  refine ⟨fun pins s σ H Q I h => ?_⟩
  refine wpAny_Call_method m.base m.few m.line PySem.F.plainAttrs_dict PySem.F.slot_dict_get PySem.F.type_dict_get (thn (ho.run pins s σ H _ I h) fun u s1 ⟨x, H1, I1, rx, ex, q1⟩ => ?_)
  subst ex
  obtain rfl : u = Value.ref d := rx
  refine ⟨kd_type D I1, fun b eb => ?_, ?_⟩
  · cases eb
    exact ⟨_, I1.kIn _ _ D.at_, rfl⟩
  rw [m.trees]
  refine Calls.callWith_builtin rfl (Calls.evalArgs_plain (Calls.spliced_cons (thn (he.run pins s1 σ H1 _ I1 q1) fun iv s2 ⟨y, H2, I2, ry, q2⟩ =>
    Calls.spliced_cons (thn (hf.run pins s2 σ H2 _ I2 q2) fun fv s3 ⟨zz, H3, I3, rz, q3⟩ => Calls.spliced_nil ?_))))
  obtain ⟨z, r, rfl, hz, q⟩ := q3
  obtain ⟨t, rfl⟩ := ry
  have hm := PySem.W.mapOf_K (prog := X.prog) (w := X.w) I3.kIn D.at_ D.lit
  refine call_meetsIn PySem.F.slot_dict_get hm.typeIs PySem.F.entry_dict_get (PySem.F.args_dict_get_3 _ _ _) (meets_dict_get_default (PySem.strKind X.prog X.w) d (PySem.strKind_is X.prog X.w z t) D.low fv) ⟨_, hm, ?_⟩
  rw [PySem.W.find_K D.at_ hz]
  rcases q with ⟨rfl, q⟩ | ⟨u, v0, rfl, ru, q⟩
  · exact ⟨zz, H3, I3.tok _, rz, q⟩
  · exact ⟨v0, H3, I3.tok _, ru, q⟩
/-! ### one value of a field -/
def chkN : List Str := ["BIT", "COUNT", "CONVERSION", "NAME", "DOTTED", "DOTTED_OR_STAR", "SINGLETON", "VALUE"]
def chkF : Nat → Kv → Bool
  | 0 => cBit | 1 => cCnt | 2 => cCnv | 3 => cNam | 4 => cDot | 5 => cStr | 6 => cSng | _ => cVal
def kinR : List Str := ["ExceptHandler", "JoinedStr", "alias", "arg", "arguments", "comprehension", "keyword", "match_case", "withitem"]
def grpN : List Str := ["STMT", "EXPR", "PATTERN", "BOOLEAN", "UNARY", "CONTEXT", "OPERATOR", "COMPARISON"]
def grpOf (r : Str) : List Str := (Grp.lookup r).getD [r]
def fit1 (r : Str) (kv : Kv) : Bool := match chkN.idxOf? r with
  | some i => chkF i kv
  | none => match kv with
    | .node k _ => decide (k ∈ grpOf r)
    | _ => false
def rules : List Str := chkN ++ (grpN ++ kinR)
structure Chks (K : PySem.W.Frag) (w : World) (mg : Str → Option Value) (aC : Addr) (eC : Array DictEntry) (nC : Nat) (fc : Nat → Addr) : Prop where
  dC : KDict K w aC eC nC
  mC : mg "CHECKS" = some (.ref aC)
  at_ : ∀ i, i < 8 → PySem.W.nsIn K aC (chkN.getD i "") = some (some (.ref (fc i)))
  no : ((grpN ++ kinR).all fun r => PySem.W.nsIn K aC r == some none) = true
  inj : ∀ i j, i < 8 → j < 8 → fc i = fc j → i = j
def chkS (C : Addr) (Cs : Nat → Addr) (fc : Nat → Addr) (f : Addr) : Option Sp := ((List.range 8).find? fun i => fc i == f).map fun i => spK C Cs (chkF i)
theorem find_chk {fc : Nat → Addr} (inj : ∀ i j, i < 8 → j < 8 → fc i = fc j → i = j) {i : Nat} (hi : i < 8) : ((List.range 8).find? fun j => fc j == fc i) = some i := by
  cases h : (List.range 8).find? fun j => fc j == fc i with
  | none =>
    have := List.find?_eq_none.mp h i (List.mem_range.mpr hi)
    simp at this
  | some j =>
    have h1 := List.find?_some h
    have h2 := List.mem_range.mp (List.mem_of_find?_eq_some h)
    rw [inj j i h2 hi (beq_iff_eq.mp h1)]
abbrev sF1 : Stmt := topS 30
abbrev sFit : Stmt := topS 29
abbrev sNO : Stmt := topS 31
abbrev sTree : Stmt := topS 28
theorem scF1 : FnScope ["value", "rule", "check"] ["value", "rule"] (defScope sF1) := ⟨rfl, rfl, rfl, by decide +kernel, rfl, by decide +kernel, by decide +kernel⟩
theorem scFit : FnScope ["value", "rule", "mark", "item"] ["value", "rule", "mark"] (defScope sFit) := ⟨rfl, rfl, rfl, by decide +kernel, rfl, by decide +kernel, by decide +kernel⟩
theorem scNO : FnScope ["value", "items", "item"] ["value"] (defScope sNO) := ⟨rfl, rfl, rfl, by decide +kernel, rfl, by decide +kernel, by decide +kernel⟩
def spF1 (C : Addr) (Cs : Nat → Addr) : Sp := fun vs H Q _ => ∃ (v : V) (r : Str) (kv : Kv), vs = [v, .str r] ∧ KvAt C Cs H v kv ∧ r ∈ rules ∧ ∀ H', Same H H' → Q (.bl (fit1 r kv)) H'
theorem rule_ix : ∀ r ∈ rules, (∃ i, i < 8 ∧ chkN.idxOf? r = some i ∧ r = chkN.getD i "") ∨ (chkN.idxOf? r = none ∧ r ∈ grpN ++ kinR) := by
  have h : (rules.all fun r => (match chkN.idxOf? r with
    | some i => decide (i < 8) && decide (r = chkN.getD i "")
    | none => decide (r ∈ grpN ++ kinR))) = true := by decide +kernel
  intro r hr
  have z := List.all_eq_true.mp h r hr
  cases e : chkN.idxOf? r with
  | some i =>
    rw [e] at z
    obtain ⟨z1, z2⟩ := Bool.and_eq_true_iff.mp z
    exact .inl ⟨i, of_decide_eq_true z1, rfl, of_decide_eq_true z2⟩
  | none =>
    rw [e] at z
    exact .inr ⟨rfl, of_decide_eq_true z⟩
theorem grp_rule : ∀ r ∈ grpN ++ kinR, (∃ xs, Grp.lookup r = some xs) ∨ (Grp.lookup r = none ∧ r ∈ kinR) := by
  have h : ((grpN ++ kinR).all fun r => (match Grp.lookup r with
    | some _ => true
    | none => decide (r ∈ kinR))) = true := by decide +kernel
  intro r hr
  have z := List.all_eq_true.mp h r hr
  cases e : Grp.lookup r with
  | some xs => exact .inl ⟨xs, rfl⟩
  | none =>
    rw [e] at z
    exact .inr ⟨rfl, of_decide_eq_true z⟩
theorem strs_flat (xs : List Str) : (xs.map V.str).all flatV = true := by
  induction xs with
  | nil => rfl
  | cons x r ih =>
    show (flatV (.str x) && (r.map V.str).all flatV) = true
    rw [ih]
    rfl
theorem eqV_str (x y : Str) : eqV (.str x) (.str y) = decide (x = y) := by
  unfold eqV
  by_cases h : x = y
  · subst h; simp
  · simp [h]
theorem inV_strs (k : Str) (xs : List Str) : inV (.str k) (xs.map V.str) = decide (k ∈ xs) := by
  unfold inV
  induction xs with
  | nil => rfl
  | cons x r ih =>
    show (eqV (.str x) (.str k) || (r.map V.str).any fun y => eqV y (.str k)) = _
    rw [ih, eqV_str]
    by_cases h : x = k
    · subst h; simp
    · have h2 : ¬ k = x := fun z => h z.symm
      simp [h, h2, List.mem_cons]
section
variable {P : Program} {w : World} {K : PySem.W.Frag} {mg : Str → Option Value} {base : Heap} {aF aG aC C : Addr} {eF eG eC : Array DictEntry} {nF nG nC : Nat} {Cs fc : Nat → Addr}
theorem ok_f1 {f : Addr} {fd : FuncData} (F : Fun K "_fits_one" "_fits_one" sF1 f fd) (T : Tabs K w mg aF aG eF eG nF nG) (Z : Blt mg) (S : Kits K C Cs) (N : NodeF K C) (mN : mg "Node" = some (.ref C)) (Ck : Chks K w mg aC eC nC fc)
    (Hd : ∀ i, i < 8 → Held P w K mg base 3 (fc i) (spK C Cs (chkF i))) : FnOk P w K mg base CX0 4 f fd ["value", "rule"] (spF1 C Cs) := by
  have HA : ∀ f sp, chkS C Cs fc f = some sp → Held P w K mg base 3 f sp := fun f sp h => by
    unfold chkS at h
    cases e : (List.range 8).find? fun i => fc i == f with
    | none => rw [e] at h; cases h
    | some i =>
      rw [e] at h
      cases h
      have h1 : fc i = f := by
        have z := List.find?_some (p := fun i => fc i == f) e
        exact beq_iff_eq.mp z
      have h2 := List.mem_range.mp (List.mem_of_find?_eq_some e)
      exact h1 ▸ Hd i h2
  refine F.ok scF1 (fun vs H Q E h => ?_) (fun cdv A outer s H vs Q E hr h => ?_)
  · obtain ⟨v, r, kv, rfl, _⟩ := h
    rfl
  obtain ⟨v, r, kv, rfl, hv, hru, q⟩ := h
  refine ⟨_, pss_cons (ps_if (pt_cmpR (op_in_kd Ck.dC) (pv 1) (pe_glob (v := .ref aC) rfl Ck.mC rfl) (by rfl))
      (pss_cons (ps_set (i := 2) scF1.nd rfl (.inl rfl) (pe_ix ix_kdict (pe_glob (v := .ref aC) rfl Ck.mC rfl) (pv 1) (fun _ _ => rfl))) (pss_one (ps_ret (pe_callA (i := 2) (S := chkS C Cs fc) HA hr rfl (.inl rfl) (pa_cons (pv 0) pa_nil))))) pss_nil)
    (pss_one (ps_ret (pe_and (pe_callB call_isi (by rfl) Z.isI (by decide +kernel) (pa_cons (pv 0) (pa_cons (pe_glob (v := .ref C) rfl mN rfl) pa_nil)))
      (pe_one (pe_cmpR op_in_seq (pe_fld (pv 0) rfl) (pe_kget2 T.dG (pe_glob (v := .ref aG) rfl T.mG rfl) (pv 1) (pe_tup (pa_cons (pv 1) pa_nil)) ⟨rfl, rfl, rfl, rfl⟩) (by rfl)))))), ?_⟩
  rcases rule_ix r hru with ⟨i, hi, hix, hrn⟩ | ⟨hix, hgr⟩
  · refine ⟨_, rfl, r, some (.ref (fc i)), rfl, rfl, hrn ▸ Ck.at_ i hi, _, rfl, iteT ?_⟩
    refine ⟨_, rfl, aC, r, .ref (fc i), rfl, rfl, ⟨_, _, _, Ck.dC.at_, Ck.dC.lit, hrn ▸ Ck.at_ i hi, rfl⟩, ?_⟩
    refine ⟨fc i, spK C Cs (chkF i), rfl, ?_, _, rfl, v, kv, rfl, hv, fun H1 s1 => ?_⟩
    · unfold chkS
      rw [find_chk Ck.inj hi]
      rfl
    · have e : chkF i kv = fit1 r kv := by
        unfold fit1
        rw [hix]
      rw [e]
      exact q H1 s1
  · have hno : PySem.W.nsIn K aC r = some none := beq_iff_eq.mp (List.all_eq_true.mp Ck.no r hgr)
    refine ⟨_, rfl, r, none, rfl, rfl, hno, _, rfl, iteF ?_⟩
    refine ⟨_, rfl, v, .ref C, _, _, _, rfl, .own _, hv.ty S, kit_node S hv, _, rfl, ?_⟩
    refine ite2 (fun c => ?_) (fun c => ?_)
    · cases hv <;> first | cases c | skip
      rename_i a dx d k h
      have fin : ∀ H', Same H H' → Q (.bl (decide (k ∈ grpOf r))) H' := fun H' s1 => by
        have z := q H' s1
        unfold fit1 at z
        rw [hix] at z
        exact z
      refine ⟨_, rfl, a, C, dx, _, .str k, rfl, h, N.cl, N.n1, rfl, rfl, _, rfl, _, rfl, by show 1 ≤ sizeLine; decide, fun t nt => ?_⟩
      rcases grp_rule r hgr with ⟨xs, hxs⟩ | ⟨hg0, hk⟩
      · obtain ⟨ag, hag, hsg⟩ := grpIs_at T.oG hxs
        refine ⟨r, _, rfl, hag, .inr ⟨_, .ref ag, rfl, rfl, ag, xs.map V.str, rfl, .inr (hsg _), rfl, strs_flat _, ?_⟩⟩
        rw [if_neg (by decide), inV_strs]
        have e : grpOf r = xs := by unfold grpOf; rw [hxs]; rfl
        rw [← e]
        exact fin _ (same_new nt)
      · have hgn : PySem.W.nsIn K aG r = some none := beq_iff_eq.mp (List.all_eq_true.mp T.gN r hk)
        refine ⟨r, none, rfl, hgn, .inl ⟨rfl, t, [.str r], rfl, .inr (SqT.of upd_same), rfl, rfl, ?_⟩⟩
        rw [if_neg (by decide), show ([V.str r] : List V) = [r].map V.str from rfl, inV_strs]
        have e : grpOf r = [r] := by unfold grpOf; rw [hg0]; rfl
        rw [← e]
        exact fin _ (same_new nt)
    · have e : false = fit1 r kv := by
        unfold fit1
        rw [hix]
        cases kv <;> first | rfl | exact absurd rfl c
      rw [e]
      exact q H (Same.refl H)
end
end K5

namespace K5
open PySem PySem.Spec PyProof.Rows L2 StX RZ TL
/-! ### the value of a field -/
def isNon : Kv → Bool | .non => true | _ => false
def ItemsAt (C : Addr) (Cs : Nat → Addr) (H : Hp) (xs : List V) (ks : List Kv) : Prop := xs.length = ks.length ∧ ∀ (i : Nat) x k, xs[i]? = some x → ks[i]? = some k → KvAt C Cs H x k
/-- a value and, if it is a list, its items -/
def FvAt (C : Addr) (Cs : Nat → Addr) (H : Hp) (v : V) (kv : Kv) (ks : List Kv) : Prop := KvAt C Cs H v kv ∧ ∀ xs, kv = .lst xs → ItemsAt C Cs H xs ks
theorem ItemsAt.up {C : Addr} {Cs : Nat → Addr} {H H' : Hp} {xs : List V} {ks : List Kv} (h : ItemsAt C Cs H xs ks) (s : Same H H') : ItemsAt C Cs H' xs ks := ⟨h.1, fun i x k g1 g2 => (h.2 i x k g1 g2).up s⟩
theorem FvAt.up {C : Addr} {Cs : Nat → Addr} {H H' : Hp} {v : V} {kv : Kv} {ks : List Kv} (h : FvAt C Cs H v kv ks) (s : Same H H') : FvAt C Cs H' v kv ks := ⟨h.1.up s, fun xs e => (h.2 xs e).up s⟩
def fitI (r m : Str) (k : Kv) : Bool := fit1 r k || (decide (m = "?*") && isNon k)
def fitV (r m : Str) (kv : Kv) (ks : List Kv) : Bool :=
  if m ∈ marks then isLst kv && (!(decide (m = "+") && ks.isEmpty) && ks.all (fitI r m)) else fit1 r kv || (decide (m = "?") && isNon kv)
def spFit (C : Addr) (Cs : Nat → Addr) : Sp := fun vs H Q _ => ∃ (v : V) (r m : Str) (kv : Kv) (ks : List Kv), vs = [v, .str r, .str m] ∧ FvAt C Cs H v kv ks ∧ r ∈ rules ∧ ∀ H', Same H H' → Q (.bl (fitV r m kv ks)) H'
theorem kvnon {C : Addr} {Cs : Nat → Addr} {H : Hp} {v : V} {kv : Kv} (h : KvAt C Cs H v kv) : decide (v = .non) = isNon kv := by
  cases h <;> rfl
theorem notIn_marks (m : Str) : (!inV (.str m) (marks.map V.str)) = !decide (m ∈ marks) := by rw [marks_in]
section
variable {P : Program} {w : World} {K : PySem.W.Frag} {mg : Str → Option Value} {base : Heap} {aM C : Addr} {Cs : Nat → Addr}
theorem ok_fit {f f1 : Addr} {fd d1 : FuncData} (F : Fun K "_fits" "_fits" sFit f fd) (mM : mg "LIST_MARKS" = some (.ref aM)) (hM : ∀ H, SqT K H aM (marks.map V.str)) (Z : Blt mg) (S : Kits K C Cs)
    (O : FnOk P w K mg base CX0 4 f1 d1 ["value", "rule"] (spF1 C Cs)) (bO : Binds K d1 ["value", "rule"] []) (kO : PySem.W.keepIn K (.ref f1) = true) (mO : mg "_fits_one" = some (.ref f1)) :
    FnOk P w K mg base CX0 5 f fd ["value", "rule", "mark"] (spFit C Cs) := by
  refine F.ok scFit (fun vs H Q E h => ?_) (fun cdv A outer s H vs Q E hr h => ?_)
  · obtain ⟨v, r, m, kv, ks, rfl, _⟩ := h
    rfl
  obtain ⟨v, r, m, kv, ks, rfl, hf, hru, q⟩ := h
  obtain ⟨hv, hks⟩ := hf
  refine ⟨_, pss_cons (ps_if (pt_cmpR op_notIn_seq (pv 2) (pe_glob (v := .ref aM) rfl mM rfl) (by rfl))
      (pss_one (ps_ret (pe_or (pe_call O hr rfl mO kO bO .nil pass0 (pa_cons (pv 0) (pa_cons (pv 1) pa_nil))) (pe_one (pe_and (pe_cmpR op_eq (pv 2) pe_str (nomark _)) (pe_one (pe_cmpR op_isN (pv 0) pe_non (nomark _)))))))) pss_nil)
    (C8.pss_cut (ps_if (PW.pt (pw_or (pt_not (pt_val (pe_callB call_isi (by rfl) Z.isI (by decide +kernel) (pa_cons (pv 0) (pa_cons (pe_bltn (v := .ty "list") (by rfl) Z.ls (by decide +kernel) rfl) pa_nil)))))
        (pw_or1 (PW.pt (pw_and (pt_cmpR op_eq (pv 2) pe_str (nomark _)) (pw_and1 (pt_not (pt_truth (pv 0) (fun _ => rfl))))))))) (pss_one (ps_ret pe_bl)) pss_nil)
    (pss_one (ps_ret (pe_callB (cr_all rfl) (by rfl) Z.al (by decide +kernel) (pa_cons (pe_lc (own := [("item", 3)]) (g := gName 3) (tt := tYes) rfl scFit.nd (pi_list (pv 0))
        (blkOk_by (own := [("item", 3)]) (N := ["value", "rule", "mark", "item"]) (sc := defScope sFit) (by decide +kernel)) (fun _ _ _ _ _ => pg_name (i := 3) scFit.nd rfl (.inl rfl)) (fun _ _ _ _ _ => pts_nil)
        (fun _ _ _ _ _ => pe_or (pe_call O hr rfl mO kO bO .nil pass0 (pa_cons (pv 3) (pa_cons (pv 1) pa_nil))) (pe_one (pe_and (pe_cmpR op_eq (pv 2) pe_str (nomark _)) (pe_one (pe_cmpR op_isN (pv 3) pe_non (nomark _))))))) pa_nil))))), ?_⟩
  refine ⟨_, rfl, aM, _, rfl, .inr (hM H), rfl, marks_flat, _, rfl, ?_⟩
  rw [if_pos (by decide), marks_in]
  by_cases hm : m ∈ marks
  · rw [decide_eq_true hm]
    refine iteF ?_
    have e0 : fitV r m kv ks = (isLst kv && (!(decide (m = "+") && ks.isEmpty) && ks.all (fitI r m))) := by unfold fitV; rw [if_pos hm]
    rw [e0] at q
    refine ⟨fun σ H2 => σ = [some v, some (.str r), some (.str m), none] ∧ H2 = H ∧ isLst kv = true ∧ (decide (m = "+") && ks.isEmpty) = false, ?_, ?_⟩
    · refine ⟨_, rfl, v, .ty "list", _, _, _, rfl, .ty _, hv.ty S, kit_list S hv, _, rfl, ?_⟩
      cases hi : isLst kv with
      | false =>
        refine iteT (iteT ?_)
        rw [hi] at q
        exact q H (Same.refl H)
      | true =>
        refine iteF ?_
        refine ⟨_, rfl, rfl, _, rfl, ?_⟩
        refine ite2 (fun c => ?_) (fun c => ?_)
        · have c : m = "+" := V.str.inj (of_decide_eq_true c)
          cases hv with
          | lst ha hl =>
            rename_i a xs
            refine ⟨_, rfl, _, .inl ⟨xs, SqL.of ha, rfl⟩, ?_⟩
            have ez : xs.isEmpty = ks.isEmpty := by
              have el := (hks xs rfl).1
              cases xs with
              | nil => cases ks with
                | nil => rfl
                | cons k r => cases el
              | cons x r => cases ks with
                | nil => cases el
                | cons k r => rfl
            rw [ez]
            cases hz : ks.isEmpty with
            | true =>
              refine iteT ?_
              rw [hz, decide_eq_true c] at q
              exact q H (Same.refl H)
            | false =>
              refine iteF ?_
              exact ⟨rfl, rfl, rfl, by simp⟩
          | _ => cases hi
        · have c : ¬ m = "+" := fun z => c (by rw [z]; simp)
          exact ⟨rfl, rfl, rfl, by rw [decide_eq_false c]; rfl⟩
    · rintro σ H2 ⟨rfl, rfl, hi, hz⟩
      rw [hi, hz] at q
      cases hv with
      | lst ha hl =>
        rename_i a xs
        obtain ⟨el, hit⟩ := hks xs rfl
        refine ⟨_, rfl, a, rfl, ⟨_, SqL.of ha⟩, fun D nD => ?_⟩
        have Da : a ≠ D := ne_of_none ha nD
        refine lc_list (K := K) (a := a) (xs := xs) (fun i H3 => Same H2 H3 ∧ H3 D = some (.lst (((ks.take i).map (fitI r m)).map V.bl))) ⟨same_new nD, by rw [upd_same]; rfl⟩ (fun i H3 _ ⟨s3, _⟩ => SqL.of (s3 _ _ ha)) ?_ ?_
        · rintro i x H3 hx ⟨s3, h3⟩
          have hi' : i < xs.length := by
            rcases Nat.lt_or_ge i xs.length with z | z
            · exact z
            · rw [List.getElem?_eq_none z] at hx; cases hx
          obtain ⟨k, hk⟩ : ∃ k, ks[i]? = some k := ⟨_, List.getElem?_eq_getElem (by omega)⟩
          have hxk := (hit i x k hx hk).up s3
          refine ⟨rfl, ?_⟩
          unfold tYes
          refine iteT ?_
          have stop : ∀ {H4 : Hp} {b : Bool}, Same H3 H4 → b = fitI r m k → ∃ acc, H4 D = some (.lst acc) ∧ acc.length < sizeLine ∧ (Same H2 (upd H4 D (.lst (acc ++ [V.bl b]))) ∧ (upd H4 D (.lst (acc ++ [V.bl b]))) D = some (.lst (((ks.take (i + 1)).map (fitI r m)).map V.bl))) := fun {H4 b} s4 eb => by
            refine ⟨_, s4 _ _ h3, ?_, fun c o e => ?_, ?_⟩
            · have z : (1000 : Nat) < sizeLine := by decide
              rw [List.length_map, List.length_map, List.length_take]
              omega
            · rw [upd_ne (ne_of_none e nD)]
              exact s4 _ _ (s3 _ _ e)
            · rw [upd_same, List.take_succ, hk, List.map_append, List.map_append, eb]
              rfl
          refine ⟨_, rfl, _, rfl, x, r, k, rfl, hxk, hru, fun H4 s4 => ⟨_, rfl, ?_⟩⟩
          cases h1 : fit1 r k with
          | true =>
            refine iteT ?_
            exact stop s4 (by unfold fitI; rw [h1]; rfl)
          | false =>
            refine iteF ?_
            refine ⟨_, rfl, rfl, _, rfl, ?_⟩
            refine ite2 (fun c => ?_) (fun c => ?_)
            · have c : m = "?*" := V.str.inj (of_decide_eq_true c)
              refine ⟨_, rfl, rfl, ?_⟩
              exact stop s4 (by unfold fitI; rw [h1, decide_eq_true c, kvnon hxk]; rfl)
            · have c : ¬ m = "?*" := fun z => c (by rw [z]; simp)
              exact stop s4 (by unfold fitI; rw [h1, decide_eq_false c]; rfl)
        · rintro H3 ⟨s3, h3⟩
          rw [el, List.take_length] at h3
          refine ⟨D, _, rfl, SqL.of h3, ?_⟩
          have e : (ks.map (fitI r m)).all id = ks.all (fitI r m) := by rw [List.all_map]; rfl
          rw [e]
          exact q H3 s3
      | _ => cases hi
  · rw [decide_eq_false hm]
    refine iteT ?_
    have e0 : fitV r m kv ks = (fit1 r kv || (decide (m = "?") && isNon kv)) := by unfold fitV; rw [if_neg hm]
    rw [e0] at q
    refine ⟨_, rfl, _, rfl, v, r, kv, rfl, hv, hru, fun H1 s1 => ⟨_, rfl, ?_⟩⟩
    cases h1 : fit1 r kv with
    | true =>
      refine iteT ?_
      rw [h1] at q
      exact q H1 s1
    | false =>
      refine iteF ?_
      rw [h1] at q
      refine ⟨_, rfl, rfl, _, rfl, ?_⟩
      refine ite2 (fun c => ?_) (fun c => ?_)
      · have c : m = "?" := V.str.inj (of_decide_eq_true c)
        refine ⟨_, rfl, rfl, ?_⟩
        rw [kvnon hv]
        rw [decide_eq_true c] at q
        exact q H1 s1
      · have c : ¬ m = "?" := fun z => c (by rw [z]; simp)
        rw [decide_eq_false c] at q
        exact q H1 s1
end
end K5

namespace K5
open PySem PySem.Spec PyProof.Rows L2 StX RZ TL
/-! ### the nodes in a value; trees -/
def nodeO (C a : Addr) : Option HO → Option Addr
  | some (.ins D _ _) => if D = C then some a else none
  | _ => none
def nodeOf (C : Addr) (H : Hp) : V → Option Addr
  | .ref a => nodeO C a (H a)
  | _ => none
def kidsO (C : Addr) (H : Hp) (a : Addr) : Option HO → List Addr
  | some (.lst xs) => xs.filterMap (nodeOf C H)
  | o => (nodeO C a o).toList
def kidsV (C : Addr) (H : Hp) : V → List Addr
  | .ref a => kidsO C H a (H a)
  | _ => []
def kvO (C : Addr) (Cs : Nat → Addr) : Option HO → Kv
  | some (.lst xs) => .lst xs
  | some (.ins D _ fs) => if D = C then (match fs with
      | [(_, .str k), _, _, _, _, (_, .ref d)] => .node k d
      | _ => .tup) else .val (if D = Cs 0 then 0 else if D = Cs 1 then 1 else if D = Cs 2 then 2 else 3)
  | _ => .tup
def kvF (C : Addr) (Cs : Nat → Addr) (H : Hp) : V → Kv
  | .non => .non | .bl b => .bl b | .int i => .int i | .str x => .str x
  | .ref a => kvO C Cs (H a)
  | _ => .tup
def ksF (C : Addr) (Cs : Nat → Addr) (H : Hp) (v : V) : List Kv := match kvF C Cs H v with
  | .lst xs => xs.map (kvF C Cs H)
  | _ => []
def fitF (C : Addr) (Cs : Nat → Addr) (H : Hp) (r m : Str) (v : V) : Bool := fitV r m (kvF C Cs H v) (ksF C Cs H v)
section
variable {K : PySem.W.Frag} {C : Addr} {Cs : Nat → Addr} {H H' : Hp} {v : V} {kv : Kv} {ks : List Kv}
theorem kvF_of (S : Kits K C Cs) (h : KvAt C Cs H v kv) : kvF C Cs H v = kv := by
  cases h with
  | non => rfl
  | bl b => rfl
  | int i => rfl
  | str x hx => rfl
  | lst h hl => show kvO C Cs (H _) = _; rw [h]; rfl
  | tup h => show kvO C Cs (H _) = _; rw [h]; rfl
  | node h => show kvO C Cs (H _) = _; rw [h]; show (if C = C then _ else _) = _; rw [if_pos rfl]
  | @val a dx j fs hj h =>
    show kvO C Cs (H _) = _
    rw [h]
    have n := S.ne j hj
    show (if Cs j = C then _ else _) = _
    rw [if_neg n]
    have i := fun k hk => S.inj j k hj hk
    rcases j with _ | _ | _ | _ | j
    · simp
    · have n0 : Cs 1 ≠ Cs 0 := fun z => by have := i 0 (by decide) z; omega
      simp [n0]
    · have n0 : Cs 2 ≠ Cs 0 := fun z => by have := i 0 (by decide) z; omega
      have n1 : Cs 2 ≠ Cs 1 := fun z => by have := i 1 (by decide) z; omega
      simp [n0, n1]
    · have n0 : Cs 3 ≠ Cs 0 := fun z => by have := i 0 (by decide) z; omega
      have n1 : Cs 3 ≠ Cs 1 := fun z => by have := i 1 (by decide) z; omega
      have n2 : Cs 3 ≠ Cs 2 := fun z => by have := i 2 (by decide) z; omega
      simp [n0, n1, n2]
    · omega
theorem KvAt.det (S : Kits K C Cs) {kv' : Kv} (h : KvAt C Cs H v kv) (h' : KvAt C Cs H v kv') : kv = kv' := (kvF_of S h).symm.trans (kvF_of S h')
theorem ks_of (S : Kits K C Cs) {xs : List V} (h : ItemsAt C Cs H xs ks) : xs.map (kvF C Cs H) = ks := by
  refine List.ext_getElem? fun i => ?_
  rw [List.getElem?_map]
  rcases Nat.lt_or_ge i xs.length with hi | hi
  · have e1 := List.getElem?_eq_getElem hi
    have e2 := List.getElem?_eq_getElem (l := ks) (i := i) (by rw [← h.1]; exact hi)
    rw [e1, e2]
    exact congrArg some (kvF_of S (h.2 i _ _ e1 e2))
  · rw [List.getElem?_eq_none hi, List.getElem?_eq_none (by rw [← h.1]; exact hi)]
    rfl
theorem fitF_of (S : Kits K C Cs) (h : FvAt C Cs H v kv ks) (r m : Str) : fitF C Cs H r m v = fitV r m kv ks := by
  unfold fitF
  have e := kvF_of S h.1
  cases hl : isLst kv with
  | true =>
    cases kv with
    | lst xs =>
      have e2 : ksF C Cs H v = ks := by
        unfold ksF
        rw [e]
        exact ks_of S (h.2 xs rfl)
      rw [e, e2]
    | _ => cases hl
  | false =>
    rw [e]
    unfold fitV
    rw [hl]
    rfl
theorem FvAt.some (S : Kits K C Cs) (h : KvAt C Cs H v kv) (hx : ∀ xs, kv = .lst xs → ∀ x ∈ xs, ∃ k, KvAt C Cs H x k) : FvAt C Cs H v kv (ksF C Cs H v) := by
  refine ⟨h, fun xs e => ?_⟩
  have e1 : ksF C Cs H v = xs.map (kvF C Cs H) := by
    unfold ksF
    rw [kvF_of S h, e]
  rw [e1]
  refine ⟨(List.length_map _).symm, fun i x k g1 g2 => ?_⟩
  rw [List.getElem?_map, g1] at g2
  cases g2
  obtain ⟨k, hk⟩ := hx xs e x (List.mem_of_getElem? g1)
  rw [kvF_of S hk]
  exact hk
theorem nodeOf_yes (h : KvAt C Cs H v kv) (hn : isNode kv = true) : ∃ a, v = .ref a ∧ nodeOf C H v = some a := by
  cases h with
  | node h => exact ⟨_, rfl, by show nodeO C _ (H _) = _; rw [h]; exact if_pos rfl⟩
  | _ => cases hn
theorem nodeOf_no (S : Kits K C Cs) (h : KvAt C Cs H v kv) (hn : isNode kv = false) : nodeOf C H v = none := by
  cases h with
  | node h => cases hn
  | lst h hl => show nodeO C _ (H _) = _; rw [h]; rfl
  | tup h => show nodeO C _ (H _) = _; rw [h]; rfl
  | val hj h => show nodeO C _ (H _) = _; rw [h]; exact if_neg (S.ne _ hj)
  | _ => rfl
theorem nodeOf_up (S : Kits K C Cs) (h : KvAt C Cs H v kv) (s : Same H H') : nodeOf C H' v = nodeOf C H v := by
  cases hn : isNode kv with
  | false => rw [nodeOf_no S h hn, nodeOf_no S (h.up s) hn]
  | true =>
    obtain ⟨a, e1, e2⟩ := nodeOf_yes h hn
    obtain ⟨b, e3, e4⟩ := nodeOf_yes (h.up s) hn
    rw [e1] at e3
    cases e3
    rw [e2, e4]
theorem kidsV_lst {a : Addr} {xs : List V} (h : H a = some (.lst xs)) : kidsV C H (.ref a) = xs.filterMap (nodeOf C H) := by
  show kidsO C H a (H a) = _
  rw [h]
  rfl
theorem kidsV_one (S : Kits K C Cs) (h : KvAt C Cs H v kv) (hl : isLst kv = false) : kidsV C H v = (nodeOf C H v).toList := by
  cases h with
  | lst h _ => cases hl
  | node h => show kidsO C H _ (H _) = (nodeO C _ (H _)).toList; rw [h]; rfl
  | tup h => show kidsO C H _ (H _) = (nodeO C _ (H _)).toList; rw [h]; rfl
  | val hj h => show kidsO C H _ (H _) = (nodeO C _ (H _)).toList; rw [h]; rfl
  | _ => rfl
theorem fm_one {α β : Type} (f : α → Option β) (x : α) : [x].filterMap f = (f x).toList := by
  rw [List.filterMap_cons]
  cases f x <;> rfl
theorem filterMap_same {α β : Type} {f g : α → Option β} : ∀ {xs : List α}, (∀ x ∈ xs, f x = g x) → xs.filterMap f = xs.filterMap g
  | [], _ => rfl
  | x :: r, h => by
    have h1 := h x (List.mem_cons_self ..)
    have h2 := filterMap_same (xs := r) fun y hy => h y (List.mem_cons_of_mem _ hy)
    rw [List.filterMap_cons, List.filterMap_cons, h1, h2]
theorem item_kv {xs : List V} (h : ItemsAt C Cs H xs ks) {x : V} (hx : x ∈ xs) : ∃ k, KvAt C Cs H x k := by
  obtain ⟨i, hi⟩ := List.mem_iff_getElem?.mp hx
  have hl : i < xs.length := by
    rcases Nat.lt_or_ge i xs.length with z | z
    · exact z
    · rw [List.getElem?_eq_none z] at hi; cases hi
  exact ⟨_, h.2 i x _ hi (List.getElem?_eq_getElem (by rw [← h.1]; exact hl))⟩
theorem kidsV_up (S : Kits K C Cs) (h : FvAt C Cs H v kv ks) (s : Same H H') : kidsV C H' v = kidsV C H v := by
  cases hl : isLst kv with
  | false => rw [kidsV_one S h.1 hl, kidsV_one S (h.1.up s) hl, nodeOf_up S h.1 s]
  | true =>
    obtain ⟨h1, h2⟩ := h
    cases h1 with
    | lst ha hb =>
      rw [kidsV_lst ha, kidsV_lst (s _ _ ha)]
      exact filterMap_same fun x hx => by
        obtain ⟨k, hk⟩ := item_kv (h2 _ rfl) hx
        exact nodeOf_up S hk s
    | _ => cases hl
end
def spNO (C : Addr) (Cs : Nat → Addr) : Sp := fun vs H Q _ => ∃ (v : V) (kv : Kv) (ks : List Kv), vs = [v] ∧ FvAt C Cs H v kv ks ∧ ∀ (H' : Hp) (D : Addr), H D = none → Same H H' → H' D = some (.lst ((kidsV C H v).map V.ref)) → Q (.ref D) H'
section
variable {P : Program} {w : World} {K : PySem.W.Frag} {mg : Str → Option Value} {base : Heap} {C : Addr} {Cs : Nat → Addr}
theorem ok_no {f : Addr} {fd : FuncData} (F : Fun K "nodes_of" "nodes_of" sNO f fd) (Z : Blt mg) (S : Kits K C Cs) (mN : mg "Node" = some (.ref C)) : FnOk P w K mg base CX0 1 f fd ["value"] (spNO C Cs) := by
  refine F.ok scNO (fun vs H Q E h => ?_) (fun cdv A outer s H vs Q E hr h => ?_)
  · obtain ⟨v, kv, ks, rfl, _⟩ := h
    rfl
  obtain ⟨v, kv, ks, rfl, hf, q⟩ := h
  have isiK : ∀ X : Cx, X.K = K → CallR X (.builtin "isinstance") (rIsi K) := fun X e => e ▸ call_isi
  refine ⟨_, pss_cons (ps_set (i := 1) scNO.nd rfl (.inl rfl) (pe_ifExp (pt_val (pe_callB call_isi (by rfl) Z.isI (by decide +kernel) (pa_cons (pv 0) (pa_cons (pe_bltn (v := .ty "list") (by rfl) Z.ls (by decide +kernel) rfl) pa_nil)))) (pv 0) (pe_lst (pa_cons (pv 0) pa_nil))))
    (pss_one (ps_ret (pe_lc (own := [("item", 2)]) (g := gName 2) (tt := tB (tCB (rIsi K) (tCons (tVar 2) (tCons (tC (.ref C)) tNil)))) rfl scNO.nd (pi_list (pv 1))
        (blkOk_by (own := [("item", 2)]) (N := ["value", "items", "item"]) (sc := defScope sNO) (by decide +kernel)) (fun _ _ _ _ _ => pg_name (i := 2) scNO.nd rfl (.inl rfl))
        (fun _ _ _ _ _ => pts_one (pt_val (pe_callB (isiK _ rfl) (by rfl) Z.isI (by decide +kernel) (pa_cons (pv 2) (pa_cons (pe_glob (v := .ref C) rfl mN rfl) pa_nil)))))
        (fun _ _ _ _ _ => pv 2)))), ?_⟩
  refine ⟨_, rfl, v, .ty "list", _, _, _, rfl, .ty _, hf.1.ty S, kit_list S hf.1, _, rfl, ?_⟩
  -- the list of items: at a, the items xs
  have go : ∀ (H1 : Hp) (a : Addr) (xs : List V), Same H H1 → H1 a = some (.lst xs) → xs.length ≤ 1000 → (∀ x ∈ xs, ∃ k, KvAt C Cs H x k) → xs.filterMap (nodeOf C H) = kidsV C H v →
      tRet (tLc (iList K (tVar 1)) (gName 2) (tB (tCB (rIsi K) (tCons (tVar 2) (tCons (tC (.ref C)) tNil)))) (tVar 2) [2]) { nx := fun _ H' => Q .non H', rt := Q } [some v, some (.ref a), none] H1 := fun H1 a xs s1 ha hl hx ek => by
    refine ⟨_, rfl, a, rfl, ⟨_, SqL.of ha⟩, fun D nD => ?_⟩
    have Da : a ≠ D := ne_of_none ha nD
    refine lc_list (K := K) (a := a) (xs := xs) (fun i H3 => Same H1 H3 ∧ H3 D = some (.lst (((xs.take i).filterMap (nodeOf C H)).map V.ref))) ⟨same_new nD, by rw [upd_same]; rfl⟩ (fun i H3 _ ⟨s3, _⟩ => SqL.of (s3 _ _ ha)) ?_ ?_
    · rintro i x H3 hxi ⟨s3, h3⟩
      obtain ⟨k, hk⟩ := hx x (List.mem_of_getElem? hxi)
      have hk3 := (hk.up s1).up s3
      refine ⟨rfl, ?_⟩
      refine ⟨_, rfl, x, .ref C, _, _, _, rfl, .own _, hk3.ty S, kit_node S hk3, _, rfl, ?_⟩
      have et : (xs.take (i + 1)).filterMap (nodeOf C H) = (xs.take i).filterMap (nodeOf C H) ++ (nodeOf C H x).toList := by
        rw [List.take_succ, hxi, List.filterMap_append]
        show _ ++ List.filterMap (nodeOf C H) [x] = _
        rw [fm_one]
      cases hn : isNode k with
      | true =>
        refine iteT ?_
        obtain ⟨b, e1, e2⟩ := nodeOf_yes hk hn
        refine ⟨_, rfl, _, h3, ?_, fun c o e => ?_, ?_⟩
        · have z : (1000 : Nat) < sizeLine := by decide
          have z1 := List.length_filterMap_le (nodeOf C H) (xs.take i)
          rw [List.length_take] at z1
          rw [List.length_map]
          omega
        · rw [upd_ne (ne_of_none e nD)]
          exact s3 _ _ e
        · rw [upd_same, et, e2, List.map_append, e1]
          rfl
      | false =>
        refine iteF ?_
        refine ⟨s3, ?_⟩
        rw [et, nodeOf_no S hk hn]
        show _ = some (HO.lst ((_ ++ []).map V.ref))
        rw [List.append_nil]
        exact h3
    · rintro H3 ⟨s3, h3⟩
      rw [List.take_length, ek] at h3
      refine q H3 D ?_ (s1.trans s3) h3
      exact s1.free nD
  cases hl : isLst kv with
  | true =>
    refine iteT ?_
    obtain ⟨h1, h2⟩ := hf
    cases h1 with
    | lst ha hb =>
      exact ⟨_, rfl, go H _ _ (Same.refl H) ha hb (fun x hx => item_kv (h2 _ rfl) hx) (kidsV_lst ha).symm⟩
    | _ => cases hl
  | false =>
    refine iteF ?_
    refine ⟨_, rfl, by show 1 ≤ sizeLine; decide, fun a na => ?_⟩
    refine go _ a [v] (same_new na) upd_same (by show 1 ≤ 1000; decide) (fun x hx => by rw [List.mem_singleton.mp hx]; exact ⟨_, hf.1⟩) ?_
    rw [kidsV_one S hf.1 hl]
    exact fm_one _ _
end
end K5

namespace K5
open PySem PySem.Spec PyProof.Rows L2 StX RZ TL
/-! ### is_tree -/
structure NodeOk (C : Addr) (Cs : Nat → Addr) (H : Hp) (S : Addr → Prop) (p : Addr) (k : Str) (d : Addr) (rs : List (Str × Str × Str)) (vs : List V) : Prop where
  at_ : ∃ dx, H p = some (.ins C dx (nodeFs k d))
  row : Fld.lookup k = some rs
  dk : H d = some (.dK (fkv (namesOf rs) vs))
  len : vs.length = rs.length
  vals : ∀ v ∈ vs, ∃ kv ks, FvAt C Cs H v kv ks ∧ ∀ k ∈ ks, isLst kv = true → isLst k = false
  kids : ∀ c ∈ vs.flatMap (kidsV C H), S c
def valsO (H : Hp) : Kv → List V
  | .node _ d => (match H d with
    | some (.dK kvs) => kvs.map Prod.snd
    | _ => [])
  | _ => []
def rowsO : Kv → List (Str × Str × Str)
  | .node k _ => (Fld.lookup k).getD []
  | _ => []
def valsP (C : Addr) (Cs : Nat → Addr) (H : Hp) (p : Addr) : List V := valsO H (kvO C Cs (H p))
def rowsP (C : Addr) (Cs : Nat → Addr) (H : Hp) (p : Addr) : List (Str × Str × Str) := rowsO (kvO C Cs (H p))
def kidsP (C : Addr) (Cs : Nat → Addr) (H : Hp) (p : Addr) : List Addr := (valsP C Cs H p).flatMap (kidsV C H)
def locOk (C : Addr) (Cs : Nat → Addr) (H : Hp) (p : Addr) : Prop := ∀ (i : Nat) v r, (valsP C Cs H p)[i]? = some v → (rowsP C Cs H p)[i]? = some r → fitF C Cs H r.2.1 r.2.2 v = true
inductive Tr (C : Addr) (Cs : Nat → Addr) (H : Hp) : Addr → Prop where
  | mk {p : Addr} (l : locOk C Cs H p) (k : ∀ c ∈ kidsP C Cs H p, Tr C Cs H c) : Tr C Cs H p
theorem Tr.iff {C : Addr} {Cs : Nat → Addr} {H : Hp} {p : Addr} : Tr C Cs H p ↔ locOk C Cs H p ∧ ∀ c ∈ kidsP C Cs H p, Tr C Cs H c := ⟨fun h => by cases h with | mk l k => exact ⟨l, k⟩, fun h => .mk h.1 h.2⟩
theorem snd_fkv : ∀ {ns : List Str} {vs : List V}, vs.length = ns.length → (fkv ns vs).map Prod.snd = vs
  | [], [], _ => rfl
  | n :: ns, v :: vs, h => by
    show v :: (fkv ns vs).map Prod.snd = _
    rw [snd_fkv (Nat.succ.inj h)]
  | [], _ :: _, h => by cases h
  | _ :: _, [], h => by cases h
theorem valV_fkv : ∀ {ns : List Str} {vs : List V} {i : Nat} {nm : Str} {v : V}, ns.Nodup → ns[i]? = some nm → vs[i]? = some v → valV (fkv ns vs) (Sum.inr nm) = some v
  | [], vs, i, nm, v, _, h, _ => by simp at h
  | n :: ns, [], i, nm, v, _, _, h => by simp at h
  | n :: ns, u :: vs, 0, nm, v, _, h1, h2 => by
    cases h1
    cases h2
    exact valV_pos rfl
  | n :: ns, u :: vs, i + 1, nm, v, hn, h1, h2 => by
    have n2 := List.nodup_cons.mp hn
    have ne : n ≠ nm := fun z => n2.1 (z ▸ List.mem_of_getElem? (show ns[i]? = some nm from h1))
    show valV ((Sum.inr n, u) :: fkv ns vs) (Sum.inr nm) = _
    rw [valV_neg (fun z => ne (Sum.inr.inj z))]
    exact valV_fkv n2.2 h1 h2
section
variable {C : Addr} {Cs : Nat → Addr} {H H' : Hp} {S : Addr → Prop} {p d : Addr} {k : Str} {rs : List (Str × Str × Str)} {vs : List V}
theorem NodeOk.kv (N : NodeOk C Cs H S p k d rs vs) : kvO C Cs (H p) = .node k d := by
  obtain ⟨dx, h⟩ := N.at_
  rw [h]
  show (if C = C then _ else _) = _
  rw [if_pos rfl]
theorem NodeOk.rp (N : NodeOk C Cs H S p k d rs vs) : rowsP C Cs H p = rs := by
  unfold rowsP
  rw [N.kv]
  show (Fld.lookup k).getD [] = rs
  rw [N.row]
  rfl
theorem NodeOk.vp (N : NodeOk C Cs H S p k d rs vs) : valsP C Cs H p = vs := by
  unfold valsP
  rw [N.kv]
  show (match H d with | some (.dK kvs) => kvs.map Prod.snd | _ => []) = vs
  rw [N.dk]
  exact snd_fkv (by unfold namesOf; rw [List.length_map, N.len])
theorem NodeOk.kp (N : NodeOk C Cs H S p k d rs vs) : kidsP C Cs H p = vs.flatMap (kidsV C H) := by
  unfold kidsP
  rw [N.vp]
theorem rule_of {k : Str} {rs : List (Str × Str × Str)} (h : Fld.lookup k = some rs) {r : Str × Str × Str} (hr : r ∈ rs) : r.2.1 ∈ rules := by
  have z : (Fld.all fun p => p.2.all fun r => decide (r.2.1 ∈ rules)) = true := by decide +kernel
  exact of_decide_eq_true (List.all_eq_true.mp (List.all_eq_true.mp z _ (lookMem h)) r hr)
end
def NodeW (C : Addr) (Cs : Nat → Addr) (H : Hp) (S : Addr → Prop) (wt : Addr → Nat) (p : Addr) : Prop := ∃ k d rs vs, NodeOk C Cs H S p k d rs vs ∧ 1 + ((vs.flatMap (kidsV C H)).map wt).sum ≤ wt p
def spTree (C : Addr) (Cs : Nat → Addr) : Sp := fun vs H Q _ => ∃ (v : V) (kv : Kv) (S : Addr → Prop) (wt : Addr → Nat), vs = [v] ∧ KvAt C Cs H v kv ∧ (∀ p, v = .ref p → isNode kv = true → S p ∧ wt p ≤ 1000000) ∧ (∀ q, S q → NodeW C Cs H S wt q) ∧
  ∀ (H' : Hp) (b : Bool), Same H H' → (b = true ↔ ∃ p, v = .ref p ∧ isNode kv = true ∧ Tr C Cs H p) → Q (.bl b) H'
abbrev nTree : List Str := ["thing", "waiting", "node", "name", "rule", "mark", "value"]
theorem scTree : FnScope nTree ["thing"] (defScope sTree) := ⟨rfl, rfl, rfl, by decide +kernel, rfl, by decide +kernel, by decide +kernel⟩
theorem sum_ge : ∀ {ps : List Addr} {wt : Addr → Nat}, (∀ q ∈ ps, 1 ≤ wt q) → ps.length ≤ (ps.map wt).sum
  | [], _, _ => Nat.le_refl _
  | q :: r, wt, h => by
    have h1 := h q (List.mem_cons_self ..)
    have h2 := sum_ge (ps := r) (wt := wt) fun x hx => h x (List.mem_cons_of_mem _ hx)
    simp only [List.length_cons, List.map_cons, List.sum_cons]
    omega
section
variable {P : Program} {w : World} {K : PySem.W.Frag} {mg : Str → Option Value} {base : Heap} {aF aG C fG fS : Addr} {eF eG : Array DictEntry} {nF nG : Nat} {Cs : Nat → Addr}
theorem ok_tree {f fT fN : Addr} {fd gd dT dN : FuncData} (F : Fun K "is_tree" "is_tree" sTree f fd) (T : Tabs K w mg aF aG eF eG nF nG) (Z : Blt mg) (Sk : Kits K C Cs) (Nf : NodeF K C) (mN : mg "Node" = some (.ref C)) (Nc : NodeC K C fG fS)
    (G : FnOk P w K mg base CX0 1 fG gd ["self", "at"] (spGet C)) (bG : Binds K gd ["self", "at"] [])
    (O : FnOk P w K mg base CX0 5 fT dT ["value", "rule", "mark"] (spFit C Cs)) (bO : Binds K dT ["value", "rule", "mark"] []) (kO : PySem.W.keepIn K (.ref fT) = true) (mO : mg "_fits" = some (.ref fT))
    (U : FnOk P w K mg base CX0 1 fN dN ["value"] (spNO C Cs)) (bU : Binds K dN ["value"] []) (kU : PySem.W.keepIn K (.ref fN) = true) (mU : mg "nodes_of" = some (.ref fN)) :
    FnOk P w K mg base CX0 6 f fd ["thing"] (spTree C Cs) := by
  refine F.ok scTree (fun vs H Q E h => ?_) (fun cdv A outer s H vs Q E hr h => ?_)
  · obtain ⟨v, kv, S, wt, rfl, _⟩ := h
    rfl
  obtain ⟨v, kv, S, wt, rfl, hv, hS, hW, q⟩ := h
  have hr1 := hr.mono (show 1 ≤ 5 by omega)
  have hr2 := hr.mono (show 2 ≤ 5 by omega)
  refine ⟨_, pss_cons (ps_if (pt_not (pt_val (pe_callB call_isi (by rfl) Z.isI (by decide +kernel) (pa_cons (pv 0) (pa_cons (pe_glob (v := .ref C) rfl mN rfl) pa_nil))))) (pss_one (ps_ret pe_bl)) pss_nil)
    (pss_cons (ps_set (i := 1) scTree.nd rfl (.inl rfl) (pe_lst (pa_cons (pv 0) pa_nil)))
    (C8.pss_cut (ps_while PassesOwn.never (pt_truth (pv 1) (fun _ => rfl))
      (pss_cons (ps_set (i := 2) scTree.nd rfl (.inl rfl) (pe_bm0 PySem.F.plainAttrs_list PySem.F.slot_list_pop PySem.F.type_list_pop mt_pop (pv 1)))
      (pss_one (ps_for PassesOwn.never rfl (pi_tup (pe_ix ix_kdict (pe_glob (v := .ref aF) rfl T.mF rfl) (pe_fld (pv 2) rfl) (fun _ _ => rfl)))
        (pg_tup rfl (pgs_cons (pg_name (i := 3) scTree.nd rfl (.inl rfl)) (pgs_cons (pg_name (i := 4) scTree.nd rfl (.inl rfl)) (pgs_cons (pg_name (i := 5) scTree.nd rfl (.inl rfl)) pgs_nil))))
        (pss_cons (ps_set (i := 6) scTree.nd rfl (.inl rfl) (pe_ixN Nc G bG hr2 (pv 2) (pv 3)))
        (pss_cons (ps_if (pt_not (pt_val (pe_call O hr rfl mO kO bO .nil pass0 (pa_cons (pv 6) (pa_cons (pv 4) (pa_cons (pv 5) pa_nil)))))) (pss_one (ps_ret pe_bl)) pss_nil)
        (pss_one (ps_expr (pe_bm PySem.F.plainAttrs_list PySem.F.slot_list_extend PySem.F.type_list_extend mt_extend (pv 1) (pa_cons (pe_call U hr1 rfl mU kU bU .nil pass0 (pa_cons (pv 6) pa_nil)) pa_nil))))))))))
    (pss_one (ps_ret pe_bl)))), ?_⟩
  refine ⟨_, rfl, v, .ref C, _, _, _, rfl, .own _, hv.ty Sk, kit_node Sk hv, _, rfl, ?_⟩
  cases hn : isNode kv with
  | false =>
    refine iteT ?_
    exact q H false (Same.refl H) ⟨fun z => (by cases z), fun ⟨p, _, z, _⟩ => by rw [hn] at z; cases z⟩
  | true =>
    refine iteF ?_
    obtain ⟨p, rfl, _⟩ := nodeOf_yes hv hn
    obtain ⟨Sp0, wp0⟩ := hS p rfl hn
    have q' : ∀ (H' : Hp) (b : Bool), Same H H' → (b = true ↔ Tr C Cs H p) → Q (.bl b) H' := fun H' b s1 e => q H' b s1 (e.trans ⟨fun z => ⟨p, rfl, hn, z⟩, fun ⟨p', e1, _, z⟩ => by cases e1; exact z⟩)
    refine ⟨_, rfl, by show 1 ≤ sizeLine; decide, fun l nl => ?_⟩
    refine ⟨fun σ H1 => Same H H1 ∧ Tr C Cs H p, ⟨fun n σ H1 => ∃ x2 x3 x4 x5 x6 ps, σ = [some (.ref p), some (.ref l), x2, x3, x4, x5, x6] ∧ Same H H1 ∧ H1 l = some (.lst (ps.map V.ref)) ∧ (∀ c ∈ ps, S c) ∧ (Tr C Cs H p ↔ ∀ c ∈ ps, Tr C Cs H c) ∧ (ps.map wt).sum = n ∧ n ≤ 1000000,
      ⟨wt p, none, none, none, none, none, [p], rfl, same_new nl, by rw [upd_same]; rfl, fun c hc => by rw [List.mem_singleton.mp hc]; exact Sp0, ⟨fun z c hc => by rw [List.mem_singleton.mp hc]; exact z, fun z => z p (List.mem_singleton.mpr rfl)⟩, by simp, wp0⟩, ?_⟩, ?_⟩
    · rintro n σ H1 ⟨x2, x3, x4, x5, x6, ps, rfl, s1, hl, hps, htr, hsum, hle⟩
      refine ⟨_, rfl, _, .inl ⟨_, SqL.of hl, rfl⟩, ?_⟩
      rcases List.eq_nil_or_concat ps with e | ⟨ps', c, e⟩
      · subst e
        refine iteF ?_
        exact ⟨s1, htr.mpr fun c hc => by cases hc⟩
      · rw [List.concat_eq_append] at e
        subst e
        rw [show (!((ps' ++ [c]).map V.ref).isEmpty) = true from by simp]
        refine iteT ?_
        have Sc : S c := hps c (by simp)
        obtain ⟨k, d, rs, vs, N, hw⟩ := hW c Sc
        obtain ⟨dx, hc⟩ := N.at_
        have hc1 := s1 _ _ hc
        have hd1 := s1 _ _ N.dk
        have e1 : (ps' ++ [c]).map V.ref = ps'.map V.ref ++ [V.ref c] := by rw [List.map_append]; rfl
        rw [e1] at hl
        have hsum' : (ps'.map wt).sum + wt c = n := by rw [← hsum, List.map_append, List.sum_append]; simp
        have wt1 : ∀ x, S x → 1 ≤ wt x := fun x hx => by
          obtain ⟨_, _, _, _, _, z⟩ := hW x hx
          omega
        refine ⟨fun σ' H' => ∃ x2 x3 x4 x5 x6 ps, σ' = [some (.ref p), some (.ref l), x2, x3, x4, x5, x6] ∧ Same H H' ∧ H' l = some (.lst (ps.map V.ref)) ∧ (∀ c ∈ ps, S c) ∧ (Tr C Cs H p ↔ ∀ c ∈ ps, Tr C Cs H c) ∧ (ps.map wt).sum < n,
          fun σ' H' ⟨y2, y3, y4, y5, y6, ps, e, s', hl', hp', ht', hs'⟩ => ⟨(ps.map wt).sum, hs', y2, y3, y4, y5, y6, ps, e, s', hl', hp', ht', rfl, by omega⟩, ?_⟩
        refine ⟨_, rfl, .inl ⟨rfl, _, SqL.of hl⟩, l, _, .ref c, rfl, rfl, hl, by simp, ?_⟩
        have nH : H l = none := nl
        have e2 : (ps'.map V.ref ++ [V.ref c]).dropLast = ps'.map V.ref := by simp
        rw [e2]
        obtain ⟨aR, haR, as, hsR, hlR, hpR⟩ := fldIs_at T.oF N.row
        have cl : c ≠ l := fun z => by rw [z, nH] at hc; cases hc
        have dl : d ≠ l := fun z => by have := N.dk; rw [z, nH] at this; cases this
        have sx : ∀ {H' : Hp} {o : HO}, (∀ b u, b ≠ l → H1 b = some u → H' b = some u) → Same H H' := fun {H' o} kk b u e => kk b u (fun z => by rw [z, nH] at e; cases e) (s1 b u e)
        have sU : Same H (upd H1 l (.lst (ps'.map V.ref))) := fun b u e => by
          rw [upd_ne (fun z => by rw [z, nH] at e; cases e)]
          exact s1 b u e
        refine ⟨_, rfl, c, C, dx, _, .str k, rfl, sU _ _ hc, Nf.cl, Nf.n1, rfl, aF, k, .ref aR, rfl, rfl, T.kd haR, aR, rfl, ⟨_, hsR _⟩, ?_⟩
        have hnd := rows_nodup N.row
        have hlv := N.len
        have sub : ∀ j, (((vs.take j).flatMap (kidsV C H)).map wt).sum ≤ ((vs.flatMap (kidsV C H)).map wt).sum := fun j => by
          have e : vs.flatMap (kidsV C H) = (vs.take j).flatMap (kidsV C H) ++ (vs.drop j).flatMap (kidsV C H) := by rw [← List.flatMap_append, List.take_append_drop]
          rw [e, List.map_append, List.sum_append]
          exact Nat.le_add_right _ _
        have inS : ∀ j, ∀ x ∈ ps' ++ (vs.take j).flatMap (kidsV C H), S x := fun j x hx => by
          rcases List.mem_append.mp hx with h | h
          · exact hps x (List.mem_append_left _ h)
          · obtain ⟨u, hu, hxu⟩ := List.mem_flatMap.mp h
            exact N.kids x (List.mem_flatMap.mpr ⟨u, List.mem_of_mem_take hu, hxu⟩)
        have small : ∀ j, (ps' ++ (vs.take j).flatMap (kidsV C H)).length ≤ 1000000 := fun j => by
          have h1 := sum_ge (ps := ps' ++ (vs.take j).flatMap (kidsV C H)) (wt := wt) fun x hx => wt1 x (inS j x hx)
          rw [List.map_append, List.sum_append] at h1
          have h2 := sub j
          omega
        refine for_tup (K := K) (a := aR) (xs := as.map V.ref) (fun i σ H3 => ∃ x3 x4 x5 x6, σ = [some (.ref p), some (.ref l), some (.ref c), x3, x4, x5, x6] ∧ Same H H3 ∧ H3 l = some (.lst ((ps' ++ (vs.take i).flatMap (kidsV C H)).map V.ref)) ∧
            (∀ (j : Nat) v r, j < i → vs[j]? = some v → rs[j]? = some r → fitF C Cs H r.2.1 r.2.2 v = true)) ⟨x3, x4, x5, x6, rfl, sU, by rw [upd_same]; simp, fun j v r z => absurd z (Nat.not_lt_zero _)⟩ (fun i σ H3 _ _ => hsR _) ?_ ?_
        · rintro i x σ H3 hx ⟨y3, y4, y5, y6, rfl, s3, h3, hfit⟩
          rw [List.getElem?_map] at hx
          obtain ⟨b, hb, rfl⟩ : ∃ b, as[i]? = some b ∧ x = .ref b := by
            cases z : as[i]? with
            | none => rw [z] at hx; cases hx
            | some b => rw [z] at hx; cases hx; exact ⟨b, rfl, rfl⟩
          have hi : i < rs.length := by
            rcases Nat.lt_or_ge i as.length with z | z
            · omega
            · rw [List.getElem?_eq_none z] at hb; cases hb
          obtain ⟨r, hr'⟩ : ∃ r, rs[i]? = some r := ⟨_, List.getElem?_eq_getElem hi⟩
          obtain ⟨u, hu⟩ : ∃ u, vs[i]? = some u := ⟨_, List.getElem?_eq_getElem (by omega)⟩
          obtain ⟨ku, ksu, hfu, _⟩ := N.vals u (List.mem_of_getElem? hu)
          have hnm : (namesOf rs)[i]? = some r.1 := by unfold namesOf; rw [List.getElem?_map, hr']; rfl
          refine ⟨b, [.str r.1, .str r.2.1, .str r.2.2], rfl, hpR i b r hb hr' H3, rfl, _, _, rfl, _, _, rfl, _, _, rfl, rfl, ?_⟩
          refine ⟨_, rfl, _, rfl, c, dx, d, r.1, nodeFs k d, _, u, rfl, rfl, s3 _ _ hc, rfl, s3 _ _ N.dk, valV_fkv hnd hnm hu, ?_⟩
          refine ⟨_, rfl, _, rfl, _, rfl, u, r.2.1, r.2.2, ku, ksu, rfl, hfu.up s3, rule_of N.row (List.mem_of_getElem? hr'), fun H4 s4 => ⟨_, rfl, ?_⟩⟩
          have s04 := s3.trans s4
          have ef := fitF_of Sk hfu r.2.1 r.2.2
          cases hfit1 : fitV r.2.1 r.2.2 ku ksu with
          | false =>
            refine iteT ?_
            refine q' H4 false s04 ⟨fun z => by (cases z), fun ht => ?_⟩
            have tc := htr.mp ht c (by simp)
            have lo := (Tr.iff.mp tc).1 i u r (by rw [N.vp]; exact hu) (by rw [N.rp]; exact hr')
            rw [ef, hfit1] at lo
            exact lo
          | true =>
            refine iteF ?_
            have h4 := s4 _ _ h3
            refine ⟨_, rfl, .inl ⟨rfl, _, SqL.of h4⟩, _, rfl, u, ku, ksu, rfl, hfu.up s04, fun H5 D nD s5 hD => ?_⟩
            rw [kidsV_up Sk hfu s04] at hD
            have e5 : (ps' ++ (vs.take (i + 1)).flatMap (kidsV C H)).map V.ref = (ps' ++ (vs.take i).flatMap (kidsV C H)).map V.ref ++ (kidsV C H u).map V.ref := by
              rw [List.take_succ, hu, List.flatMap_append, ← List.append_assoc, List.map_append]
              show _ ++ (List.flatMap (kidsV C H) [u]).map V.ref = _
              rw [List.flatMap_singleton]
            have sz := small (i + 1)
            have e6 := congrArg List.length e5
            rw [List.length_map] at e6
            have sL : (1000000 : Nat) ≤ sizeLine := by decide
            refine ⟨l, D, _, _, rfl, rfl, s5 _ _ h4, hD, by rw [← List.length_append, ← e6]; omega, _, _, _, _, rfl, ?_, ?_, ?_⟩
            · intro a o e
              rw [upd_ne (fun z => by rw [z, nH] at e; cases e)]
              exact s5 _ _ (s04 a o e)
            · rw [upd_same, e5]
            · intro j v r2 hj g1 g2
              by_cases ej : j = i
              · subst ej
                rw [hu] at g1
                rw [hr'] at g2
                cases g1
                cases g2
                rw [ef, hfit1]
              · exact hfit j v r2 (by omega) g1 g2
        · rintro σ H3 ⟨y3, y4, y5, y6, rfl, s3, h3, hfit⟩
          have e7 : (as.map V.ref).length = vs.length := by rw [List.length_map, hlR, hlv]
          rw [e7, List.take_length] at h3
          have hin := inS vs.length
          rw [List.take_length] at hin
          refine ⟨_, _, _, _, _, ps' ++ vs.flatMap (kidsV C H), rfl, s3, h3, hin, ?_, ?_⟩
          · have tc : Tr C Cs H c ↔ ∀ x ∈ vs.flatMap (kidsV C H), Tr C Cs H x := by
              rw [Tr.iff, N.kp]
              refine ⟨fun z => z.2, fun z => ⟨fun j v r g1 g2 => ?_, z⟩⟩
              rw [N.vp] at g1
              rw [N.rp] at g2
              refine hfit j v r ?_ g1 g2
              rcases Nat.lt_or_ge j vs.length with y | y
              · rw [e7]; exact y
              · rw [List.getElem?_eq_none y] at g1; cases g1
            rw [htr]
            constructor
            · intro z x hx
              rcases List.mem_append.mp hx with h | h
              · exact z x (List.mem_append_left _ h)
              · exact tc.mp (z c (by simp)) x h
            · intro z x hx
              rcases List.mem_append.mp hx with h | h
              · exact z x (List.mem_append_left _ h)
              · rw [List.mem_singleton.mp h]
                exact tc.mpr fun y hy => z y (List.mem_append_right _ hy)
          · rw [List.map_append, List.sum_append]
            omega
    · rintro σ H1 ⟨s1, ht⟩
      exact q' H1 true s1 ⟨fun _ => ht, fun _ => rfl⟩
end
end K5

namespace K5
open PySem PySem.Spec PyProof.Rows L2 StX RZ TL
/-! ### the law's look at a name and at a number -/
abbrev sIW : Stmt := topS 46
abbrev sIN : Stmt := topS 47
theorem scIW : FnScope ["_law_thing", "_law_letters", "_law_sign"] ["_law_thing"] (defScope sIW) := ⟨rfl, rfl, rfl, by decide +kernel, rfl, by decide +kernel, by decide +kernel⟩
theorem scIN : FnScope ["_law_thing", "_law_some"] ["_law_thing", "_law_some"] (defScope sIN) := ⟨rfl, rfl, rfl, by decide +kernel, rfl, by decide +kernel, by decide +kernel⟩
def lets53 : Str := "abcdefghijklmnopqrstuvwxyzABCDEFGHIJKLMNOPQRSTUVWXYZ_"
def digs : Str := "0123456789"
def isLet (c : Nat) : Bool := decide (c ∈ lets53.cps.toList)
def isDig (c : Nat) : Bool := decide (c ∈ digs.cps.toList)
theorem ascii_tab : ((List.range 128).all fun c => (Unicode.isNameStart c == isLet c) && (Unicode.isNameContinue c == (isLet c || isDig c))) = true := by decide +kernel
theorem low_lets : (lets53.cps.toList.all fun c => decide (c < 128)) = true := by decide +kernel
theorem low_digs : (digs.cps.toList.all fun c => decide (c < 128)) = true := by decide +kernel
theorem isLet_low {c : Nat} (h : isLet c = true) : c < 128 := of_decide_eq_true (List.all_eq_true.mp low_lets c (of_decide_eq_true h))
theorem isDig_low {c : Nat} (h : isDig c = true) : c < 128 := of_decide_eq_true (List.all_eq_true.mp low_digs c (of_decide_eq_true h))
def wdL : List Nat → Bool
  | [] => false
  | c :: r => isLet c && (c :: r).all fun d => isLet d || isDig d
theorem all_sw : ∀ r : List Nat, (r.all (fun c => decide (c < 128)) && r.all Unicode.isNameContinue) = r.all fun d => isLet d || isDig d
  | [] => rfl
  | c :: r => by
    have ih := all_sw r
    simp only [List.all_cons]
    by_cases hc : c < 128
    · have z := List.all_eq_true.mp ascii_tab c (List.mem_range.mpr hc)
      obtain ⟨_, z2⟩ := Bool.and_eq_true_iff.mp z
      rw [beq_iff_eq.mp z2, ← ih, decide_eq_true hc]
      cases isLet c <;> cases isDig c <;> cases r.all (fun c => decide (c < 128)) <;> rfl
    · have h1 : isLet c = false := by
        cases h : isLet c with
        | false => rfl
        | true => exact absurd (isLet_low h) hc
      have h2 : isDig c = false := by
        cases h : isDig c with
        | false => rfl
        | true => exact absurd (isDig_low h) hc
      rw [h1, h2, decide_eq_false hc]
      rfl
theorem isNm_wd (x : Str) : isNm x = wdL x.cps.toList := by
  have e1 : Txt.isascii x = x.cps.toList.all fun c => decide (c < 128) := by
    show x.cps.all (fun c => decide (c < 128)) = _
    rw [← Array.all_toList]
  have e2 : Txt.isidentifier x = (match x.cps.toList with | [] => false | c :: rest => Unicode.isNameStart c && rest.all Unicode.isNameContinue) := rfl
  unfold isNm
  rw [e1, e2]
  cases x.cps.toList with
  | nil => rfl
  | cons c r =>
    have ih := all_sw r
    show (((c :: r).all fun c => decide (c < 128)) && (Unicode.isNameStart c && r.all Unicode.isNameContinue)) = (isLet c && (c :: r).all fun d => isLet d || isDig d)
    simp only [List.all_cons]
    rw [← ih]
    by_cases hc : c < 128
    · have z := List.all_eq_true.mp ascii_tab c (List.mem_range.mpr hc)
      obtain ⟨z1, _⟩ := Bool.and_eq_true_iff.mp z
      rw [beq_iff_eq.mp z1, decide_eq_true hc]
      cases isLet c <;> cases isDig c <;> cases r.all (fun c => decide (c < 128)) <;> rfl
    · have h1 : isLet c = false := by
        cases h : isLet c with
        | false => rfl
        | true => exact absurd (isLet_low h) hc
      rw [h1, decide_eq_false hc]
      rfl
def numF (ns : List Int) : Kv → Bool
  | .int i => (ns.isEmpty && decide (0 ≤ i)) || decide (i ∈ ns)
  | _ => false
def spNum (C : Addr) (Cs : Nat → Addr) : Sp := fun vs H Q _ => ∃ (v : V) (kv : Kv) (l : Addr) (ns : List Int), vs = [v, .ref l] ∧ KvAt C Cs H v kv ∧ H l = some (.lst (ns.map V.int)) ∧ ∀ H', Same H H' → Q (.bl (numF ns kv)) H'
theorem inV_ints (i : Int) (ns : List Int) : inV (.int i) (ns.map V.int) = decide (i ∈ ns) := by
  unfold inV
  induction ns with
  | nil => rfl
  | cons x r ih =>
    show (eqV (.int x) (.int i) || (r.map V.int).any fun y => eqV y (.int i)) = _
    rw [ih]
    have z : eqV (.int x) (.int i) = decide (i = x) := by
      unfold eqV
      by_cases h : i = x
      · subst h; simp
      · simp [h, Ne.symm h]
    rw [z]
    by_cases h : i = x
    · subst h; simp
    · simp [h, List.mem_cons]
theorem ints_flat (ns : List Int) : (ns.map V.int).all flatV = true := by
  induction ns with
  | nil => rfl
  | cons x r ih =>
    show (flatV (.int x) && (r.map V.int).all flatV) = true
    rw [ih]
    rfl
section
variable {P : Program} {w : World} {K : PySem.W.Frag} {mg : Str → Option Value} {base : Heap} {C : Addr} {Cs : Nat → Addr}
theorem ok_iw {f : Addr} {fd : FuncData} (F : Fun K "_law_is_word" "_law_is_word" sIW f fd) (Z : Blt mg) (S : Kits K C Cs) : FnOk P w K mg base CX0 1 f fd ["_law_thing"] (spK C Cs cNam) := by
  refine F.ok scIW (fun vs H Q E h => ?_) (fun cdv A outer s H vs Q E hr h => ?_)
  · obtain ⟨v, kv, rfl, _⟩ := h
    rfl
  obtain ⟨v, kv, rfl, hv, q⟩ := h
  refine ⟨_, pss_cons (ps_set (i := 1) scIW.nd rfl (.inr rfl) pe_str)
    (C8.pss_cut (ps_if (PW.pt (pw_or (pt_not (pt_val (pe_callB call_isi (by rfl) Z.isI (by decide +kernel) (pa_cons (pv 0) (pa_cons (pe_bltn (v := .ty "str") (by rfl) Z.st (by decide +kernel) rfl) pa_nil)))))
        (pw_or (pt_cmpR op_eq (pv 0) pe_str (nomark _)) (pw_or1 (pt_cmpR op_notIn_sign (pe_ix ix_str (pv 0) pe_int (fun _ _ => rfl)) (pv 1) (by rfl)))))) (pss_one (ps_ret pe_bl)) pss_nil)
    (pss_one (ps_ret (pe_callB (cr_all rfl) (by rfl) Z.al (by decide +kernel) (pa_cons (pe_lc (own := [("_law_sign", 2)]) (g := gName 2) (tt := tYes) rfl scIW.nd (pi_str (pv 0))
        (blkOk_by (own := [("_law_sign", 2)]) (N := ["_law_thing", "_law_letters", "_law_sign"]) (sc := defScope sIW) (by decide +kernel)) (fun _ _ _ _ _ => pg_name (i := 2) scIW.nd rfl (.inl rfl)) (fun _ _ _ _ _ => pts_nil)
        (fun _ _ _ _ _ => pe_or (pe_cmpR op_in_sign (pv 2) (pv 1) (by rfl)) (pe_one (pe_cmpR op_in_sign (pv 2) pe_str (by rfl))))) pa_nil))))), ?_⟩
  refine ⟨fun σ H2 => ∃ x, v = .str x ∧ kv = .str x ∧ x.length ≤ 1000 ∧ σ = [some v, some (.str lets53), none] ∧ H2 = H ∧ wdL x.cps.toList = (x.cps.toList.all fun d => isLet d || isDig d), ?_, ?_⟩
  · refine ⟨_, rfl, v, .ty "str", _, _, _, rfl, .ty _, hv.ty S, kit_str S hv, _, rfl, ?_⟩
    cases hi : isStr kv with
    | false =>
      refine iteT (iteT ?_)
      have e : false = cNam kv := by cases kv <;> first | rfl | cases hi
      rw [e]
      exact q H (Same.refl H)
    | true =>
      cases hv with
      | str x hx =>
        have qq := q H (Same.refl H)
        have e0 : cNam (.str x) = wdL x.cps.toList := isNm_wd x
        rw [e0] at qq
        refine iteF ?_
        refine ⟨_, rfl, rfl, _, rfl, ?_⟩
        refine ite2 (fun c => iteT ?_) (fun c => ?_)
        · have c : x = "" := V.str.inj (of_decide_eq_true c)
          subst c
          exact qq
        · have c : ¬ x = "" := fun z => c (by rw [z]; simp)
          cases hl : x.cps.toList with
          | nil => exact absurd (ext_tl (show tl x = tl "" from hl)) c
          | cons a r =>
            refine ⟨_, rfl, x, 0, a, rfl, rfl, ?_, ?_, _, rfl, a, lets53, rfl, rfl, _, rfl, ?_⟩
            · have z : (1000 : Nat) ≤ sizeLine := by decide
              omega
            · rw [hl]; exact atI_nat (j := 0) rfl
            · rw [hl] at qq
              cases ha : isLet a with
              | false =>
                have ha' : decide (a ∈ lets53.cps.toList) = false := ha
                rw [ha']
                refine iteT ?_
                have e : wdL (a :: r) = false := by show (isLet a && _) = false; rw [ha]; rfl
                rw [e] at qq
                exact qq
              | true =>
                have ha' : decide (a ∈ lets53.cps.toList) = true := ha
                rw [ha']
                refine iteF ?_
                refine ⟨x, rfl, rfl, hx, rfl, rfl, ?_⟩
                rw [hl]
                show (isLet a && _) = _
                rw [ha]
                rfl
      | _ => cases hi
  · rintro σ H2 ⟨x, rfl, rfl, hx, rfl, rfl, ew⟩
    have qq := q
    have e0 : cNam (.str x) = wdL x.cps.toList := isNm_wd x
    rw [e0, ew] at qq
    refine ⟨_, rfl, x, rfl, fun D nD => ?_⟩
    refine lc_it (walk_str (z := x)) (fun i H3 => Same H2 H3 ∧ H3 D = some (.lst (((x.cps.toList.take i).map fun d => isLet d || isDig d).map V.bl))) ⟨same_new nD, by rw [upd_same]; rfl⟩ (fun _ _ _ _ => trivial) ?_ ?_
    · rintro i u H3 H4 hi ⟨s3, h3⟩ ⟨rfl, c, hc, rfl⟩
      refine ⟨rfl, ?_⟩
      unfold tYes
      refine iteT ?_
      have hcl : x.cps.toList[i]? = some c := by rw [← hc]; simp
      have fin : ∀ b, b = (isLet c || isDig c) → ∃ acc, H4 D = some (.lst acc) ∧ acc.length < sizeLine ∧ (Same H2 (upd H4 D (.lst (acc ++ [V.bl b]))) ∧ (upd H4 D (.lst (acc ++ [V.bl b]))) D = some (.lst (((x.cps.toList.take (i + 1)).map fun d => isLet d || isDig d).map V.bl))) := fun b eb => by
        refine ⟨_, h3, ?_, fun a o e => ?_, ?_⟩
        · have z : (1000 : Nat) < sizeLine := by decide
          have z2 : x.length = x.cps.toList.length := len_tl x
          rw [List.length_map, List.length_map, List.length_take]
          omega
        · rw [upd_ne (ne_of_none e nD)]
          exact s3 _ _ e
        · rw [upd_same, List.take_succ, hcl, List.map_append, List.map_append, eb]
          rfl
      refine ⟨_, rfl, _, rfl, c, lets53, rfl, rfl, _, rfl, ?_⟩
      refine ite2 (fun h => ?_) (fun h => ?_)
      · have h' : isLet c = true := h
        exact fin true (by rw [h']; rfl)
      · have h' : isLet c = false := Bool.eq_false_iff.mpr h
        refine ⟨_, rfl, c, digs, rfl, rfl, ?_⟩
        exact fin _ (by rw [h']; rfl)
    · rintro H3 ⟨s3, h3⟩
      have e1 : x.cps.size = x.cps.toList.length := by simp
      rw [e1, List.take_length] at h3
      refine ⟨D, _, rfl, SqL.of h3, ?_⟩
      have e : (x.cps.toList.map fun d => isLet d || isDig d).all id = x.cps.toList.all fun d => isLet d || isDig d := by rw [List.all_map]; rfl
      rw [e]
      exact qq H3 s3
theorem ok_in {f : Addr} {fd : FuncData} (F : Fun K "_law_is_number" "_law_is_number" sIN f fd) (Z : Blt mg) (S : Kits K C Cs) : FnOk P w K mg base CX0 1 f fd ["_law_thing", "_law_some"] (spNum C Cs) := by
  refine F.ok scIN (fun vs H Q E h => ?_) (fun cdv A outer s H vs Q E hr h => ?_)
  · obtain ⟨v, kv, l, ns, rfl, _⟩ := h
    rfl
  obtain ⟨v, kv, l, ns, rfl, hv, hl, q⟩ := h
  refine ⟨_, pss_one (ps_ret (pe_and (pe_callB call_isi (by rfl) Z.isI (by decide +kernel) (pa_cons (pv 0) (pa_cons (pe_bltn (v := .ty "int") (by rfl) Z.it (by decide +kernel) rfl) pa_nil)))
    (pe_and (pe_not (pe_callB call_isi (by rfl) Z.isI (by decide +kernel) (pa_cons (pv 0) (pa_cons (pe_bltn (v := .ty "bool") (by rfl) Z.bo (by decide +kernel) rfl) pa_nil))))
    (pe_one (pe_or (pe_and (pe_cmpR (op_eqD hr.units) (pv 1) (pe_lst pa_nil) (nomark _)) (pe_one (pe_cmpR op_ge (pv 0) pe_int (nomark _)))) (pe_one (pe_cmpR op_in_seq (pv 0) (pv 1) (by rfl)))))))), ?_⟩
  refine ⟨_, rfl, v, .ty "int", _, _, _, rfl, .ty _, hv.ty S, kit_int S hv, _, rfl, ?_⟩
  refine ite2 (fun c => ?_) (fun c => ?_)
  · refine ⟨_, rfl, v, .ty "bool", _, _, _, rfl, .ty _, hv.ty S, kit_bool S hv, _, rfl, _, rfl, ?_⟩
    refine ite2 (fun c1 => ?_) (fun c1 => ?_)
    · cases hv with
      | int i =>
        refine ⟨_, rfl, Nat.zero_le _, fun e ne => ?_⟩
        have s1 := same_new (o := .lst []) ne
        have hl1 := s1 _ _ hl
        refine ⟨_, _, .lst (SqL.of hl1) (dp_ints ns), .lst (SqL.of upd_same) .nil, shaped_ints _, rfl, _, rfl, ?_⟩
        rw [eqv_ints_nil]
        have fin : ∀ b, b = numF ns (.int i) → Q (.bl b) (upd H e (.lst [])) := fun b eb => eb ▸ q _ s1
        have out : (ns.isEmpty && decide (0 ≤ i)) = false → Q (.bl (inV (.int i) (ns.map V.int))) (upd H e (.lst [])) := fun z => by
          refine fin _ ?_
          rw [inV_ints]
          show _ = ((ns.isEmpty && decide (0 ≤ i)) || decide (i ∈ ns))
          rw [z]
          rfl
        cases hz : ns.isEmpty with
        | false =>
          refine iteF ⟨_, rfl, iteF ?_⟩
          refine ⟨_, rfl, _, rfl, l, _, rfl, .inl (SqL.of hl1), rfl, ints_flat ns, ?_⟩
          rw [if_neg (by decide)]
          exact out (by rw [hz]; rfl)
        | true =>
          refine iteT ?_
          refine ⟨_, rfl, _, _, rfl, rfl, _, rfl, ?_⟩
          refine ite2 (fun c2 => ?_) (fun c2 => ?_)
          · refine fin true ?_
            show true = ((ns.isEmpty && decide (0 ≤ i)) || decide (i ∈ ns))
            rw [hz, c2]
            rfl
          · refine ⟨_, rfl, _, rfl, l, _, rfl, .inl (SqL.of hl1), rfl, ints_flat ns, ?_⟩
            rw [if_neg (by decide)]
            exact out (by rw [hz, Bool.eq_false_iff.mpr c2]; rfl)
      | bl b => cases c1
      | _ => cases c
    · have e : false = numF ns kv := by cases kv <;> first | rfl | exact absurd rfl c1
      rw [e]
      exact q H (Same.refl H)
  · have e : false = numF ns kv := by cases kv <;> first | rfl | exact absurd rfl c
    rw [e]
    exact q H (Same.refl H)
end
end K5

namespace K5
open PySem PySem.Spec PyProof.Rows L2 StX RZ TL
/-! ### the words of the law's table, beside the program's rules and marks -/
def WT0 : List (Str × Str × Str) := [("01", "BIT", ""), ("A", "DOTTED_OR_STAR", ""), ("B", "BOOLEAN", ""), ("C", "COMPARISON", ""), ("C+", "COMPARISON", "+"), ("D", "DOTTED", ""), ("D?", "DOTTED", "?"), ("E", "EXPR", ""), ("E*", "EXPR", "*"), ("E+", "EXPR", "+"), ("E?", "EXPR", "?"), ("E?*", "EXPR", "?*"), ("ExceptHandler", "ExceptHandler", ""), ("ExceptHandler*", "ExceptHandler", "*"), ("I", "COUNT", ""), ("JoinedStr", "JoinedStr", ""), ("JoinedStr?", "JoinedStr", "?"), ("L", "SINGLETON", ""), ("N", "NAME", ""), ("N*", "NAME", "*"), ("N+", "NAME", "+"), ("N?", "NAME", "?"), ("O", "OPERATOR", ""), ("P", "PATTERN", "")]
def WT1 : List (Str × Str × Str) := [("P*", "PATTERN", "*"), ("P+", "PATTERN", "+"), ("P?", "PATTERN", "?"), ("R", "CONVERSION", ""), ("S", "STMT", ""), ("S*", "STMT", "*"), ("S+", "STMT", "+"), ("U", "UNARY", ""), ("V", "VALUE", ""), ("X", "CONTEXT", ""), ("alias", "alias", ""), ("alias+", "alias", "+"), ("arg", "arg", ""), ("arg*", "arg", "*"), ("arg?", "arg", "?"), ("arguments", "arguments", ""), ("comprehension", "comprehension", ""), ("comprehension+", "comprehension", "+"), ("keyword", "keyword", ""), ("keyword*", "keyword", "*"), ("match_case", "match_case", ""), ("match_case+", "match_case", "+"), ("withitem", "withitem", ""), ("withitem+", "withitem", "+")]
def WT : List (Str × Str × Str) := WT0 ++ WT1
def lastC (w : Str) : Option Nat := atI w.cps.toList (-1)
def cutW (w : Str) : Str := cutS w none (some (-1))
def inner (m : Str) : Str := if m = "?*" then "?" else ""
def valW : List Str := ["N", "D", "A", "I", "01", "R", "L", "V"]
def someOf (w : Str) : List Str := if w = "E" then ExpRows.map Prod.fst else if w = "S" then StmRows.map Prod.fst else if w = "P" then PatRows.map Prod.fst else signs w ++ [w]
def wOk (p : Str × Str × Str) : Bool := match lastC p.1 with
  | none => false
  | some c => (decide (c ∈ ("*+" : Str).cps.toList) == decide (p.2.2 ∈ marks)) && (decide ((⟨#[c]⟩ : Str) = "+") == decide (p.2.2 = "+")) && (decide ((⟨#[c]⟩ : Str) = "?") == decide (p.2.2 = "?")) &&
    (decide (p.2.2 = "") || decide (WT.lookup (cutW p.1) = some (p.2.1, inner p.2.2))) && decide (p.1.length ≤ 100) && decide (p.2.1 ∈ rules) && (decide (p.2.2 = "") || decide (p.1 ∉ valW))
theorem WT_ok : WT.all wOk = true := by decide +kernel
def baseOk (p : Str × Str × Str) : Bool := !decide (p.2.2 = "") || decide (p.1 ∈ valW) ||
  (decide (chkN.idxOf? p.2.1 = none) && (someOf p.1).all (fun k => decide (Fld.lookup k = none) || decide (k ∈ grpOf p.2.1)) && (grpOf p.2.1).all (fun k => decide (k ∈ someOf p.1)))
theorem base_ok : WT.all baseOk = true := by decide +kernel
theorem val_rules : WT.lookup ("N" : Str) = some (("NAME", "") : Str × Str) ∧ WT.lookup ("D" : Str) = some (("DOTTED", "") : Str × Str) ∧ WT.lookup ("A" : Str) = some (("DOTTED_OR_STAR", "") : Str × Str) ∧ WT.lookup ("I" : Str) = some (("COUNT", "") : Str × Str) ∧ WT.lookup ("01" : Str) = some (("BIT", "") : Str × Str) ∧ WT.lookup ("R" : Str) = some (("CONVERSION", "") : Str × Str) ∧ WT.lookup ("L" : Str) = some (("SINGLETON", "") : Str × Str) ∧ WT.lookup ("V" : Str) = some (("VALUE", "") : Str × Str) := by decide +kernel
def partsOk : List (List Str) → List (Str × Str × Str) → Bool
  | [], [] => true
  | p :: ps, r :: rs => (match p with
    | [n, w] => decide (n = r.1) && decide (WT.lookup w = some (r.2.1, r.2.2))
    | _ => false) && partsOk ps rs
  | _, _ => false
theorem ents_ok : (Fld.all fun p => match allEnts.lookup p.1 with
    | some ps => partsOk ps p.2
    | none => false) = true := by decide +kernel
theorem partsOk_at : ∀ {ps : List (List Str)} {rs : List (Str × Str × Str)}, partsOk ps rs = true → ps.length = rs.length ∧ ∀ (i : Nat) r, rs[i]? = some r → ∃ w, ps[i]? = some [r.1, w] ∧ WT.lookup w = some (r.2.1, r.2.2)
  | [], [], _ => ⟨rfl, fun i r h => by simp at h⟩
  | p :: ps, r :: rs, h => by
    obtain ⟨h1, h2⟩ := Bool.and_eq_true_iff.mp h
    obtain ⟨hl, hp⟩ := partsOk_at h2
    refine ⟨congrArg (· + 1) hl, fun i r' e => ?_⟩
    cases i with
    | zero =>
      cases e
      split at h1
      · rename_i n w
        obtain ⟨e1, e2⟩ := Bool.and_eq_true_iff.mp h1
        exact ⟨w, by rw [← of_decide_eq_true e1]; rfl, of_decide_eq_true e2⟩
      · cases h1
    | succ i => exact hp i r' e
  | [], _ :: _, h => by cases h
  | _ :: _, [], h => by cases h
theorem lookup_ix {β : Type} {k : Str} {x : β} : ∀ {rows : List (Str × β)}, rows.lookup k = some x → ∃ i : Nat, rows[i]? = some (k, x)
  | [], h => by cases h
  | (a, y) :: r, h => by
    rw [List.lookup_cons] at h
    split at h
    · rename_i e
      cases h
      exact ⟨0, by rw [beq_iff_eq.mp e]; rfl⟩
    · obtain ⟨i, hi⟩ := lookup_ix h
      exact ⟨i + 1, hi⟩
theorem all_nodup : (allEnts.map Prod.fst).Nodup := by
  have h := (keysN 4 (by decide)).1
  have e : rowsTo 5 = rowsTo 4 ++ signRows (lets.getD 4 "") := (keysN 4 (by decide)).2.2
  rw [← e] at h
  have e2 : allEnts.map Prod.fst = (rowsTo 5).map Prod.fst := by
    unfold allEnts
    rw [List.map_map]
    rfl
  rw [e2]
  exact h
theorem valV_mkT {tail : List (Key × V)} : ∀ {ents : List (Str × List (List Str))} {vs : List Addr} {i : Nat} {k : Str} {ps : List (List Str)} {v : Addr}, (ents.map Prod.fst).Nodup → ents[i]? = some (k, ps) → vs[i]? = some v → valV (mkT ents vs ++ tail) (Sum.inr k) = some (.ref v)
  | [], vs, i, k, ps, v, _, h, _ => by simp at h
  | e :: es, [], i, k, ps, v, _, _, h => by simp at h
  | e :: es, u :: us, 0, k, ps, v, _, h1, h2 => by
    cases h1
    cases h2
    exact valV_pos rfl
  | e :: es, u :: us, i + 1, k, ps, v, hn, h1, h2 => by
    have n2 := List.nodup_cons.mp hn
    have hm : k ∈ es.map Prod.fst := List.mem_map.mpr ⟨(k, ps), List.mem_of_getElem? (show es[i]? = some (k, ps) from h1), rfl⟩
    have ne : e.1 ≠ k := fun z => n2.1 (z ▸ hm)
    show valV ((Sum.inr e.1, V.ref u) :: (mkT es us ++ tail)) (Sum.inr k) = _
    rw [valV_neg (fun z => ne (Sum.inr.inj z))]
    exact valV_mkT n2.2 h1 h2
theorem valV_tail {k : Str} {v : V} : ∀ {ents : List (Str × List (List Str))} {vs : List Addr}, k ∉ ents.map Prod.fst → vs.length = ents.length → valV (mkT ents vs ++ [(Sum.inr k, v)]) (Sum.inr k) = some v
  | [], [], _, _ => valV_pos rfl
  | e :: es, u :: us, h, hl => by
    have ne : e.1 ≠ k := fun z => h (by rw [← z]; exact List.mem_cons_self ..)
    show valV ((Sum.inr e.1, V.ref u) :: (mkT es us ++ [(Sum.inr k, v)])) (Sum.inr k) = _
    rw [valV_neg (fun z => ne (Sum.inr.inj z))]
    exact valV_tail (fun z => h (List.mem_cons_of_mem _ z)) (Nat.succ.inj hl)
  | [], _ :: _, _, h => by cases h
  | _ :: _, [], _, h => by cases h
/-- what the table tells of a kind -/
theorem TblOk.row {H : Hp} {t g e s q : Addr} {tv : List Addr} (T : TblOk H t tv g e s q) {k : Str} {rs : List (Str × Str × Str)} (hk : Fld.lookup k = some rs) :
    ∃ a ps, DGet H t (.str k) (some (.ref a)) ∧ PartsAt H a ps ∧ ps.length = rs.length ∧ ∀ (i : Nat) r, rs[i]? = some r → ∃ w, ps[i]? = some [r.1, w] ∧ WT.lookup w = some (r.2.1, r.2.2) := by
  have z := List.all_eq_true.mp ents_ok _ (lookMem hk)
  cases h : allEnts.lookup k with
  | none => rw [h] at z; cases z
  | some ps =>
    rw [h] at z
    obtain ⟨i, hi⟩ := lookup_ix h
    have il : i < allEnts.length := by
      rcases Nat.lt_or_ge i allEnts.length with y | y
      · exact y
      · rw [List.getElem?_eq_none y] at hi; cases hi
    obtain ⟨a, ha⟩ : ∃ a, tv[i]? = some a := ⟨_, List.getElem?_eq_getElem (by rw [T.len]; exact il)⟩
    obtain ⟨hl, hp⟩ := partsOk_at z
    have dg := DGet.k (k := Sum.inr k) T.at_
    rw [valV_mkT all_nodup hi ha] at dg
    exact ⟨a, ps, dg, T.pts i a _ ha hi, hl, hp⟩
theorem TblOk.up {H H' : Hp} {t g e s q : Addr} {tv : List Addr} (T : TblOk H t tv g e s q) (k : Same H H') : TblOk H' t tv g e s q :=
  ⟨T.len, k _ _ T.at_, fun i v p g1 g2 => (T.pts i v p g1 g2).same k, k _ _ T.gr, k _ _ T.ge, k _ _ T.gs, k _ _ T.gq⟩
end K5

namespace K5X
open PySem PySem.SeqAt PySem.W
open AutoSeq1 (wpAny_loadPart')
open MeetsSeq MeetsSeq2 MeetsSeq3 SeqRoads2
section
variable {prog : Program} {w : World} {A : Around} {E : Value → Shared → Prop} {s : Shared} {K : Frag} {x C : Addr} {ox : Obj} {od : Option Obj} {Q : Value → Shared → Prop}
theorem noInst (X : K.In s.heap) (I : InstAt s.heap x ox C od) {T : String} (hm : mroIn K C (.type T) = some false) : Looks (model prog w) s.heap (isInstance (.ref x) (.type T)) false := I.type.andThen (looks_mroIn X hm)
theorem noInstT (X : K.In s.heap) (I : InstAt s.heap x ox C od) {T : String} (hm : mroIn K C (.type T) = some true) : Looks (model prog w) s.heap (isInstance (.ref x) (.type T)) true := I.type.andThen (looks_mroIn X hm)
theorem str_no {dx : Addr} (b : Str) (u : Tok) (X : K.In s.heap) (I : InstAt s.heap x (instObj C dx) C od) (hm : mroIn K C (.type "str") = some false) (hq : Q .notImplemented s) : wpAny (model prog w) A (call (.builtin "str.__eq__") [.str b u, .ref x]) Q E s := by
  have L := noInst (prog := prog) (w := w) X I hm
  have ho := I.at_
  refine GQ.call_here F.slot_str_eq (typeIs_str s b u) F.entry_str_eq (F.args_str_eq_2 _ _) ?_
  obtain ⟨hp, g, d, tk, os⟩ := s
  unfold Builtin.«str.__eq__»
  repeat (first | with_reducible refine L.at ?_ | wp_step)
  exact hq

/-- x == a text, x an instance whose == is object's -/
theorem rc_obj_str {dx : Addr} {z : Str} {t : Tok} (hu : A.units < cLine) (X : K.In s.heap) (I : InstAt s.heap x (instObj C dx) C od) (he : findIn K (.ref C) "__eq__" = some (some (.builtin "object.__eq__"))) (hob : mroIn K C (.type "object") = some true)
    (hm : mroIn K C (.type "str") = some false) (hsub : subIn K (.type "str") (.ref C) = some false) (hq : Q (.bool false) s) : wpAny (model prog w) A (richCompare .Eq (.ref x) (.str z t)) Q E s := by
  have sub : Looks (model prog w) s.heap (isInstance (.ref x) (.type "object")) true := noInstT X I hob
  have entry : ∀ {R : Value → Shared → Prop}, R .notImplemented s → wpAny (model prog w) A.in1 (Builtin.«object.__eq__» ⟨[.ref x, .str z t], []⟩) (GQ.FinOf prog w A (wants R E)) (fun e s' => wants R E (.error e) s') s := fun {R} hR => by
    unfold Builtin.«object.__eq__»
    refine wpAny_bind (wpAny_of_eq (a := ((Value.ref x : Value), [Value.str z t])) (by first | rfl | (simp only [slotArgs]; rfl)) ?_)
    refine wpAny_bind (wpAny_isSame_plain rfl ?_)
    exact wpAny_pure hR
  have bnd : bindSpecial (.builtin "object.__eq__") (.ref x) = pure (.builtin "object.__eq__", [.ref x]) := F.cmp_object.eq.bind (.ref x)
  have callEq : ∀ {R : Value → Shared → Prop}, R .notImplemented s → wpAny (model prog w) A (call (.builtin "object.__eq__") [.ref x, .str z t]) R E s := fun {R} hR =>
    wpAny_call (codeAny_call_builtin F.cmp_object.eq.plain F.cmpEntry_eq (check_slot F.cmpKind_eq F.cmpSplit_eq sub (F.cmpArgs_eq _ _) (entry hR)))
  have try1 : ∀ {R : Option Value → Shared → Prop}, R none s → wpAny (model prog w) A (tryCompare (.ref x) "__eq__" (.str z t)) R E s := fun {R} hR => by
    unfold tryCompare
    refine wpAny_bind ?_
    simp only [callSpecialIfBound?, bindSpecialIfBound?]
    refine wpAny_holding (wpAny_bind (wpAny_bind (wpAny_bind (I.type.here ((looks_findIn X he).here ?_)))))
    refine wpAny_bind (wpAny_askSetting (wpAny_ite ?_))
    have fin : wpAny (model prog w) A (call (.builtin "object.__eq__") ([.ref x] ++ [.str z t]) >>= fun v => pure (some v)) (fun a s' => wpAny (model prog w) A (match a with | some .notImplemented | none => pure none | some v => pure (some v)) R E s') E s :=
      wpAny_bind (callEq (wpAny_pure (by exact wpAny_pure hR)))
    rw [bnd]
    split
    · exact wpAny_bind (wpAny_pure (wpAny_pure (by exact fin)))
    · exact wpAny_tryCatch (wpAny_bind (wpAny_pure (wpAny_pure (by exact fin))))
  have L2 : Looks (model prog w) s.heap (isSubtype (.type "str") (.ref C)) false := looks_subIn X hsub
  unfold richCompare
  simp only [oneThing_ref]
  refine wpAny_holding (wpAny_bind (wpAny_cRoomFor hu ?_))
  refine wpAny_bind (I.type.here (wpAny_bind (wpAny_typeOf (typeIs_str s z t) ?_)))
  rw [show (Value.ref C != Value.type "str") = true from by simp]
  simp only [if_true]
  refine wpAny_bind (L2.here ?_)
  simp only [Bool.false_eq_true, if_false, Bool.not_false, if_true]
  refine wpAny_bind (m := tryCompare (.ref x) _ (.str z t)) (try1 ?_)
  refine wpAny_bind (m := tryCompare (.str z t) _ (.ref x)) (wpAny_tryCompare_declines (typeIs_str s z t) F.slot_str_eq (str_no z t X I hm ⟨rfl, ?_⟩))
  refine wpAny_bind (wpAny_rule ?_)
  exact wpAny_bind (wpAny_isSame_plain rfl (wpAny_pure hq))
end
end K5X
namespace K5
open PySem PySem.Spec PyProof.Rows L2 StX RZ TL
/-! ### x == a text, x any value of a field -/
structure EqF (K : PySem.W.Frag) (C : Addr) (Cs fE : Nat → Addr) : Prop where
  n1 : PySem.W.findIn K (.ref C) "__eq__" = some (some (.builtin "object.__eq__"))
  n2 : PySem.W.mroIn K C (.type "str") = some false
  n3 : PySem.W.subIn K (.type "str") (.ref C) = some false
  eq : ∀ k, k < 4 → PySem.W.findIn K (.ref (Cs k)) "__eq__" = some (some (.ref (fE k)))
  fn : ∀ k, k < 4 → PySem.W.isFn K (.ref (fE k)) = true
  nf : ∀ k, k < 4 → PySem.W.notFirst K (Cs k) (.type "str") = true
def spEqS (C : Addr) : Sp := fun vs H Q _ => ∃ (a dx : Addr) (fs : List (Str × V)) (z : Str), vs = [.ref a, .str z] ∧ H a = some (.ins C dx fs) ∧ Q (.bl false) H
def eqK : Kv → Str → Bool
  | .str a, z => decide (a = z)
  | _, _ => false
def rEqS (C : Addr) (Cs : Nat → Addr) : R2 := fun x y H Q => ∃ (kv : Kv) (z : Str), KvAt C Cs H x kv ∧ y = .str z ∧ Q (.bl (eqK kv z)) H
theorem op_eqS {X : Cx} {C : Addr} {Cs fE : Nat → Addr} {fdE : Nat → FuncData} {m : Nat} (S : Kits X.K C Cs) (T : EqF X.K C Cs fE) (Fs : ∀ k, k < 4 → FnOk X.prog X.w X.K X.mg X.base CX0 m (fE k) (fdE k) ["self", "other"] (spEqS (Cs k)))
    (bs : ∀ k, k < 4 → Binds X.K (fdE k) ["self", "other"] []) (hr : Room m X.A) : OpR X (compareOp .Eq) (rEqS C Cs) := by
  intro pins s σ H x y v u Q I rx ry h
  obtain ⟨kv, z, hv, rfl, q⟩ := h
  have hu : X.A.units < cLine := hr.units0
  cases hv with
  | non => exact op_eq pins s σ H _ _ v u Q I rx ry ⟨rfl, q⟩
  | bl b => exact op_eq pins s σ H _ _ v u Q I rx ry ⟨rfl, q⟩
  | int i => exact op_eq pins s σ H _ _ v u Q I rx ry ⟨rfl, q⟩
  | str a ha =>
    refine op_eq pins s σ H _ _ v u Q I rx ry ⟨rfl, ?_⟩
    have e : decide (V.str a = V.str z) = decide (a = z) := by
      by_cases h : a = z
      · subst h; simp
      · have h2 : V.str a ≠ V.str z := fun w => h (V.str.inj w)
        rw [decide_eq_false h, decide_eq_false h2]
    rw [e]
    exact q
  | lst h hl =>
    cases rx
    obtain ⟨t, rfl⟩ := ry
    obtain ⟨_, its, k, r, g⟩ := I.hok _ _ h
    show wpAny (model X.prog X.w) X.A (richCompare .Eq _ _) (EP X pins σ Q) X.xe s
    exact SeqAt.RcAt.list_str z t ⟨_, g, rfl, k, rfl⟩ hu X.prog X.w X.xe _ ⟨.bl false, H, I, rfl, q⟩
  | tup h =>
    cases rx
    obtain ⟨t, rfl⟩ := ry
    obtain ⟨its, r, g, _⟩ := I.tuple (SqT.of h)
    show wpAny (model X.prog X.w) X.A (richCompare .Eq _ _) (EP X pins σ Q) X.xe s
    exact SeqAt.RcAt.tuple_str z t g hu X.prog X.w X.xe _ ⟨.bl false, H, I, rfl, q⟩
  | node h =>
    cases rx
    obtain ⟨t, rfl⟩ := ry
    obtain ⟨mA, O, _⟩ := ins_get I.hok h
    obtain ⟨od, J, _⟩ := O.look
    show wpAny (model X.prog X.w) X.A (richCompare .Eq _ _) (EP X pins σ Q) X.xe s
    exact K5X.rc_obj_str hu I.kIn J T.n1 S.hm T.n2 T.n3 ⟨.bl false, H, I, rfl, q⟩
  | @val a dx j fs hj h =>
    cases rx
    obtain ⟨mA, O, _⟩ := ins_get I.hok h
    obtain ⟨od, J, _⟩ := O.look
    obtain ⟨mF, hF⟩ := I.fr
    have ry0 := ry
    obtain ⟨t, rfl⟩ := ry
    show wpAny (model X.prog X.w) X.A (richCompare .Eq _ _) (EP X pins σ Q) X.xe s
    have call := callAt (E := fun _ _ _ => False) (Q := fun w H' => w = .bl false ∧ H' = H) (Fs j hj) (bs j hj) ⟨hr, rfl⟩ I (Paired.cons (show RelV (V.ref a) (Value.ref a) from rfl) (.cons ry0 .nil)) ⟨a, dx, fs, z, rfl, h, rfl, rfl⟩
    refine PySem.W.cmp_K (op := .Eq) hu hF I.ok.mod.kin J (.of_pure rfl) (T.nf j hj) (T.eq j hj) (T.fn j hj) (wpAny_mono call (fun r s' hq => ?_) fun _ _ w => w)
    obtain ⟨w, H', I', rw', ⟨rfl, rfl⟩⟩ := hq
    cases rw'
    exact ⟨.bl false, H', I', rfl, q⟩
end K5

namespace K5
open PySem PySem.Spec PyProof.Rows L2 StX RZ TL
/-! ### the law's look at the value of a field -/
def rEqE : R2 := fun x y H Q => ∃ (a b : Addr) (xs : List V), x = .ref a ∧ y = .ref b ∧ H a = some (.lst xs) ∧ H b = some (.lst []) ∧ Q (.bl xs.isEmpty) H
theorem op_eqE {X : Cx} (hu : X.A.units + 64 < cLine) : OpR X (compareOp .Eq) rEqE := by
  intro pins s σ H x y v u Q I rx ry h
  obtain ⟨a, b, xs, rfl, rfl, ha, hb, q⟩ := h
  cases xs with
  | nil => exact op_eqD hu pins s σ H _ _ v u Q I rx ry ⟨.list [], .list [], .lst (SqL.of ha) .nil, .lst (SqL.of hb) .nil, rfl, rfl, q⟩
  | cons z r =>
    cases rx
    cases ry
    obtain ⟨_, its, k, rr, g⟩ := I.hok a _ ha
    obtain ⟨_, its2, k2, rr2, g2⟩ := I.hok b _ hb
    show wpAny (model X.prog X.w) X.A (richCompare .Eq _ _) (EP X pins σ Q) X.xe s
    refine SeqAt.RcAt.lists_lengths (items := its.toArray) (items2 := its2.toArray) ⟨_, g, rfl, k, rfl⟩ ⟨_, g2, rfl, k2, rfl⟩ ?_ (by omega) X.prog X.w X.xe _ ⟨.bl false, H, I, rfl, q⟩
    rw [List.size_toArray, List.size_toArray, ← rr.length, ← rr2.length]
    simp
def rInD : R2 := fun x y H Q => ∃ (a : Addr) (kvs : List (Key × V)) (k : Key), x = kV k ∧ y = .ref a ∧ H a = some (.dK kvs) ∧ Q (.bl (valV kvs k).isSome) H
theorem op_inD {X : Cx} (hu : X.A.units + 1 < cLine) : OpR X (compareOp .In) rInD := by
  intro pins s σ H x y v u Q I rx ry h
  obtain ⟨a, kvs, k, rfl, rfl, ha, q⟩ := h
  cases ry
  exact d_in hu I (DGet.k (k := k) ha) rx fun s3 I3 => ⟨.bl _, H, I3, rfl, q⟩
theorem word_facts {wd r m : Str} (h : WT.lookup wd = some (r, m)) : ∃ c, atI wd.cps.toList (-1) = some c ∧ decide (c ∈ ("*+" : Str).cps.toList) = decide (m ∈ marks) ∧ decide ((⟨#[c]⟩ : Str) = "+") = decide (m = "+") ∧ decide ((⟨#[c]⟩ : Str) = "?") = decide (m = "?") ∧
    (m ≠ "" → WT.lookup (cutW wd) = some (r, inner m)) ∧ wd.length ≤ 100 ∧ r ∈ rules ∧ (m ≠ "" → wd ∉ valW) := by
  have z := List.all_eq_true.mp WT_ok _ (lookMem h)
  unfold wOk at z
  split at z
  · cases z
  · rename_i c hc
    simp only [Bool.and_eq_true, beq_iff_eq, Bool.or_eq_true, decide_eq_true_eq] at z
    obtain ⟨⟨⟨⟨⟨⟨z1, z2⟩, z3⟩, z4⟩, z5⟩, z6⟩, z7⟩ := z
    exact ⟨c, hc, z1, z2, z3, fun n => z4.resolve_left n, z5, z6, fun n => z7.resolve_left n⟩
theorem base_facts {wd r : Str} (h : WT.lookup wd = some (r, ("" : Str))) (hv : wd ∉ valW) : chkN.idxOf? r = none ∧ ∀ k rs, Fld.lookup k = some rs → decide (k ∈ someOf wd) = decide (k ∈ grpOf r) := by
  have z := List.all_eq_true.mp base_ok _ (lookMem h)
  unfold baseOk at z
  simp only [Bool.or_eq_true, Bool.and_eq_true, decide_eq_true_eq, Bool.not_eq_true', decide_eq_false_iff_not, List.all_eq_true] at z
  rcases z with (z | z) | ⟨⟨z1, z2⟩, z3⟩
  · exact absurd trivial z
  · exact absurd z hv
  · refine ⟨z1, fun k rs hk => ?_⟩
    by_cases e : k ∈ someOf wd
    · rcases z2 k e with y | y
      · rw [hk] at y; cases y
      · rw [decide_eq_true e, decide_eq_true y]
    · have y : ¬ k ∈ grpOf r := fun y => e (z3 k y)
      rw [decide_eq_false e, decide_eq_false y]
def rank (m : Str) : Nat := if m = "" then 0 else if m = "?" then 1 else 2
structure NodeH (C : Addr) (Cs : Nat → Addr) (H : Hp) (S : Addr → Prop) (ht : Addr → Nat) (p : Addr) : Prop where
  ex : ∃ k d rs vs, NodeOk C Cs H S p k d rs vs ∧ ∀ c ∈ vs.flatMap (kidsV C H), ht c < ht p
theorem flat_same {α β : Type} {f g : α → List β} : ∀ {xs : List α}, (∀ x ∈ xs, f x = g x) → xs.flatMap f = xs.flatMap g
  | [], _ => rfl
  | x :: r, h => by
    rw [List.flatMap_cons, List.flatMap_cons, h x (List.mem_cons_self ..), flat_same (xs := r) fun y hy => h y (List.mem_cons_of_mem _ hy)]
theorem NodeOk.up {K : PySem.W.Frag} {C : Addr} {Cs : Nat → Addr} {H H' : Hp} {S : Addr → Prop} {p d : Addr} {k : Str} {rs : List (Str × Str × Str)} {vs : List V} (Sk : Kits K C Cs) (N : NodeOk C Cs H S p k d rs vs) (s : Same H H') : NodeOk C Cs H' S p k d rs vs ∧ vs.flatMap (kidsV C H') = vs.flatMap (kidsV C H) := by
  have e : vs.flatMap (kidsV C H') = vs.flatMap (kidsV C H) := by
    have : ∀ v ∈ vs, kidsV C H' v = kidsV C H v := fun v hv => by
      obtain ⟨kv, ks, f, _⟩ := N.vals v hv
      exact kidsV_up Sk f s
    exact flat_same this
  obtain ⟨dx, h⟩ := N.at_
  exact ⟨⟨⟨dx, s _ _ h⟩, N.row, s _ _ N.dk, N.len, fun v hv => let ⟨kv, ks, f, nl⟩ := N.vals v hv; ⟨kv, ks, f.up s, nl⟩, by rw [e]; exact N.kids⟩, e⟩
theorem NodeH.up {K : PySem.W.Frag} {C : Addr} {Cs : Nat → Addr} {H H' : Hp} {S : Addr → Prop} {ht : Addr → Nat} {p : Addr} (Sk : Kits K C Cs) (N : NodeH C Cs H S ht p) (s : Same H H') : NodeH C Cs H' S ht p := by
  obtain ⟨k, d, rs, vs, N1, h⟩ := N.ex
  obtain ⟨N2, e⟩ := N1.up Sk s
  exact ⟨k, d, rs, vs, N2, by rw [e]; exact h⟩
theorem Tr.up {K : PySem.W.Frag} {C : Addr} {Cs : Nat → Addr} {H H' : Hp} {S : Addr → Prop} {ht : Addr → Nat} (Sk : Kits K C Cs) (hS : ∀ p, S p → NodeH C Cs H S ht p) (s : Same H H') : ∀ (n : Nat) (p : Addr), ht p < n → S p → (Tr C Cs H' p ↔ Tr C Cs H p)
  | 0, p, h, _ => absurd h (Nat.not_lt_zero _)
  | n + 1, p, h, hp => by
    obtain ⟨k, d, rs, vs, N, hk⟩ := (hS p hp).ex
    obtain ⟨N2, e⟩ := N.up Sk s
    have ih : ∀ c ∈ vs.flatMap (kidsV C H), (Tr C Cs H' c ↔ Tr C Cs H c) := fun c hc => Tr.up Sk hS s n c (by have := hk c hc; omega) (N.kids c hc)
    rw [Tr.iff, Tr.iff, N.kp, N2.kp, e]
    have loc : locOk C Cs H' p ↔ locOk C Cs H p := by
      unfold locOk
      rw [N.vp, N2.vp, N.rp, N2.rp]
      have f : ∀ v ∈ vs, ∀ r m, fitF C Cs H' r m v = fitF C Cs H r m v := fun v hv r m => by
        obtain ⟨kv, ks, fv, _⟩ := N.vals v hv
        rw [fitF_of Sk fv, fitF_of Sk (fv.up s)]
      constructor
      · intro z i v r g1 g2
        rw [← f v (List.mem_of_getElem? g1)]
        exact z i v r g1 g2
      · intro z i v r g1 g2
        rw [f v (List.mem_of_getElem? g1)]
        exact z i v r g1 g2
    rw [loc]
    exact and_congr_right fun _ => ⟨fun z c hc => (ih c hc).mp (z c hc), fun z c hc => (ih c hc).mpr (z c hc)⟩
theorem val_kids {K : PySem.W.Frag} {C : Addr} {Cs : Nat → Addr} {H : Hp} {v : V} {kv : Kv} (Sk : Kits K C Cs) (h : KvAt C Cs H v kv) (h1 : isNode kv = false) (h2 : isLst kv = false) : kidsV C H v = [] := by
  rw [kidsV_one Sk h h2, nodeOf_no Sk h h1]
  rfl
theorem chk_plain {i : Nat} {kv : Kv} (h : chkF i kv = true) : isNode kv = false ∧ isLst kv = false := by
  cases kv with
  | node k d => rcases i with _ | _ | _ | _ | _ | _ | _ | i <;> cases h
  | lst xs => rcases i with _ | _ | _ | _ | _ | _ | _ | i <;> cases h
  | _ => exact ⟨rfl, rfl⟩
theorem inner_fit {r m : Str} (hm : m ∈ marks) (k : Kv) (ks : List Kv) : fitV r (inner m) k ks = fitI r m k := by
  have h2 : ∀ q : Str, q = "" ∨ q = "?" → q ∉ marks := fun q hq => by
    rcases hq with rfl | rfl
    · decide +kernel
    · decide +kernel
  unfold inner
  by_cases e : m = "?*"
  · rw [if_pos e]
    unfold fitV fitI
    rw [if_neg (h2 _ (.inr rfl)), decide_eq_true e, decide_eq_true rfl]
  · rw [if_neg e]
    unfold fitV fitI
    rw [if_neg (h2 _ (.inl rfl)), decide_eq_false e]
    have z : decide (("" : Str) = "?") = false := by decide +kernel
    rw [z]
theorem marks_rank {m : Str} (h : m ∈ marks) : rank m = 2 ∧ m ≠ "" ∧ rank (inner m) ≤ 1 ∧ m ≠ "?" := by
  unfold marks at h
  rcases List.mem_cons.mp h with rfl | h
  · exact ⟨by decide +kernel, by decide +kernel, by decide +kernel, by decide +kernel⟩
  rcases List.mem_cons.mp h with rfl | h
  · exact ⟨by decide +kernel, by decide +kernel, by decide +kernel, by decide +kernel⟩
  rcases List.mem_cons.mp h with rfl | h
  · exact ⟨by decide +kernel, by decide +kernel, by decide +kernel, by decide +kernel⟩
  cases h
theorem fit1_chk {i : Nat} {r : Str} (h : chkN.idxOf? r = some i) (kv : Kv) : fit1 r kv = chkF i kv := by
  unfold fit1
  rw [h]
theorem fitV_base (r : Str) (kv : Kv) (ks : List Kv) : fitV r "" kv ks = fit1 r kv := by
  unfold fitV
  rw [if_neg (by decide +kernel)]
  have z : decide (("" : Str) = "?") = false := by decide +kernel
  rw [z]
  simp
def spLF (n cl : Nat) (C : Addr) (Cs : Nat → Addr) : Sp := fun vs H Q _ => ∃ (t g e s q : Addr) (tv : List Addr) (v : V) (wd r m : Str) (kv : Kv) (ks : List Kv) (S : Addr → Prop) (ht : Addr → Nat), vs = [.ref t, v, .str wd] ∧ TblOk H t tv g e s q ∧ WT.lookup wd = some (r, m) ∧ rank m < cl ∧
  FvAt C Cs H v kv ks ∧ (∀ k ∈ ks, isLst kv = true → isLst k = false) ∧ (∀ c ∈ kidsV C H v, S c ∧ ht c < n) ∧ (∀ p, S p → NodeH C Cs H S ht p) ∧
  ∀ (H' : Hp) (b : Bool), Same H H' → (b = true ↔ fitV r m kv ks = true ∧ ∀ c ∈ kidsV C H v, Tr C Cs H c) → Q (.bl b) H'
def spDue (n : Nat) (C : Addr) (Cs : Nat → Addr) : Sp := fun vs H Q _ => ∃ (t g e s q : Addr) (tv : List Addr) (v : V) (kv : Kv) (S : Addr → Prop) (ht : Addr → Nat), vs = [.ref t, v] ∧ 0 < n ∧ TblOk H t tv g e s q ∧
  KvAt C Cs H v kv ∧ (∀ p, v = .ref p → isNode kv = true → S p ∧ ht p < n) ∧ (∀ p, S p → NodeH C Cs H S ht p) ∧
  ∀ (H' : Hp) (b : Bool), Same H H' → (b = true ↔ ∃ p, v = .ref p ∧ isNode kv = true ∧ Tr C Cs H p) → Q (.bl b) H'
end K5

namespace K5
open PySem PySem.Spec PyProof.Rows L2 StX RZ TL
abbrev sLF : Stmt := topS 48
abbrev sDue : Stmt := topS 49
abbrev nLF : List Str := ["_law_table_here", "_law_value", "_law_held_here", "_law_words", "_law_number", "_law_some", "_law_part", "_law_word_here"]
theorem scLF : FnScope nLF ["_law_table_here", "_law_value", "_law_held_here"] (defScope sLF) := ⟨rfl, rfl, rfl, by decide +kernel, rfl, by decide +kernel, by decide +kernel⟩
theorem wd_ne {wd : Str} (h : wd ∉ valW) {x : Str} (hx : x ∈ valW) : ¬ wd = x := fun z => h (z ▸ hx)
/-- what the law's look calls -/
structure LDefs (P : Program) (w : World) (K : PySem.W.Frag) (mg : Str → Option Value) (base : Heap) (C : Addr) (Cs fE : Nat → Addr) (fN fW fG : Addr) (dN dW dG : FuncData) (dE : Nat → FuncData) : Prop where
  N : FnOk P w K mg base CX0 1 fN dN ["_law_thing", "_law_some"] (spNum C Cs)
  bN : Binds K dN ["_law_thing", "_law_some"] []
  kN : PySem.W.keepIn K (.ref fN) = true
  mN : mg "_law_is_number" = some (.ref fN)
  W : FnOk P w K mg base CX0 1 fW dW ["_law_thing"] (spK C Cs cNam)
  bW : Binds K dW ["_law_thing"] []
  kW : PySem.W.keepIn K (.ref fW) = true
  mW : mg "_law_is_word" = some (.ref fW)
  G : FnOk P w K mg base CX0 1 fG dG ["_law_word_here"] spSg
  bG : Binds K dG ["_law_word_here"] []
  kG : PySem.W.keepIn K (.ref fG) = true
  mG : mg "_law_signs_of" = some (.ref fG)
  E : ∀ k, k < 4 → FnOk P w K mg base CX0 1 (fE k) (dE k) ["self", "other"] (spEqS (Cs k))
  bE : ∀ k, k < 4 → Binds K (dE k) ["self", "other"] []
  T : EqF K C Cs fE
  mC : mg "Node" = some (.ref C)
  m0 : mg "Dots" = some (.ref (Cs 0))
  m1 : mg "Float" = some (.ref (Cs 1))
  m2 : mg "Imaginary" = some (.ref (Cs 2))
  m3 : mg "Octets" = some (.ref (Cs 3))
theorem mark_cases {wd r m : Str} (h : WT.lookup wd = some (r, m)) : m = "" ∨ m = "?" ∨ m ∈ marks := by
  have z : (WT.all fun p => decide (p.2.2 = "") || (decide (p.2.2 = "?") || decide (p.2.2 ∈ marks))) = true := by decide +kernel
  have y := List.all_eq_true.mp z _ (lookMem h)
  simp only [Bool.or_eq_true, decide_eq_true_eq] at y
  exact y
theorem str_dec (x y : Str) : decide (V.str x = V.str y) = decide (x = y) := by
  by_cases h : x = y
  · subst h; simp
  · have h2 : V.str x ≠ V.str y := fun w => h (V.str.inj w)
    rw [decide_eq_false h, decide_eq_false h2]
def numK : Kv → Bool | .int i => decide (0 ≤ i) | .bl _ => true | _ => false
theorem numF_cnt (kv : Kv) : numF [] kv = cCnt kv := by cases kv <;> simp [numF, cCnt]
theorem numF_bit (kv : Kv) : numF [0, 1] kv = cBit kv := by cases kv <;> simp [numF, cBit]
theorem numF_cnv (kv : Kv) : numF [-1, 97, 114, 115] kv = cCnv kv := by cases kv <;> simp [numF, cCnv]
theorem signs_len (w : Str) : (signs w).length ≤ 20 := by
  unfold signs
  cases h : sgRows.lookup w with
  | none => exact Nat.zero_le _
  | some x =>
    have z : (sgRows.all fun p => decide ((Txt.split p.2 " ").length ≤ 20)) = true := by decide +kernel
    exact of_decide_eq_true (List.all_eq_true.mp z _ (lookMem h))
theorem rows_some (k : Str) : ∀ rows : List (Str × Str), (valV (kvOf rows) (Sum.inr k)).isSome = decide (k ∈ rows.map Prod.fst) := by
  intro rows
  rw [valV_kvOf]
  induction rows with
  | nil => rfl
  | cons p r ih =>
    obtain ⟨a, b⟩ := p
    rw [List.lookup_cons]
    by_cases h : k = a
    · subst h; simp
    · have e : (k == a) = false := by simpa using h
      rw [e]
      simp only [List.map_cons, List.mem_cons, h, false_or]
      exact ih
section
variable {P : Program} {w : World} {K : PySem.W.Frag} {mg : Str → Option Value} {base : Heap} {C : Addr} {Cs fE : Nat → Addr} {fN fW fG : Addr} {dN dW dG : FuncData} {dE : Nat → FuncData}
theorem no_lf {f : Addr} {fd : FuncData} {k n : Nat} : FnOk P w K mg base CX0 k f fd ["_law_table_here", "_law_value", "_law_held_here"] (spLF n 0 C Cs) := by
  have no : ∀ vs H Q E, ¬ spLF n 0 C Cs vs H Q E := fun vs H Q E h => by
    obtain ⟨t, g, e, s, q, tv, v, wd, r, m, kv, ks, S, ht, _, _, _, h1, _⟩ := h
    omega
  exact ⟨fun vs H Q E h => absurd h (no vs H Q E), fun A outer s H args us vs Q E _ _ _ _ h => absurd h (no vs H Q E)⟩
theorem no_due {f : Addr} {fd : FuncData} {k : Nat} : FnOk P w K mg base CX0 k f fd ["_law_table_here", "_law_thing"] (spDue 0 C Cs) := by
  have no : ∀ vs H Q E, ¬ spDue 0 C Cs vs H Q E := fun vs H Q E h => by
    obtain ⟨t, g, e, s, q, tv, v, kv, S, ht, _, h1, _⟩ := h
    omega
  exact ⟨fun vs H Q E h => absurd h (no vs H Q E), fun A outer s H args us vs Q E _ _ _ _ h => absurd h (no vs H Q E)⟩
theorem ok_lf {f fU : Addr} {fd dU : FuncData} (F : Fun K "_law_fits" "_law_fits" sLF f fd) (bF : Binds K fd ["_law_table_here", "_law_value", "_law_held_here"] []) (mF : mg "_law_fits" = some (.ref f)) (Z : Blt mg) (Sk : Kits K C Cs) (Nf : NodeF K C)
    (Y : LDefs P w K mg base C Cs fE fN fW fG dN dW dG dE) {n cl k : Nat} (hk1 : 1 ≤ k) (ih : FnOk P w K mg base CX0 k f fd ["_law_table_here", "_law_value", "_law_held_here"] (spLF n cl C Cs))
    (U : FnOk P w K mg base CX0 k fU dU ["_law_table_here", "_law_thing"] (spDue n C Cs)) (bU : Binds K dU ["_law_table_here", "_law_thing"] []) (kU : PySem.W.keepIn K (.ref fU) = true) (mU : mg "_law_is_due" = some (.ref fU)) :
    FnOk P w K mg base CX0 (k + 1) f fd ["_law_table_here", "_law_value", "_law_held_here"] (spLF n (cl + 1) C Cs) := by
  refine F.ok scLF (fun vs H Q E h => ?_) (fun cdv A outer s H vs Q E hr h => ?_)
  · obtain ⟨t, g, e, s, q, tv, v, wd, r, m, kv, ks, S, ht, rfl, _⟩ := h
    rfl
  obtain ⟨t, g, eD, sD, qD, tv, v, wd, r, m, kv, ks, S, ht, rfl, hT, hw, hrk, hf, hnl, hkid, hS, q⟩ := h
  have hr1 := hr.mono hk1
  obtain ⟨c, hc, hc1, hc2, hc3, hin, hlen, hru, hbv⟩ := word_facts hw
  have hz : wd.length ≤ sizeLine := by
    have z : (1000 : Nat) ≤ sizeLine := by decide
    omega
  refine ⟨_, C8.pss_cut (ps_if (pt_cmpR op_in_sign (pe_ix ix_str (pv 2) (pe_un un_neg pe_int) (fun _ _ => rfl)) pe_str (by rfl))
      (C8.pss_cut (ps_if (PW.pt (pw_or (pt_not (pt_val (pe_callB call_isi (by rfl) Z.isI (by decide +kernel) (pa_cons (pv 1) (pa_cons (pe_bltn (v := .ty "list") (by rfl) Z.ls (by decide +kernel) rfl) pa_nil)))))
          (pw_or1 (PW.pt (pw_and (pt_cmpR op_eq (pe_ix ix_str (pv 2) (pe_un un_neg pe_int) (fun _ _ => rfl)) pe_str (nomark _)) (pw_and1 (pt_cmpR (op_eqE hr.units) (pv 1) (pe_lst pa_nil) (nomark _)))))))) (pss_one (ps_ret pe_bl)) pss_nil)
        (pss_one (ps_ret (pe_callB (cr_all rfl) (by rfl) Z.al (by decide +kernel) (pa_cons (pe_lc (own := [("_law_part", 6)]) (g := gName 6) (tt := tYes) rfl scLF.nd (pi_list (pv 1))
          (blkOk_by (own := [("_law_part", 6)]) (N := nLF) (sc := defScope sLF) (by decide +kernel)) (fun _ _ _ _ _ => pg_name (i := 6) scLF.nd rfl (.inl rfl)) (fun _ _ _ _ _ => pts_nil)
          (fun _ _ _ _ _ => pe_call ih hr rfl mF F.kp bF .nil pass0 (pa_cons (pv 0) (pa_cons (pv 6) (pa_cons (pe_slice sl_str (pv 2) po_none (po_some (pe_un un_neg pe_int))) pa_nil))))) pa_nil))))) pss_nil)
    (C8.pss_cut (ps_if (pt_cmpR op_eq (pe_ix ix_str (pv 2) (pe_un un_neg pe_int) (fun _ _ => rfl)) pe_str (nomark _))
        (pss_one (ps_ret (pe_or (pe_cmpR op_isN (pv 1) pe_non (nomark _)) (pe_one (pe_call ih hr rfl mF F.kp bF .nil pass0 (pa_cons (pv 0) (pa_cons (pv 1) (pa_cons (pe_slice sl_str (pv 2) po_none (po_some (pe_un un_neg pe_int))) pa_nil)))))))) pss_nil)
    (C8.pss_cut (ps_if (pt_cmpR op_in_seq (pv 2) (pe_tup (pa_cons pe_str (pa_cons pe_str (pa_cons pe_str pa_nil)))) (by rfl))
        (pss_one (ps_ret (pe_call Y.N hr1 rfl Y.mN Y.kN Y.bN .nil pass0 (pa_cons (pv 1) (pa_cons (pe_dget (hu_of hr) (pe_disp (pps_cons pe_str (pe_lst pa_nil) (pps_cons pe_str (pe_lst (pa_cons pe_int (pa_cons pe_int pa_nil))) (pps_cons pe_str (pe_lst (pa_cons (pe_un un_neg pe_int) (pa_cons pe_int (pa_cons pe_int (pa_cons pe_int pa_nil))))) pps_nil)))
          (by rfl) (by rfl) (fun z => by cases z) (by decide)) (pv 2) (fun _ _ => rfl)) pa_nil))))) pss_nil)
    (C8.pss_cut (ps_if (pt_cmpR op_eq (pv 2) pe_str (nomark _)) (pss_one (ps_ret (pe_call Y.W hr1 rfl Y.mW Y.kW Y.bW .nil pass0 (pa_cons (pv 1) pa_nil)))) pss_nil)
    (C8.pss_cut (ps_if (pt_cmpR op_in_seq (pv 2) (pe_tup (pa_cons pe_str (pa_cons pe_str pa_nil))) (by rfl))
        (C8.pss_cut (ps_set (i := 3) scLF.nd rfl (.inl rfl) (pe_ifExp (pt_val (pe_callB call_isi (by rfl) Z.isI (by decide +kernel) (pa_cons (pv 1) (pa_cons (pe_bltn (v := .ty "str") (by rfl) Z.st (by decide +kernel) rfl) pa_nil)))) (pe_split (pv 1) pe_str) (pe_lst (pa_cons pe_str pa_nil))))
        (pss_one (ps_ret (pe_or (pe_callB (cr_all rfl) (by rfl) Z.al (by decide +kernel) (pa_cons (pe_lc (own := [("_law_word_here", 7)]) (g := gName 7) (tt := tYes) rfl scLF.nd (pi_list (pv 3))
          (blkOk_by (own := [("_law_word_here", 7)]) (N := nLF) (sc := defScope sLF) (by decide +kernel)) (fun _ _ _ _ _ => pg_name (i := 7) scLF.nd rfl (.inl rfl)) (fun _ _ _ _ _ => pts_nil)
          (fun _ _ _ _ _ => pe_call Y.W hr1 rfl Y.mW Y.kW Y.bW .nil pass0 (pa_cons (pv 7) pa_nil))) pa_nil)) (pe_one (pe_and (pe_cmpR op_eq (pv 2) pe_str (nomark _)) (pe_one (pe_cmpR (op_eqS Sk Y.T Y.E Y.bE hr1) (pv 1) pe_str (nomark _))))))))) pss_nil)
    (C8.pss_cut (ps_if (pt_cmpR op_eq (pv 2) pe_str (nomark _)) (pss_one (ps_ret (pe_or (pe_cmpR op_isN (pv 1) pe_non (nomark _)) (pe_or (pe_cmpR op_isB (pv 1) pe_bl (nomark _)) (pe_one (pe_cmpR op_isB (pv 1) pe_bl (nomark _))))))) pss_nil)
    (C8.pss_cut (ps_if (pt_cmpR op_eq (pv 2) pe_str (nomark _))
        (C8.pss_cut (ps_set (i := 4) scLF.nd rfl (.inl rfl) (pe_and (pe_callB call_isi (by rfl) Z.isI (by decide +kernel) (pa_cons (pv 1) (pa_cons (pe_bltn (v := .ty "int") (by rfl) Z.it (by decide +kernel) rfl) pa_nil)))
          (pe_one (pe_or (pe_callB call_isi (by rfl) Z.isI (by decide +kernel) (pa_cons (pv 1) (pa_cons (pe_bltn (v := .ty "bool") (by rfl) Z.bo (by decide +kernel) rfl) pa_nil))) (pe_one (pe_cmpR op_ge (pv 1) pe_int (nomark _)))))))
        (pss_one (ps_ret (pe_or (pe_cmpR op_isN (pv 1) pe_non (nomark _)) (pe_or (pv 4) (pe_one (pe_callB call_isiT (by rfl) Z.isI (by decide +kernel) (pa_cons (pv 1) (pa_cons (pe_tup (pa_cons (pe_bltn (v := .ty "str") (by rfl) Z.st (by decide +kernel) rfl)
          (pa_cons (pe_glob (v := .ref (Cs 0)) rfl Y.m0 rfl) (pa_cons (pe_glob (v := .ref (Cs 1)) rfl Y.m1 rfl) (pa_cons (pe_glob (v := .ref (Cs 2)) rfl Y.m2 rfl) (pa_cons (pe_glob (v := .ref (Cs 3)) rfl Y.m3 rfl) pa_nil)))))) pa_nil))))))))) pss_nil)
    (pss_cons (ps_if (pt_not (pt_val (pe_callB call_isi (by rfl) Z.isI (by decide +kernel) (pa_cons (pv 1) (pa_cons (pe_glob (v := .ref C) rfl Y.mC rfl) pa_nil))))) (pss_one (ps_ret pe_bl)) pss_nil)
    (pss_cons (ps_set (i := 5) scLF.nd rfl (.inl rfl) (pe_ifExp (pt_cmp (pc_din (hu_of hr) (pv 2) (pe_dget (hu_of hr) (pv 0) pe_str (fun _ _ => rfl)))) (pe_dget (hu_of hr) (pe_dget (hu_of hr) (pv 0) pe_str (fun _ _ => rfl)) (pv 2) (fun _ _ => rfl))
        (pe_op op_cat (pe_call Y.G hr1 rfl Y.mG Y.kG Y.bG .nil pass0 (pa_cons (pv 2) pa_nil)) (pe_lst (pa_cons (pv 2) pa_nil)))))
    (pss_one (ps_ret (pe_and (pe_cmpR (op_in_seq.or (op_inD (hu_of hr))) (pe_fld (pv 1) rfl) (pv 5) (by rfl)) (pe_one (pe_call U hr rfl mU kU bU .nil pass0 (pa_cons (pv 0) (pa_cons (pv 1) pa_nil))))))))))))))), ?_⟩
  have e0 : fitV r m kv ks = (if m ∈ marks then isLst kv && (!(decide (m = "+") && ks.isEmpty) && ks.all (fitI r m)) else fit1 r kv || (decide (m = "?") && isNon kv)) := rfl
  refine ⟨fun σ H2 => σ = [some (.ref t), some v, some (.str wd), none, none, none, none, none] ∧ H2 = H ∧ m ∉ marks, ?_, ?_⟩
  · refine ⟨_, rfl, _, rfl, wd, _, c, rfl, rfl, hz, hc, c, _, rfl, rfl, _, rfl, ?_⟩
    rw [hc1]
    by_cases hm : m ∈ marks
    · rw [decide_eq_true hm]
      refine iteT ?_
      obtain ⟨r1, r2, r3, r4⟩ := marks_rank hm
      rw [if_pos hm] at e0
      refine ⟨fun σ H2 => σ = [some (.ref t), some v, some (.str wd), none, none, none, none, none] ∧ Same H H2 ∧ isLst kv = true ∧ (decide (m = "+") && ks.isEmpty) = false, ?_, ?_⟩
      · refine ⟨_, rfl, v, .ty "list", _, _, _, rfl, .ty _, hf.1.ty Sk, kit_list Sk hf.1, _, rfl, ?_⟩
        cases hi : isLst kv with
        | false =>
          refine iteT (iteT ?_)
          refine q H false (Same.refl H) ⟨fun z => by (cases z), fun z => ?_⟩
          rw [e0, hi] at z
          cases z.1
        | true =>
          refine iteF ?_
          refine ⟨_, rfl, _, rfl, wd, _, c, rfl, rfl, hz, hc, rfl, _, rfl, ?_⟩
          rw [str_dec, hc2]
          by_cases hp : m = "+"
          · rw [decide_eq_true hp]
            refine iteT ?_
            obtain ⟨hv, hit⟩ := hf
            cases hv with
            | lst ha hb =>
              rename_i a xs
              refine ⟨_, rfl, Nat.zero_le _, fun e1 ne1 => ?_⟩
              have s1 := same_new (o := .lst []) ne1
              refine ⟨a, e1, xs, rfl, rfl, s1 _ _ ha, upd_same, _, rfl, ?_⟩
              have el := (hit xs rfl).1
              have ez : xs.isEmpty = ks.isEmpty := by
                cases xs with
                | nil => cases ks with
                  | nil => rfl
                  | cons k r => cases el
                | cons x r => cases ks with
                  | nil => cases el
                  | cons k r => rfl
              rw [ez]
              cases hz2 : ks.isEmpty with
              | true =>
                refine iteT ?_
                refine q _ false s1 ⟨fun z => by (cases z), fun z => ?_⟩
                rw [e0, hz2, decide_eq_true hp] at z
                have z1 := z.1
                simp at z1
              | false =>
                refine iteF ?_
                exact ⟨rfl, s1, rfl, by simp⟩
            | _ => cases hi
          · rw [decide_eq_false hp]
            refine iteF (iteF ?_)
            exact ⟨rfl, Same.refl H, rfl, by simp⟩
      · rintro σ H2 ⟨rfl, s2, hi, hz2⟩
        obtain ⟨hv, hit⟩ := hf
        cases hv with
        | lst ha hb =>
          rename_i a xs
          obtain ⟨el, hit⟩ := hit xs rfl
          have ha2 := s2 _ _ ha
          have hkx : kidsV C H (.ref a) = xs.filterMap (nodeOf C H) := kidsV_lst ha
          refine ⟨_, rfl, a, rfl, ⟨_, SqL.of ha2⟩, fun D nD => ?_⟩
          refine lc_list (K := K) (a := a) (xs := xs) (fun i H3 => ∃ bs : List Bool, Same H2 H3 ∧ H3 D = some (.lst (bs.map V.bl)) ∧ bs.length = i ∧ (bs.all id = true ↔ (ks.take i).all (fitI r m) = true ∧ ∀ c ∈ (xs.take i).filterMap (nodeOf C H), Tr C Cs H c))
            ⟨[], same_new nD, by rw [upd_same]; rfl, rfl, ⟨fun _ => ⟨rfl, fun c hc => by cases hc⟩, fun _ => rfl⟩⟩ (fun i H3 _ ⟨_, s3, _⟩ => SqL.of (s3 _ _ ha2)) ?_ ?_
          · rintro i x H3 hx ⟨bs, s3, h3, hbl, hbs⟩
            have hi' : i < xs.length := by
              rcases Nat.lt_or_ge i xs.length with z | z
              · exact z
              · rw [List.getElem?_eq_none z] at hx; cases hx
            obtain ⟨kx, hkx1⟩ : ∃ kx, ks[i]? = some kx := ⟨_, List.getElem?_eq_getElem (by omega)⟩
            have hxk := hit i x kx hx hkx1
            have nlx := hnl kx (List.mem_of_getElem? hkx1) rfl
            have s03 := s2.trans s3
            have fx : FvAt C Cs H x kx [] := ⟨hxk, fun ys e => by rw [e] at nlx; cases nlx⟩
            have kx1 : kidsV C H x = (nodeOf C H x).toList := kidsV_one Sk hxk nlx
            refine ⟨rfl, ?_⟩
            unfold tYes
            refine iteT ?_
            refine ⟨_, rfl, _, rfl, _, rfl, _, rfl, _, rfl, wd, rfl, hz, ?_⟩
            refine ⟨t, g, eD, sD, qD, tv, x, cutW wd, r, inner m, kx, [], S, ht, rfl, hT.up s03, hin r2, ?_, fx.up s03, fun k hk => (by cases hk), ?_, ?_, ?_⟩
            · rw [r1] at hrk
              omega
            · intro c' hc'
              rw [kidsV_up Sk fx s03, kx1] at hc'
              refine hkid c' ?_
              rw [hkx]
              exact List.mem_filterMap.mpr ⟨x, List.mem_of_getElem? hx, by simpa using hc'⟩
            · exact fun p hp => (hS p hp).up Sk s03
            · intro H4 b s4 hb
              rw [inner_fit hm, kidsV_up Sk fx s03] at hb
              have hkS : ∀ c' ∈ kidsV C H x, (Tr C Cs H3 c' ↔ Tr C Cs H c') := fun c' hc' => by
                rw [kx1] at hc'
                have z := hkid c' (by rw [hkx]; exact List.mem_filterMap.mpr ⟨x, List.mem_of_getElem? hx, by simpa using hc'⟩)
                exact Tr.up Sk hS s03 n c' z.2 z.1
              refine ⟨_, s4 _ _ h3, ?_, bs ++ [b], fun c' o e => ?_, ?_, by rw [List.length_append, hbl]; rfl, ?_⟩
              · have z : (1000 : Nat) < sizeLine := by decide
                rw [List.length_map, hbl]
                omega
              · rw [upd_ne (ne_of_none e nD)]
                exact s4 _ _ (s3 _ _ e)
              · rw [upd_same, List.map_append]
                rfl
              · have e1 : (ks.take (i + 1)).all (fitI r m) = ((ks.take i).all (fitI r m) && fitI r m kx) := by
                  rw [List.take_succ, hkx1, List.all_append]
                  simp
                have e2 : (xs.take (i + 1)).filterMap (nodeOf C H) = (xs.take i).filterMap (nodeOf C H) ++ kidsV C H x := by
                  rw [List.take_succ, hx, List.filterMap_append, kx1]
                  show _ ++ List.filterMap (nodeOf C H) [x] = _
                  rw [fm_one]
                rw [List.all_append, Bool.and_eq_true, hbs, e1, e2, Bool.and_eq_true]
                have e3 : ([b].all id = true) ↔ b = true := by simp
                rw [e3, hb]
                constructor
                · rintro ⟨⟨z1, z2⟩, z3, z4⟩
                  refine ⟨⟨z1, z3⟩, fun c' hc' => ?_⟩
                  rcases List.mem_append.mp hc' with h | h
                  · exact z2 c' h
                  · exact (hkS c' h).mp (z4 c' h)
                · rintro ⟨⟨z1, z3⟩, z2⟩
                  exact ⟨⟨z1, fun c' h => z2 c' (List.mem_append_left _ h)⟩, z3, fun c' h => (hkS c' h).mpr (z2 c' (List.mem_append_right _ h))⟩
          · rintro H3 ⟨bs, s3, h3, hbl, hbs⟩
            rw [List.take_length, el, List.take_length] at hbs
            refine ⟨D, bs, rfl, SqL.of h3, ?_⟩
            refine q H3 _ (s2.trans s3) ?_
            rw [hbs, e0, hi, hz2, hkx]
            simp
        | _ => cases hi
    · rw [decide_eq_false hm]
      refine iteF ?_
      exact ⟨rfl, rfl, hm⟩
  rintro σ H2 ⟨rfl, rfl, hm⟩
  rw [if_neg hm] at e0
  refine ⟨fun σ H3 => σ = [some (.ref t), some v, some (.str wd), none, none, none, none, none] ∧ H3 = H2 ∧ m = "", ?_, ?_⟩
  · refine ⟨_, rfl, _, rfl, wd, _, c, rfl, rfl, hz, hc, rfl, _, rfl, ?_⟩
    rw [str_dec, hc3]
    by_cases hq : m = "?"
    · rw [decide_eq_true hq]
      refine iteT ?_
      rw [decide_eq_true hq] at e0
      refine ⟨_, rfl, rfl, _, rfl, ?_⟩
      refine ite2 (fun cN => ?_) (fun cN => ?_)
      · have cN := of_decide_eq_true cN
        subst cN
        refine q H2 true (Same.refl H2) ⟨fun _ => ⟨?_, fun c' hc' => by cases hc'⟩, fun _ => rfl⟩
        rw [e0]
        cases hf.1
        simp [isNon]
      · have hn : isNon kv = false := by
          rw [← kvnon hf.1]
          exact Bool.eq_false_iff.mpr cN
        have ei : inner m = "" := by rw [hq]; decide +kernel
        refine ⟨_, rfl, _, rfl, _, rfl, _, rfl, _, rfl, wd, rfl, hz, ?_⟩
        have hq0 : m ≠ "" := by rw [hq]; decide +kernel
        refine ⟨t, g, eD, sD, qD, tv, v, cutW wd, r, inner m, kv, ks, S, ht, rfl, hT, hin hq0, ?_, hf, hnl, hkid, hS, fun H' b s1 hb => q H' b s1 ?_⟩
        · have z1 : rank m = 1 := by rw [hq]; decide +kernel
          have z2 : rank (inner m) = 0 := by rw [ei]; decide +kernel
          omega
        · rw [hb, ei, fitV_base, e0, hn]
          simp
    · rw [decide_eq_false hq]
      refine iteF ?_
      exact ⟨rfl, rfl, (mark_cases hw).resolve_right fun z => z.elim hq hm⟩
  rintro σ H3 ⟨rfl, rfl, rfl⟩
  have e1 : fitV r "" kv ks = fit1 r kv := fitV_base r kv ks
  rw [e1] at q
  -- the answer of a check
  have vfin : ∀ (i : Nat) (H' : Hp), Same H3 H' → chkN.idxOf? r = some i → Q (.bl (chkF i kv)) H' := fun i H' s1 hi => q H' _ s1 (by
    rw [fit1_chk hi]
    exact ⟨fun z => ⟨z, fun c' hc' => by
      obtain ⟨z1, z2⟩ := chk_plain z
      rw [val_kids Sk hf.1 z1 z2] at hc'
      cases hc'⟩, fun z => z.1⟩)
  obtain ⟨vN, vD, vA, vI, v01, vR, vL, vV⟩ := val_rules
  have rOf : ∀ {x y : Str}, WT.lookup x = some (y, ("" : Str)) → wd = x → r = y := fun {x y} h e => by
    rw [e, h] at hw
    exact (congrArg Prod.fst (Option.some.inj hw)).symm
  refine ⟨fun σ H4 => σ = [some (.ref t), some v, some (.str wd), none, none, none, none, none] ∧ Same H3 H4 ∧ wd ∉ (["I", "01", "R"] : List Str), ?_, ?_⟩
  · refine ⟨_, rfl, by show 3 ≤ sizeLine; decide, fun t3 nt3 => ⟨t3, [.str "I", .str "01", .str "R"], rfl, .inr (SqT.of upd_same), rfl, rfl, _, rfl, ?_⟩⟩
    have s1 := same_new (o := .tup [.str "I", .str "01", .str "R"]) nt3
    generalize upd H3 t3 (.tup [.str "I", .str "01", .str "R"]) = H4 at s1
    rw [if_neg (by decide), show ([.str "I", .str "01", .str "R"] : List V) = (["I", "01", "R"] : List Str).map V.str from rfl, inV_strs]
    by_cases hI : wd ∈ (["I", "01", "R"] : List Str)
    · rw [decide_eq_true hI]
      refine iteT ?_
      refine ⟨_, rfl, fun p np => ⟨Nat.zero_le _, fun l1 nl1 => ⟨by show 2 ≤ sizeLine; decide, fun l2 nl2 => ⟨_, rfl, by show 4 ≤ sizeLine; decide, fun l3 nl3 => ?_⟩⟩⟩⟩
      have hp0 : (upd H4 p (.dK [])) p = some (.dK []) := upd_same
      have s2 := s1.trans (same_new (o := .dK []) np)
      have s3 := s2.trans (same_new (o := .lst []) nl1)
      have s4 := s3.trans (same_new (o := .lst [.int 0, .int 1]) nl2)
      have s5 := s4.trans (same_new (o := .lst [.int (-1), .int 97, .int 114, .int 115]) nl3)
      have hp5 := same_new (o := .lst [.int (-1), .int 97, .int 114, .int 115]) nl3 _ _ (same_new (o := .lst [.int 0, .int 1]) nl2 _ _ (same_new (o := .lst []) nl1 _ _ hp0))
      have h1 := same_new (o := .lst [.int (-1), .int 97, .int 114, .int 115]) nl3 _ _ (same_new (o := .lst [.int 0, .int 1]) nl2 _ _ (upd_same (H := upd H4 p (.dK [])) (a := l1) (o := .lst [])))
      have h2 := same_new (o := .lst [.int (-1), .int 97, .int 114, .int 115]) nl3 _ _ (upd_same (H := upd (upd H4 p (.dK [])) l1 (.lst [])) (a := l2) (o := .lst [.int 0, .int 1]))
      have h3 : (upd (upd (upd (upd H4 p (.dK [])) l1 (.lst [])) l2 (.lst [.int 0, .int 1])) l3 (.lst [.int (-1), .int 97, .int 114, .int 115])) l3 = some (.lst [.int (-1), .int 97, .int 114, .int 115]) := upd_same
      generalize upd (upd (upd (upd H4 p (.dK [])) l1 (.lst [])) l2 (.lst [.int 0, .int 1])) l3 (.lst [.int (-1), .int 97, .int 114, .int 115]) = H5 at s5 hp5 h1 h2 h3
      let kv3' : List (Key × V) := [(.inr "I", .ref l1), (.inr "01", .ref l2), (.inr "R", .ref l3)]
      refine ⟨hp5, kv3', rfl, by show 3 ≤ 15; decide, ?_⟩
      have hpk : (upd H5 p (.dK (mergeK [] kv3'))) p = some (.dK kv3') := upd_same
      have k6 : ∀ b o, b ≠ p → H5 b = some o → (upd H5 p (.dK (mergeK [] kv3'))) b = some o := fun b o n e => by rw [upd_ne n]; exact e
      have s6 : Same H3 (upd H5 p (.dK (mergeK [] kv3'))) := fun b o e => k6 b o (fun z => by rw [z] at e; rw [s1 _ _ e] at np; cases np) (s5 b o e)
      have n1 : l1 ≠ p := fun z => by rw [z, hp5] at h1; cases h1
      have n2 : l2 ≠ p := fun z => by rw [z, hp5] at h2; cases h2
      have n3 : l3 ≠ p := fun z => by rw [z, hp5] at h3; cases h3
      have g1 := k6 _ _ n1 h1
      have g2 := k6 _ _ n2 h2
      have g3 := k6 _ _ n3 h3
      generalize upd H5 p (.dK (mergeK [] kv3')) = H6 at hpk s6 g1 g2 g3
      have dg : ∀ {x : Str} {u : V}, wd = x → valV kv3' (Sum.inr x) = some u → DGet H6 p (.str wd) (some u) := fun {x u} e h => by
        rw [← h, e]
        exact DGet.k (k := Sum.inr x) hpk
      refine ⟨_, rfl, ?_⟩
      rcases List.mem_cons.mp hI with e | hI
      · have er := rOf vI e
        exact ⟨p, .ref l1, rfl, dg e rfl, v, kv, l1, [], rfl, hf.1.up s6, g1, fun H' s' => numF_cnt kv ▸ vfin 1 H' (s6.trans s') (by rw [er]; decide +kernel)⟩
      rcases List.mem_cons.mp hI with e | hI
      · have er := rOf v01 e
        exact ⟨p, .ref l2, rfl, dg e rfl, v, kv, l2, [0, 1], rfl, hf.1.up s6, g2, fun H' s' => numF_bit kv ▸ vfin 0 H' (s6.trans s') (by rw [er]; decide +kernel)⟩
      rcases List.mem_cons.mp hI with e | hI
      · have er := rOf vR e
        exact ⟨p, .ref l3, rfl, dg e rfl, v, kv, l3, [-1, 97, 114, 115], rfl, hf.1.up s6, g3, fun H' s' => numF_cnv kv ▸ vfin 2 H' (s6.trans s') (by rw [er]; decide +kernel)⟩
      cases hI
    · rw [decide_eq_false hI]
      refine iteF ?_
      exact ⟨rfl, s1, hI⟩
  rintro σ H4 ⟨rfl, s4, hI⟩
  refine ⟨fun σ H5 => σ = [some (.ref t), some v, some (.str wd), none, none, none, none, none] ∧ H5 = H4 ∧ wd ≠ "N", ?_, ?_⟩
  · refine ⟨_, rfl, rfl, _, rfl, ?_⟩
    rw [str_dec]
    by_cases hN : wd = "N"
    · rw [decide_eq_true hN]
      refine iteT ?_
      have er := rOf vN hN
      exact ⟨_, rfl, v, kv, rfl, hf.1.up s4, fun H' s' => vfin 3 H' (s4.trans s') (by rw [er]; decide +kernel)⟩
    · rw [decide_eq_false hN]
      refine iteF ?_
      exact ⟨rfl, rfl, hN⟩
  rintro σ H5 ⟨rfl, rfl, hN⟩
  refine ⟨fun σ H6 => σ = [some (.ref t), some v, some (.str wd), none, none, none, none, none] ∧ Same H3 H6 ∧ wd ∉ (["D", "A"] : List Str), ?_, ?_⟩
  · refine ⟨_, rfl, by show 2 ≤ sizeLine; decide, fun t3 nt3 => ⟨t3, [.str "D", .str "A"], rfl, .inr (SqT.of upd_same), rfl, rfl, _, rfl, ?_⟩⟩
    have s5 := s4.trans (same_new (o := .tup [.str "D", .str "A"]) nt3)
    generalize upd H5 t3 (.tup [.str "D", .str "A"]) = H6 at s5
    rw [if_neg (by decide), show ([.str "D", .str "A"] : List V) = (["D", "A"] : List Str).map V.str from rfl, inV_strs]
    by_cases hDA : wd ∈ (["D", "A"] : List Str)
    · rw [decide_eq_true hDA]
      refine iteT ?_
      have hv6 := hf.1.up s5
      refine ⟨fun σ H7 => ∃ (l : Addr) (ws : List Str), σ = [some (.ref t), some v, some (.str wd), some (.ref l), none, none, none, none] ∧ Same H3 H7 ∧ H7 l = some (.lst (ws.map V.str)) ∧ ws.length ≤ 1010 ∧ (∀ p ∈ ws, p.length ≤ 1000) ∧ ws.all isNm = cDot kv, ?_, ?_⟩
      · refine ⟨_, rfl, v, .ty "str", _, _, _, rfl, .ty _, hv6.ty Sk, kit_str Sk hv6, _, rfl, ?_⟩
        cases hst : isStr kv with
        | true =>
          refine iteT ?_
          cases hv6 with
          | str x hx =>
            have s1000 : (1010 : Nat) ≤ sizeLine := by decide
            refine ⟨_, rfl, ⟨_, rfl⟩, x, _, rfl, rfl, by decide +kernel, by omega, fun l nl => ⟨l, Txt.split x ".", rfl, s5.trans (same_new nl), upd_same, ?_, fun p hp => Nat.le_trans (split_piece hp) hx, rfl⟩⟩
            have := split_len x
            omega
          | _ => cases hst
        | false =>
          refine iteF ?_
          refine ⟨by show 1 ≤ sizeLine; decide, fun l nl => ⟨l, [""], rfl, s5.trans (same_new nl), upd_same, by show 1 ≤ 1010; decide, fun p hp => by rw [List.mem_singleton.mp hp]; decide +kernel, ?_⟩⟩
          have e : cDot kv = false := by cases kv <;> first | rfl | cases hst
          rw [e]
          decide +kernel
      · rintro σ H7 ⟨l, ws, rfl, s7, hl, hwl, hwp, hwa⟩
        refine ⟨_, rfl, l, rfl, ⟨_, SqL.of hl⟩, fun D nD => ?_⟩
        refine lc_list (K := K) (a := l) (xs := ws.map V.str) (fun i H8 => Same H7 H8 ∧ H8 D = some (.lst (((ws.take i).map isNm).map V.bl))) ⟨same_new nD, by rw [upd_same]; rfl⟩ (fun i H8 _ ⟨s8, _⟩ => SqL.of (s8 _ _ hl)) ?_ ?_
        · rintro i u H8 hu ⟨s8, h8⟩
          rw [List.getElem?_map] at hu
          cases hp : ws[i]? with
          | none => rw [hp] at hu; cases hu
          | some p =>
            rw [hp] at hu
            cases hu
            refine ⟨rfl, ?_⟩
            unfold tYes
            refine iteT ?_
            refine ⟨_, rfl, .str p, .str p, rfl, .str p (hwp p (List.mem_of_getElem? hp)), fun H9 s9 => ?_⟩
            refine ⟨_, s9 _ _ h8, ?_, ?_, ?_⟩
            · have z : (2000 : Nat) ≤ sizeLine := by decide
              rw [List.length_map, List.length_map, List.length_take]
              omega
            · intro b o e
              rw [upd_ne (ne_of_none e nD)]
              exact s9 _ _ (s8 _ _ e)
            · rw [upd_same, List.take_succ, hp, List.map_append, List.map_append]
              rfl
        · rintro H8 ⟨s8, h8⟩
          rw [List.length_map, List.take_length] at h8
          refine ⟨D, _, rfl, SqL.of h8, _, rfl, ?_⟩
          have s38 := s7.trans s8
          have ea : (ws.map isNm).all id = cDot kv := by
            rw [List.all_map, ← hwa]
            rfl
          rw [ea]
          have hv8 := hf.1.up s38
          rcases List.mem_cons.mp hDA with e | hDA
          · have er := rOf vD e
            have qq := vfin 4 H8 s38 (by rw [er]; decide +kernel)
            refine ite2 (fun c0 => ?_) (fun c0 => ?_)
            · have z : chkF 4 kv = true := c0
              rw [z] at qq
              exact qq
            · refine ⟨_, rfl, rfl, _, rfl, ?_⟩
              rw [str_dec, e, show decide (("D" : Str) = "A") = false from by decide +kernel]
              refine iteF ?_
              have z : chkF 4 kv = false := Bool.eq_false_iff.mpr c0
              rw [z] at qq
              exact qq
          rcases List.mem_cons.mp hDA with e | hDA
          · have er := rOf vA e
            have qq := vfin 5 H8 s38 (by rw [er]; decide +kernel)
            refine ite2 (fun c0 => ?_) (fun c0 => ?_)
            · have z : chkF 5 kv = true := by
                cases kv with
                | str x => show (isDt x || decide (x = "*")) = true; rw [show isDt x = true from c0]; rfl
                | _ => cases c0
              rw [z] at qq
              exact qq
            · refine ⟨_, rfl, rfl, _, rfl, ?_⟩
              rw [str_dec, e, show decide (("A" : Str) = "A") = true from by decide +kernel]
              refine iteT ?_
              refine ⟨_, rfl, kv, "*", hv8, rfl, ?_⟩
              have z : chkF 5 kv = eqK kv "*" := by
                cases kv with
                | str x =>
                  have c0' : isDt x = false := Bool.eq_false_iff.mpr c0
                  show (isDt x || decide (x = "*")) = decide (x = "*")
                  rw [c0']; rfl
                | _ => rfl
              rw [← z]
              exact qq
          cases hDA
    · rw [decide_eq_false hDA]
      refine iteF ?_
      exact ⟨rfl, s5, hDA⟩
  rintro σ H6 ⟨rfl, s6, hDA⟩
  have hv6 := hf.1.up s6
  refine ⟨fun σ H7 => σ = [some (.ref t), some v, some (.str wd), none, none, none, none, none] ∧ H7 = H6 ∧ wd ≠ "L", ?_, ?_⟩
  · refine ⟨_, rfl, rfl, _, rfl, ?_⟩
    rw [str_dec]
    by_cases hL : wd = "L"
    · rw [decide_eq_true hL]
      refine iteT ?_
      have er := rOf vL hL
      have qq := vfin 6 H6 s6 (by rw [er]; decide +kernel)
      refine ⟨_, rfl, rfl, _, rfl, ?_⟩
      refine ite2 (fun c0 => ?_) (fun c0 => ⟨_, rfl, true, rfl, _, rfl, ?_⟩)
      · have c0 := of_decide_eq_true c0
        subst c0
        cases hv6
        exact qq
      refine ite2 (fun c1 => ?_) (fun c1 => ⟨_, rfl, false, rfl, ?_⟩)
      · have c1 := of_decide_eq_true c1
        subst c1
        cases hv6
        exact qq
      have e : decide (v = .bl false) = chkF 6 kv := by
        cases hv6 with
        | non => exact absurd rfl c0
        | bl b => cases b <;> first | rfl | exact absurd rfl c1
        | _ => rfl
      rw [e]
      exact qq
    · rw [decide_eq_false hL]
      refine iteF ?_
      exact ⟨rfl, rfl, hL⟩
  rintro σ H7 ⟨rfl, rfl, hL⟩
  refine ⟨fun σ H8 => σ = [some (.ref t), some v, some (.str wd), none, none, none, none, none] ∧ H8 = H7 ∧ wd ≠ "V", ?_, ?_⟩
  · refine ⟨_, rfl, rfl, _, rfl, ?_⟩
    rw [str_dec]
    by_cases hV : wd = "V"
    · rw [decide_eq_true hV]
      refine iteT ?_
      have er := rOf vV hV
      have qq : ∀ H', Same H7 H' → Q (.bl (cVal kv)) H' := fun H' s' => vfin 7 H' (s6.trans s') (by rw [er]; decide +kernel)
      refine ⟨fun σ H8 => σ = [some (.ref t), some v, some (.str wd), none, some (.bl (numK kv)), none, none, none] ∧ H8 = H7, ?_, ?_⟩
      · refine ⟨_, rfl, v, .ty "int", _, _, _, rfl, .ty _, hv6.ty Sk, kit_int Sk hv6, _, rfl, ?_⟩
        refine ite2 (fun c0 => ?_) (fun c0 => ?_)
        · refine ⟨_, rfl, v, .ty "bool", _, _, _, rfl, .ty _, hv6.ty Sk, kit_bool Sk hv6, _, rfl, ?_⟩
          refine ite2 (fun c1 => ?_) (fun c1 => ?_)
          · have e : numK kv = true := by cases kv <;> first | rfl | cases c1
            exact ⟨by rw [e]; rfl, rfl⟩
          · cases hv6 with
            | int i => exact ⟨_, rfl, _, _, rfl, rfl, rfl, rfl⟩
            | bl b => exact absurd rfl c1
            | _ => cases c0
        · have e : numK kv = false := by cases kv <;> first | rfl | exact absurd rfl c0
          exact ⟨by rw [e]; rfl, rfl⟩
      · rintro σ H8 ⟨rfl, rfl⟩
        refine ⟨_, rfl, rfl, _, rfl, ?_⟩
        refine ite2 (fun c0 => ?_) (fun c0 => ⟨_, rfl, _, rfl, ?_⟩)
        · have c0 := of_decide_eq_true c0
          subst c0
          cases hv6
          exact qq H8 (Same.refl H8)
        refine ite2 (fun c1 => ?_) (fun c1 => ?_)
        · have e : true = cVal kv := by cases kv <;> first | rfl | cases c1 | exact c1.symm
          rw [e]
          exact qq H8 (Same.refl H8)
        refine ⟨_, rfl, by show 5 ≤ sizeLine; decide, fun t5 nt5 => ?_⟩
        have s9 := same_new (o := .tup [.ty "str", .ref (Cs 0), .ref (Cs 1), .ref (Cs 2), .ref (Cs 3)]) nt5
        have hv9 := hv6.up s9
        refine ⟨v, t5, _, _, _, _, rfl, upd_same, .cons (.ty _) (.cons (.own _) (.cons (.own _) (.cons (.own _) (.cons (.own _) .nil)))), hv9.ty Sk, kit_five Sk hv9, ?_⟩
        have e : (isStr kv || isVal kv) = cVal kv := by
          cases hv6 with
          | int i => exact (Bool.eq_false_iff.mpr c1).symm
          | non => exact absurd rfl c0
          | bl b => exact absurd rfl c1
          | _ => rfl
        rw [e]
        exact qq _ s9
    · rw [decide_eq_false hV]
      refine iteF ?_
      exact ⟨rfl, rfl, hV⟩
  rintro σ H8 ⟨rfl, rfl, hV⟩
  have hval : wd ∉ valW := by
    intro z
    unfold valW at z
    simp only [List.mem_cons, List.not_mem_nil, or_false] at z hI hDA
    rcases z with z | z | z | z | z | z | z | z
    · exact hN z
    · exact hDA (.inl z)
    · exact hDA (.inr z)
    · exact hI (.inl z)
    · exact hI (.inr (.inl z))
    · exact hI (.inr (.inr z))
    · exact hL z
    · exact hV z
  obtain ⟨hix, hgrp⟩ := base_facts hw hval
  refine ⟨_, rfl, v, .ref C, _, _, _, rfl, .own _, hv6.ty Sk, kit_node Sk hv6, _, rfl, ?_⟩
  cases hnd : isNode kv with
  | false =>
    refine iteT ?_
    refine q H8 false s6 ⟨fun z => by (cases z), fun z => ?_⟩
    have e2 : fit1 r kv = false := by
      unfold fit1
      rw [hix]
      cases kv <;> first | rfl | cases hnd
    rw [e2] at z
    cases z.1
  | true =>
    refine iteF ?_
    obtain ⟨p, rfl, hnp⟩ := nodeOf_yes hf.1 hnd
    have hl0 : isLst kv = false := by cases kv <;> first | rfl | cases hnd
    have hkp : kidsV C H3 (.ref p) = [p] := by rw [kidsV_one Sk hf.1 hl0, hnp]; rfl
    obtain ⟨Sp, hpn⟩ := hkid p (by rw [hkp]; exact List.mem_singleton.mpr rfl)
    obtain ⟨k2, d2, rs2, vs2, N2, _⟩ := (hS p Sp).ex
    obtain ⟨dx2, hp3⟩ := N2.at_
    have hp8 := s6 _ _ hp3
    have ekv : kv = .node k2 d2 := KvAt.det Sk hf.1 (.node hp3)
    have hkg := hgrp k2 rs2 N2.row
    have ef : fit1 r kv = decide (k2 ∈ someOf wd) := by
      rw [hkg, ekv]
      unfold fit1
      rw [hix]
    have T8 := hT.up s6
    have dgG : DGet H8 t (.str "groups") (some (.ref g)) := by
      have z := DGet.k (k := Sum.inr ("groups" : Str)) T8.at_
      rw [valV_tail noGroups T8.len] at z
      exact z
    -- the end, once the kinds are at hand
    have last : ∀ (H9 : Hp) (u : V), Same H8 H9 → ((∃ a kvs, u = .ref a ∧ H9 a = some (.dK kvs) ∧ (valV kvs (Sum.inr k2)).isSome = decide (k2 ∈ someOf wd)) ∨ ∃ a, u = .ref a ∧ H9 a = some (.lst ((someOf wd).map V.str))) →
        tRet (tAndV (tOp (fun x y H Q => rIn K false x y H Q ∨ rInD x y H Q) (tFld K (tVar 1) "kind") (tVar 5)) (tCall (spDue n C Cs) [] E0 (tCons (tVar 0) (tCons (tVar 1) tNil)))) { nx := fun _ H' => Q .non H', rt := Q } [some (.ref t), some (.ref p), some (.str wd), none, none, some u, none, none] H9 := fun H9 u s9 hu => by
      have fin : tAndV (fun _ H Q' => Q' (.bl (decide (k2 ∈ someOf wd))) H) (tCall (spDue n C Cs) [] E0 (tCons (tVar 0) (tCons (tVar 1) tNil))) [some (.ref t), some (.ref p), some (.str wd), none, none, some u, none, none] H9 Q := by
        refine ⟨_, rfl, ?_⟩
        have s39 := s6.trans s9
        refine ite2 (fun cY => ?_) (fun cY => ?_)
        · refine ⟨_, rfl, _, rfl, t, g, eD, sD, qD, tv, .ref p, kv, S, ht, rfl, by omega, T8.up s9, hf.1.up s39, fun p' e _ => by cases e; exact ⟨Sp, hpn⟩, fun p' hp' => (hS p' hp').up Sk s39, fun H' b s' hb => q H' b (s39.trans s') ?_⟩
          rw [hb, ef, cY, hkp]
          have tu := Tr.up Sk hS s39 n p hpn Sp
          constructor
          · rintro ⟨p', e, _, z⟩
            cases e
            exact ⟨rfl, fun c' hc' => by rw [List.mem_singleton.mp hc']; exact tu.mp z⟩
          · rintro ⟨_, z⟩
            exact ⟨p, rfl, hnd, tu.mpr (z p (List.mem_singleton.mpr rfl))⟩
        · refine q H9 false s39 ⟨fun z => by (cases z), fun z => ?_⟩
          rw [ef] at z
          exact absurd z.1 cY
      rcases hu with ⟨a, kvs, rfl, ha, hv⟩ | ⟨a, rfl, ha⟩
      · refine ⟨_, rfl, p, C, dx2, _, .str k2, rfl, s9 _ _ hp8, Nf.cl, Nf.n1, rfl, _, rfl, .inr ⟨a, kvs, Sum.inr k2, rfl, rfl, ha, ?_⟩⟩
        rw [hv]
        exact fin
      · refine ⟨_, rfl, p, C, dx2, _, .str k2, rfl, s9 _ _ hp8, Nf.cl, Nf.n1, rfl, _, rfl, .inl ⟨a, _, rfl, .inl (SqL.of ha), rfl, strs_flat _, ?_⟩⟩
        rw [if_neg (by decide), inV_strs]
        exact fin
    have dGw : ∀ o, valV (kv3 eD sD qD) (Sum.inr wd) = o → DGet H8 g (.str wd) o := fun o ho => ho ▸ DGet.k (k := Sum.inr wd) T8.gr
    by_cases hE : wd = "E"
    · have ho : valV (kv3 eD sD qD) (Sum.inr wd) = some (.ref eD) := by rw [hE]; rfl
      refine ⟨_, rfl, _, rfl, t, .ref g, rfl, dgG, g, _, rfl, dGw _ ho, _, rfl, iteT ?_⟩
      refine ⟨_, rfl, t, .ref g, rfl, dgG, _, rfl, g, .ref eD, rfl, dGw _ ho, ?_⟩
      refine last H8 _ (Same.refl H8) (.inl ⟨eD, _, rfl, T8.ge, ?_⟩)
      rw [rows_some]
      unfold someOf
      rw [if_pos hE]
    by_cases hSw : wd = "S"
    · have ho : valV (kv3 eD sD qD) (Sum.inr wd) = some (.ref sD) := by rw [hSw]; rfl
      refine ⟨_, rfl, _, rfl, t, .ref g, rfl, dgG, g, _, rfl, dGw _ ho, _, rfl, iteT ?_⟩
      refine ⟨_, rfl, t, .ref g, rfl, dgG, _, rfl, g, .ref sD, rfl, dGw _ ho, ?_⟩
      refine last H8 _ (Same.refl H8) (.inl ⟨sD, _, rfl, T8.gs, ?_⟩)
      rw [rows_some]
      unfold someOf
      rw [if_neg hE, if_pos hSw]
    by_cases hP : wd = "P"
    · have ho : valV (kv3 eD sD qD) (Sum.inr wd) = some (.ref qD) := by rw [hP]; rfl
      refine ⟨_, rfl, _, rfl, t, .ref g, rfl, dgG, g, _, rfl, dGw _ ho, _, rfl, iteT ?_⟩
      refine ⟨_, rfl, t, .ref g, rfl, dgG, _, rfl, g, .ref qD, rfl, dGw _ ho, ?_⟩
      refine last H8 _ (Same.refl H8) (.inl ⟨qD, _, rfl, T8.gq, ?_⟩)
      rw [rows_some]
      unfold someOf
      rw [if_neg hE, if_neg hSw, if_pos hP]
    have ho : valV (kv3 eD sD qD) (Sum.inr wd) = none := by
      unfold kv3
      rw [valV_neg (fun z => hE (Sum.inr.inj z).symm), valV_neg (fun z => hSw (Sum.inr.inj z).symm), valV_neg (fun z => hP (Sum.inr.inj z).symm)]
      rfl
    refine ⟨_, rfl, _, rfl, t, .ref g, rfl, dgG, g, _, rfl, dGw _ ho, _, rfl, iteF ?_⟩
    refine ⟨_, rfl, wd, rfl, fun H9 a na s9 ha => ⟨_, rfl, by show 1 ≤ sizeLine; decide, fun b nb => ⟨a, b, _, _, rfl, rfl, same_new nb _ _ ha, upd_same, ?_, fun c nc => ?_⟩⟩⟩
    · have z := signs_len wd
      have s : (1000 : Nat) ≤ sizeLine := by decide
      rw [List.length_map]
      show (signs wd).length + 1 ≤ sizeLine
      omega
    · refine last _ _ ((s9.trans (same_new nb)).trans (same_new nc)) (.inr ⟨c, rfl, ?_⟩)
      rw [upd_same]
      unfold someOf
      rw [if_neg hE, if_neg hSw, if_neg hP, List.map_append]
      rfl
end
end K5

namespace K5
open PySem PySem.Spec PyProof.Rows L2 StX RZ TL
abbrev nDue : List Str := ["_law_table_here", "_law_thing", "_law_name", "_law_held_here"]
theorem scDue : FnScope nDue ["_law_table_here", "_law_thing"] (defScope sDue) := ⟨rfl, rfl, rfl, by decide +kernel, rfl, by decide +kernel, by decide +kernel⟩
section
variable {P : Program} {w : World} {K : PySem.W.Frag} {mg : Str → Option Value} {base : Heap} {C fG fS : Addr} {Cs fE : Nat → Addr} {fN fW fSg : Addr} {dN dW dSg : FuncData} {dE : Nat → FuncData}
theorem ok_due {f fL : Addr} {fd dL gd : FuncData} (F : Fun K "_law_is_due" "_law_is_due" sDue f fd) (Z : Blt mg) (Sk : Kits K C Cs) (Nf : NodeF K C) (mC : mg "Node" = some (.ref C)) (Nc : NodeC K C fG fS) (G : FnOk P w K mg base CX0 1 fG gd ["self", "at"] (spGet C)) (bG : Binds K gd ["self", "at"] [])
    {n k : Nat} (hk : 2 ≤ k) (L : FnOk P w K mg base CX0 k fL dL ["_law_table_here", "_law_value", "_law_held_here"] (spLF n 3 C Cs)) (bL : Binds K dL ["_law_table_here", "_law_value", "_law_held_here"] []) (kL : PySem.W.keepIn K (.ref fL) = true) (mL : mg "_law_fits" = some (.ref fL)) :
    FnOk P w K mg base CX0 (k + 1) f fd ["_law_table_here", "_law_thing"] (spDue (n + 1) C Cs) := by
  refine F.ok scDue (fun vs H Q E h => ?_) (fun cdv A outer s H vs Q E hr h => ?_)
  · obtain ⟨t, g, e, s, q, tv, v, kv, S, ht, rfl, _⟩ := h
    rfl
  obtain ⟨t, g, eD, sD, qD, tv, v, kv, S, ht, rfl, _, hT, hv, hn, hS, q⟩ := h
  have hr2 := hr.mono hk
  refine ⟨_, pss_cons (ps_if (pt_not (pt_val (pe_callB call_isi (by rfl) Z.isI (by decide +kernel) (pa_cons (pv 1) (pa_cons (pe_glob (v := .ref C) rfl mC rfl) pa_nil))))) (pss_one (ps_ret pe_bl)) pss_nil)
    (pss_one (ps_ret (pe_callB (cr_all rfl) (by rfl) Z.al (by decide +kernel) (pa_cons (pe_lc (own := [("_law_name", 2), ("_law_held_here", 3)]) (g := gUnl K 2 (gCons (gName 2) (gCons (gName 3) gNil))) (tt := tYes) rfl scDue.nd (pi_list (pe_dget (hu_of hr) (pv 0) (pe_fld (pv 1) rfl) (fun _ _ => rfl)))
        (blkOk_by (own := [("_law_name", 2), ("_law_held_here", 3)]) (N := nDue) (sc := defScope sDue) (by decide +kernel)) (fun _ _ _ _ _ => pg_unl rfl (pgs_cons (pg_name (i := 2) scDue.nd rfl (.inl rfl)) (pgs_cons (pg_name (i := 3) scDue.nd rfl (.inl rfl)) pgs_nil))) (fun _ _ _ _ _ => pts_nil)
        (fun _ _ _ _ _ => pe_call L hr rfl mL kL bL .nil pass0 (pa_cons (pv 0) (pa_cons (pe_ixN Nc G bG hr2 (pv 1) (pv 2)) (pa_cons (pv 3) pa_nil))))) pa_nil)))), ?_⟩
  refine ⟨_, rfl, v, .ref C, _, _, _, rfl, .own _, hv.ty Sk, kit_node Sk hv, _, rfl, ?_⟩
  cases hnd : isNode kv with
  | false =>
    refine iteT ?_
    exact q H false (Same.refl H) ⟨fun z => by (cases z), fun ⟨p, _, z, _⟩ => by rw [hnd] at z; cases z⟩
  | true =>
    refine iteF ?_
    obtain ⟨p, rfl, hnp⟩ := nodeOf_yes hv hnd
    obtain ⟨Sp, hpn⟩ := hn p rfl hnd
    obtain ⟨k2, d, rs, vs, N, hkh⟩ := (hS p Sp).ex
    obtain ⟨dx, hp⟩ := N.at_
    obtain ⟨a, ps, dg, ⟨as, ha, hal, hap⟩, hpl, hpr⟩ := hT.row N.row
    have hnd2 := rows_nodup N.row
    have hs7 := rows_small N.row
    have hlv := N.len
    refine ⟨_, rfl, _, rfl, p, C, dx, _, .str k2, rfl, hp, Nf.cl, Nf.n1, rfl, t, .ref a, rfl, dg, a, rfl, ⟨_, SqL.of ha⟩, fun D nD => ?_⟩
    refine lc_list (K := K) (a := a) (xs := as.map V.ref) (fun i H3 => ∃ bs : List Bool, Same H H3 ∧ H3 D = some (.lst (bs.map V.bl)) ∧ bs.length = i ∧ (bs.all id = true ↔ ∀ (j : Nat) v r, j < i → vs[j]? = some v → rs[j]? = some r → fitF C Cs H r.2.1 r.2.2 v = true ∧ ∀ c ∈ kidsV C H v, Tr C Cs H c))
      ⟨[], same_new nD, by rw [upd_same]; rfl, rfl, ⟨fun _ j v r z => absurd z (Nat.not_lt_zero _), fun _ => rfl⟩⟩ (fun i H3 _ ⟨_, s3, _⟩ => SqL.of (s3 _ _ ha)) ?_ ?_
    · rintro i x H3 hx ⟨bs, s3, h3, hbl, hbs⟩
      rw [List.getElem?_map] at hx
      obtain ⟨b, hb, rfl⟩ : ∃ b, as[i]? = some b ∧ x = .ref b := by
        cases z : as[i]? with
        | none => rw [z] at hx; cases hx
        | some b => rw [z] at hx; cases hx; exact ⟨b, rfl, rfl⟩
      have hi : i < rs.length := by
        rcases Nat.lt_or_ge i as.length with z | z
        · omega
        · rw [List.getElem?_eq_none z] at hb; cases hb
      obtain ⟨r, hr'⟩ : ∃ r, rs[i]? = some r := ⟨_, List.getElem?_eq_getElem hi⟩
      obtain ⟨u, hu⟩ : ∃ u, vs[i]? = some u := ⟨_, List.getElem?_eq_getElem (by omega)⟩
      obtain ⟨wd, hpw, hww⟩ := hpr i r hr'
      obtain ⟨ku, ksu, hfu, hnl⟩ := N.vals u (List.mem_of_getElem? hu)
      have hnm : (namesOf rs)[i]? = some r.1 := by unfold namesOf; rw [List.getElem?_map, hr']; rfl
      have hbw := s3 _ _ (hap i b _ hb hpw)
      refine ⟨b, [.str r.1, .str wd], rfl, SqL.of hbw, rfl, _, _, rfl, _, _, rfl, rfl, rfl, ?_⟩
      unfold tYes
      refine iteT ?_
      refine ⟨_, rfl, _, rfl, _, rfl, p, dx, d, r.1, nodeFs k2 d, _, u, rfl, rfl, s3 _ _ hp, rfl, s3 _ _ N.dk, valV_fkv hnd2 hnm hu, _, rfl, ?_⟩
      have hku : ∀ c ∈ kidsV C H u, c ∈ vs.flatMap (kidsV C H) := fun c hc => List.mem_flatMap.mpr ⟨u, List.mem_of_getElem? hu, hc⟩
      refine ⟨t, g, eD, sD, qD, tv, u, wd, r.2.1, r.2.2, ku, ksu, S, ht, rfl, hT.up s3, hww, ?_, hfu.up s3, hnl, ?_, fun p' hp' => (hS p' hp').up Sk s3, fun H4 b2 s4 hb2 => ?_⟩
      · unfold rank
        split
        · omega
        · split <;> omega
      · intro c hc
        rw [kidsV_up Sk hfu s3] at hc
        have z := hku c hc
        have z2 := hkh c z
        exact ⟨N.kids c z, by omega⟩
      · rw [kidsV_up Sk hfu s3, ← fitF_of Sk hfu] at hb2
        have hkS : ∀ c ∈ kidsV C H u, (Tr C Cs H3 c ↔ Tr C Cs H c) := fun c hc => by
          have z := hku c hc
          have z2 := hkh c z
          exact Tr.up Sk hS s3 n c (by omega) (N.kids c z)
        refine ⟨_, s4 _ _ h3, ?_, bs ++ [b2], fun c o e => ?_, ?_, by rw [List.length_append, hbl]; rfl, ?_⟩
        · have z : (1000 : Nat) < sizeLine := by decide
          rw [List.length_map, hbl]
          omega
        · rw [upd_ne (ne_of_none e nD)]
          exact s4 _ _ (s3 _ _ e)
        · rw [upd_same, List.map_append]
          rfl
        · rw [List.all_append, Bool.and_eq_true, hbs]
          have e3 : ([b2].all id = true) ↔ b2 = true := by simp
          rw [e3, hb2]
          constructor
          · rintro ⟨z1, z2, z3⟩ j v r2 hj g1 g2
            by_cases ej : j = i
            · subst ej
              rw [hu] at g1
              rw [hr'] at g2
              cases g1
              cases g2
              exact ⟨z2, fun c hc => (hkS c hc).mp (z3 c hc)⟩
            · exact z1 j v r2 (by omega) g1 g2
          · intro z
            have y := z i u r (by omega) hu hr'
            exact ⟨fun j v r2 hj => z j v r2 (by omega), y.1, fun c hc => (hkS c hc).mpr (y.2 c hc)⟩
    · rintro H3 ⟨bs, s3, h3, hbl, hbs⟩
      refine ⟨D, bs, rfl, SqL.of h3, ?_⟩
      refine q H3 _ s3 ?_
      have e7 : (as.map V.ref).length = vs.length := by rw [List.length_map]; omega
      rw [hbs, e7]
      have tp : Tr C Cs H p ↔ ∀ (j : Nat) v r, j < vs.length → vs[j]? = some v → rs[j]? = some r → fitF C Cs H r.2.1 r.2.2 v = true ∧ ∀ c ∈ kidsV C H v, Tr C Cs H c := by
        rw [Tr.iff, N.kp]
        unfold locOk
        rw [N.vp, N.rp]
        constructor
        · rintro ⟨z1, z2⟩ j v r _ g1 g2
          exact ⟨z1 j v r g1 g2, fun c hc => z2 c (List.mem_flatMap.mpr ⟨v, List.mem_of_getElem? g1, hc⟩)⟩
        · intro z
          have lt : ∀ (j : Nat) v, vs[j]? = some v → j < vs.length := fun j v g => by
            rcases Nat.lt_or_ge j vs.length with y | y
            · exact y
            · rw [List.getElem?_eq_none y] at g; cases g
          refine ⟨fun j v r g1 g2 => (z j v r (lt j v g1) g1 g2).1, fun c hc => ?_⟩
          obtain ⟨v, hv', hcv⟩ := List.mem_flatMap.mp hc
          obtain ⟨j, hj⟩ := List.mem_iff_getElem?.mp hv'
          have hjl := lt j v hj
          exact (z j v _ hjl hj (List.getElem?_eq_getElem (by omega))).2 c hcv
      rw [← tp]
      exact ⟨fun z => ⟨p, rfl, hnd, z⟩, fun ⟨p', e, _, z⟩ => by cases e; exact z⟩
/-- both, by the height of the nodes -/
theorem looks {f fL : Addr} {fd dL gd : FuncData} (F : Fun K "_law_is_due" "_law_is_due" sDue f fd) (bF : Binds K fd ["_law_table_here", "_law_thing"] []) (mF : mg "_law_is_due" = some (.ref f))
    (FL : Fun K "_law_fits" "_law_fits" sLF fL dL) (bL : Binds K dL ["_law_table_here", "_law_value", "_law_held_here"] []) (mL : mg "_law_fits" = some (.ref fL)) (Z : Blt mg) (Sk : Kits K C Cs) (Nf : NodeF K C) (mC : mg "Node" = some (.ref C)) (Nc : NodeC K C fG fS)
    (G : FnOk P w K mg base CX0 1 fG gd ["self", "at"] (spGet C)) (bG : Binds K gd ["self", "at"] []) (Y : LDefs P w K mg base C Cs fE fN fW fSg dN dW dSg dE) : ∀ n : Nat, FnOk P w K mg base CX0 (4 * n + 2) f fd ["_law_table_here", "_law_thing"] (spDue n C Cs)
  | 0 => no_due
  | n + 1 => by
    have U := looks F bF mF FL bL mL Z Sk Nf mC Nc G bG Y n
    have l0 : FnOk P w K mg base CX0 (4 * n + 2) fL dL ["_law_table_here", "_law_value", "_law_held_here"] (spLF n 0 C Cs) := no_lf
    have l1 := ok_lf FL bL mL Z Sk Nf Y (by omega) l0 U bF F.kp mF
    have l2 := ok_lf FL bL mL Z Sk Nf Y (by omega) l1 (U.mono (by omega)) bF F.kp mF
    have l3 := ok_lf FL bL mL Z Sk Nf Y (by omega) l2 (U.mono (by omega)) bF F.kp mF
    exact ok_due F Z Sk Nf mC Nc G bG (by omega) l3 bL FL.kp mL
end
end K5

namespace K5
open PySem PySem.Spec PyProof.Rows L2 StX RZ TL
/-! ### all nodes of a tree -/
abbrev sNds : Stmt := topS 50
abbrev nNds : List Str := ["_law_table_here", "_law_node", "_law_found", "_law_name", "_law_held_here", "_law_some", "_law_part"]
theorem scNds : FnScope nNds ["_law_table_here", "_law_node"] (defScope sNds) := ⟨rfl, rfl, rfl, by decide +kernel, rfl, by decide +kernel, by decide +kernel⟩
/-- a node with height and weight -/
def Nd (C : Addr) (Cs : Nat → Addr) (H : Hp) (S : Addr → Prop) (ht wt : Addr → Nat) (p : Addr) : Prop :=
  ∃ k d rs vs, NodeOk C Cs H S p k d rs vs ∧ (∀ c ∈ vs.flatMap (kidsV C H), ht c < ht p) ∧ 1 + ((vs.flatMap (kidsV C H)).map wt).sum ≤ wt p
section
variable {K : PySem.W.Frag} {C : Addr} {Cs : Nat → Addr} {H H' : Hp} {S : Addr → Prop} {ht wt : Addr → Nat} {p : Addr}
theorem Nd.h (N : Nd C Cs H S ht wt p) : NodeH C Cs H S ht p := by
  obtain ⟨k, d, rs, vs, a, b, _⟩ := N
  exact ⟨k, d, rs, vs, a, b⟩
theorem Nd.w (N : Nd C Cs H S ht wt p) : NodeW C Cs H S wt p := by
  obtain ⟨k, d, rs, vs, a, _, c⟩ := N
  exact ⟨k, d, rs, vs, a, c⟩
theorem Nd.up (Sk : Kits K C Cs) (N : Nd C Cs H S ht wt p) (s : Same H H') : Nd C Cs H' S ht wt p := by
  obtain ⟨k, d, rs, vs, a, b, c⟩ := N
  obtain ⟨a', e⟩ := a.up Sk s
  exact ⟨k, d, rs, vs, a', by rw [e]; exact b, by rw [e]; exact c⟩
end
def spNds (n : Nat) (C : Addr) (Cs : Nat → Addr) : Sp := fun vs H Q _ => ∃ (t g e s q : Addr) (tv : List Addr) (p : Addr) (S : Addr → Prop) (ht wt : Addr → Nat), vs = [.ref t, .ref p] ∧ TblOk H t tv g e s q ∧ S p ∧ ht p < n ∧ wt p ≤ 1000000 ∧ (∀ p, S p → Nd C Cs H S ht wt p) ∧
  ∀ (H' : Hp) (l : Addr) (qs : List Addr), Same H H' → H l = none → H' l = some (.lst (qs.map V.ref)) → qs ≠ [] → (∀ q ∈ qs, S q) → qs.length ≤ wt p → Q (.ref l) H'
theorem sum_take {α : Type} (f : α → Nat) (xs : List α) (i : Nat) : ((xs.take i).map f).sum ≤ (xs.map f).sum := by
  have e : xs.map f = (xs.take i).map f ++ (xs.drop i).map f := by rw [← List.map_append, List.take_append_drop]
  rw [e, List.sum_append]
  exact Nat.le_add_right _ _
section
variable {P : Program} {w : World} {K : PySem.W.Frag} {mg : Str → Option Value} {base : Heap} {C fG fS : Addr} {Cs : Nat → Addr}
theorem no_nds {f : Addr} {fd : FuncData} {k : Nat} : FnOk P w K mg base CX0 k f fd ["_law_table_here", "_law_node"] (spNds 0 C Cs) := by
  have no : ∀ vs H Q E, ¬ spNds 0 C Cs vs H Q E := fun vs H Q E h => by
    obtain ⟨t, g, e, s, q, tv, p, S, ht, wt, _, _, _, h1, _⟩ := h
    omega
  exact ⟨fun vs H Q E h => absurd h (no vs H Q E), fun A outer s H args us vs Q E _ _ _ _ h => absurd h (no vs H Q E)⟩
theorem ok_nds {f : Addr} {fd gd : FuncData} (F : Fun K "_law_nodes" "_law_nodes" sNds f fd) (bF : Binds K fd ["_law_table_here", "_law_node"] []) (mF : mg "_law_nodes" = some (.ref f)) (Z : Blt mg) (Sk : Kits K C Cs) (Nf : NodeF K C) (mC : mg "Node" = some (.ref C))
    (Nc : NodeC K C fG fS) (G : FnOk P w K mg base CX0 1 fG gd ["self", "at"] (spGet C)) (bG : Binds K gd ["self", "at"] []) {n k : Nat} (hk : 2 ≤ k) (ih : FnOk P w K mg base CX0 k f fd ["_law_table_here", "_law_node"] (spNds n C Cs)) :
    FnOk P w K mg base CX0 (k + 1) f fd ["_law_table_here", "_law_node"] (spNds (n + 1) C Cs) := by
  refine F.ok scNds (fun vs H Q E h => ?_) (fun cdv A outer s H vs Q E hr h => ?_)
  · obtain ⟨t, g, e, s, q, tv, p, S, ht, wt, rfl, _⟩ := h
    rfl
  obtain ⟨t, g, eD, sD, qD, tv, p, S, ht, wt, rfl, hT, Sp, hpn, hwp, hS, q⟩ := h
  have hr2 := hr.mono hk
  obtain ⟨k2, d, rs, vs, N, hkh, hkw⟩ := hS p Sp
  obtain ⟨dx, hp⟩ := N.at_
  obtain ⟨a, ps, dg, ⟨as, ha, hal, hap⟩, hpl, hpr⟩ := hT.row N.row
  have hnd2 := rows_nodup N.row
  have hlv := N.len
  have sL : (1000000 : Nat) < sizeLine := by decide
  refine ⟨_, pss_cons (ps_set (i := 2) scNds.nd rfl (.inl rfl) (pe_lst (pa_cons (pv 1) pa_nil)))
    (pss_cons (ps_for PassesOwn.never rfl (pi_list (pe_dget (hu_of hr) (pv 0) (pe_fld (pv 1) rfl) (fun _ _ => rfl))) (pg_unl rfl (pgs_cons (pg_name (i := 3) scNds.nd rfl (.inl rfl)) (pgs_cons (pg_name (i := 4) scNds.nd rfl (.inl rfl)) pgs_nil)))
      (C8.pss_cut (ps_set (i := 5) scNds.nd rfl (.inl rfl) (pe_ifExp (pt_val (pe_callB call_isi (by rfl) Z.isI (by decide +kernel) (pa_cons (pe_ixN Nc G bG hr2 (pv 1) (pv 3)) (pa_cons (pe_bltn (v := .ty "list") (by rfl) Z.ls (by decide +kernel) rfl) pa_nil)))) (pe_ixN Nc G bG hr2 (pv 1) (pv 3)) (pe_lst (pa_cons (pe_ixN Nc G bG hr2 (pv 1) (pv 3)) pa_nil))))
      (pss_one (ps_for PassesOwn.never rfl (pi_list (pv 5)) (pg_name (i := 6) scNds.nd rfl (.inl rfl)) (pss_one (ps_set (i := 2) scNds.nd rfl (.inl rfl) (pe_op op_cat (pv 2) (pe_ifExp (pt_val (pe_callB call_isi (by rfl) Z.isI (by decide +kernel) (pa_cons (pv 6) (pa_cons (pe_glob (v := .ref C) rfl mC rfl) pa_nil))))
          (pe_call ih hr rfl mF F.kp bF .nil pass0 (pa_cons (pv 0) (pa_cons (pv 6) pa_nil))) (pe_lst pa_nil)))))))))
    (pss_one (ps_ret (pv 2)))), ?_⟩
  refine ⟨_, rfl, by show 1 ≤ sizeLine; decide, fun lf nlf => ?_⟩
  have s1 := same_new (o := .lst [.ref p]) nlf
  -- what is found so far: the list at l, with at most 1 + m nodes
  let Fd : Hp → V → Nat → Prop := fun H3 x m => ∃ (l : Addr) (qs : List Addr), x = .ref l ∧ H l = none ∧ H3 l = some (.lst (qs.map V.ref)) ∧ qs ≠ [] ∧ (∀ q ∈ qs, S q) ∧ qs.length ≤ 1 + m
  have sub : ∀ i, (((vs.take i).flatMap (kidsV C H)).map wt).sum ≤ ((vs.flatMap (kidsV C H)).map wt).sum := fun i => by
    have e : vs.flatMap (kidsV C H) = (vs.take i).flatMap (kidsV C H) ++ (vs.drop i).flatMap (kidsV C H) := by rw [← List.flatMap_append, List.take_append_drop]
    rw [e, List.map_append, List.sum_append]
    exact Nat.le_add_right _ _
  refine ⟨_, rfl, _, rfl, p, C, dx, _, .str k2, rfl, s1 _ _ hp, Nf.cl, Nf.n1, rfl, t, .ref a, rfl, ?_, a, rfl, ⟨_, SqL.of (s1 _ _ ha)⟩, ?_⟩
  · have T1 := hT.up s1
    obtain ⟨a', ps', dg', _⟩ := T1.row N.row
    rcases dg with ⟨kvs, kk, e1, e2, e3⟩ | ⟨kvs, kk, b, e1, e2, e3, _⟩
    · exact .inl ⟨kvs, kk, (e1.elim (fun z => .inl (s1 _ _ z)) fun ⟨o, z⟩ => .inr ⟨o, s1 _ _ z⟩), e2, e3⟩
    · cases e2
  refine for_list (K := K) (a := a) (xs := as.map V.ref) (fun i σ H3 => ∃ x2 x3 x4 x5 x6, σ = [some (.ref t), some (.ref p), some x2, x3, x4, x5, x6] ∧ Same H H3 ∧ Fd H3 x2 (((vs.take i).flatMap (kidsV C H)).map wt).sum)
    ⟨.ref lf, none, none, none, none, rfl, s1, lf, [p], rfl, nlf, by rw [upd_same]; rfl, by simp, fun q hq => by rw [List.mem_singleton.mp hq]; exact Sp, by simp⟩ (fun i σ H3 _ ⟨_, _, _, _, _, _, s3, _⟩ => SqL.of (s3 _ _ ha)) ?_ ?_
  · rintro i x σ H3 hx ⟨x2, x3, x4, x5, x6, rfl, s3, hFd⟩
    rw [List.getElem?_map] at hx
    obtain ⟨b, hb, rfl⟩ : ∃ b, as[i]? = some b ∧ x = .ref b := by
      cases z : as[i]? with
      | none => rw [z] at hx; cases hx
      | some b => rw [z] at hx; cases hx; exact ⟨b, rfl, rfl⟩
    have hi : i < rs.length := by
      rcases Nat.lt_or_ge i as.length with z | z
      · omega
      · rw [List.getElem?_eq_none z] at hb; cases hb
    obtain ⟨r, hr'⟩ : ∃ r, rs[i]? = some r := ⟨_, List.getElem?_eq_getElem hi⟩
    obtain ⟨u, hu⟩ : ∃ u, vs[i]? = some u := ⟨_, List.getElem?_eq_getElem (by omega)⟩
    obtain ⟨wd, hpw, hww⟩ := hpr i r hr'
    obtain ⟨ku, ksu, hfu, hnl⟩ := N.vals u (List.mem_of_getElem? hu)
    have hnm : (namesOf rs)[i]? = some r.1 := by unfold namesOf; rw [List.getElem?_map, hr']; rfl
    have hbw := s3 _ _ (hap i b _ hb hpw)
    have hku : ∀ c ∈ kidsV C H u, c ∈ vs.flatMap (kidsV C H) := fun c hc => List.mem_flatMap.mpr ⟨u, List.mem_of_getElem? hu, hc⟩
    have hwt : ∀ c, S c → 1 ≤ wt c := fun c hc => by
      obtain ⟨_, _, _, _, _, _, z⟩ := hS c hc
      omega
    have eT : (((vs.take (i + 1)).flatMap (kidsV C H)).map wt).sum = (((vs.take i).flatMap (kidsV C H)).map wt).sum + ((kidsV C H u).map wt).sum := by
      rw [List.take_succ, hu, List.flatMap_append, List.map_append, List.sum_append]
      show _ + ((List.flatMap (kidsV C H) [u]).map wt).sum = _
      rw [List.flatMap_singleton]
    have hsub := sub (i + 1)
    refine ⟨b, [.str r.1, .str wd], rfl, SqL.of hbw, rfl, _, _, rfl, _, _, rfl, rfl, ?_⟩
    refine ⟨fun σ H4 => ∃ b2 xs, σ = [some (.ref t), some (.ref p), some x2, some (.str r.1), some (.str wd), some (.ref b2), x6] ∧ Same H H4 ∧ Fd H4 x2 (((vs.take i).flatMap (kidsV C H)).map wt).sum ∧ H4 b2 = some (.lst xs) ∧ (∀ x ∈ xs, ∃ k, KvAt C Cs H x k) ∧ xs.filterMap (nodeOf C H) = kidsV C H u, ?_, ?_⟩
    · refine ⟨_, rfl, _, rfl, p, dx, d, r.1, nodeFs k2 d, _, u, rfl, rfl, s3 _ _ hp, rfl, s3 _ _ N.dk, valV_fkv hnd2 hnm hu, u, .ty "list", _, _, _, rfl, .ty _, (hfu.1.up s3).ty Sk, kit_list Sk (hfu.1.up s3), _, rfl, ?_⟩
      cases hil : isLst ku with
      | true =>
        refine iteT ?_
        obtain ⟨hv1, hit⟩ := hfu
        cases hv1 with
        | lst hb2 hl2 =>
          exact ⟨_, rfl, _, rfl, p, dx, d, r.1, nodeFs k2 d, _, _, rfl, rfl, s3 _ _ hp, rfl, s3 _ _ N.dk, valV_fkv hnd2 hnm hu, _, _, rfl, s3, hFd, s3 _ _ hb2, fun x hx => item_kv (hit _ rfl) hx, (kidsV_lst hb2).symm⟩
        | _ => cases hil
      | false =>
        refine iteF ?_
        refine ⟨_, rfl, _, rfl, p, dx, d, r.1, nodeFs k2 d, _, u, rfl, rfl, s3 _ _ hp, rfl, s3 _ _ N.dk, valV_fkv hnd2 hnm hu, by show 1 ≤ sizeLine; decide, fun b2 nb2 => ⟨b2, [u], rfl, s3.trans (same_new nb2), ?_, upd_same, fun x hx => ?_, ?_⟩⟩
        · obtain ⟨l, qs, e1, e2, e3, e4⟩ := hFd
          exact ⟨l, qs, e1, e2, same_new nb2 _ _ e3, e4⟩
        · rw [List.mem_singleton.mp hx]
          exact ⟨_, hfu.1⟩
        · rw [kidsV_one Sk hfu.1 hil]
          exact fm_one _ _
    · rintro σ H4 ⟨b2, xs, rfl, s4, hFd4, hb2, hxs, hxk⟩
      refine ⟨_, rfl, b2, rfl, ⟨_, SqL.of hb2⟩, ?_⟩
      refine for_list (K := K) (a := b2) (xs := xs) (fun j σ H5 => ∃ x2 x6, σ = [some (.ref t), some (.ref p), some x2, some (.str r.1), some (.str wd), some (.ref b2), x6] ∧ Same H H5 ∧ H5 b2 = some (.lst xs) ∧ Fd H5 x2 ((((vs.take i).flatMap (kidsV C H)).map wt).sum + (((xs.take j).filterMap (nodeOf C H)).map wt).sum))
        ⟨x2, x6, rfl, s4, hb2, hFd4⟩ (fun j σ H5 _ ⟨_, _, _, _, h, _⟩ => SqL.of h) ?_ ?_
      · rintro j x σ H5 hx ⟨y2, y6, rfl, s5, hb5, l, qs, rfl, nl, hl, hne, hqS, hql⟩
        obtain ⟨kx, hkx⟩ := hxs x (List.mem_of_getElem? hx)
        have hkx5 := hkx.up s5
        have eJ : (((xs.take (j + 1)).filterMap (nodeOf C H)).map wt).sum = (((xs.take j).filterMap (nodeOf C H)).map wt).sum + ((nodeOf C H x).toList.map wt).sum := by
          rw [List.take_succ, hx, List.filterMap_append, List.map_append, List.sum_append]
          show _ + ((List.filterMap (nodeOf C H) [x]).map wt).sum = _
          rw [fm_one]
        have eK : (((xs.take (j + 1)).filterMap (nodeOf C H)).map wt).sum ≤ ((kidsV C H u).map wt).sum := by
          rw [← hxk]
          have e : xs.filterMap (nodeOf C H) = (xs.take (j + 1)).filterMap (nodeOf C H) ++ (xs.drop (j + 1)).filterMap (nodeOf C H) := by rw [← List.filterMap_append, List.take_append_drop]
          rw [e, List.map_append, List.sum_append]
          exact Nat.le_add_right _ _
        refine ⟨_, rfl, _, rfl, x, .ref C, _, _, _, rfl, .own _, hkx5.ty Sk, kit_node Sk hkx5, _, rfl, ?_⟩
        cases hnx : isNode kx with
        | true =>
          refine iteT ?_
          obtain ⟨c, rfl, hc⟩ := nodeOf_yes hkx hnx
          rw [hc] at eJ
          have ew : ((some c).toList.map wt).sum = wt c := by simp
          rw [ew] at eJ
          have hcu : c ∈ kidsV C H u := by
            rw [← hxk]
            exact List.mem_filterMap.mpr ⟨_, List.mem_of_getElem? hx, hc⟩
          have hck := hku c hcu
          have hch := hkh c hck
          refine ⟨_, rfl, _, rfl, t, g, eD, sD, qD, tv, c, S, ht, wt, rfl, hT.up s5, N.kids c hck, by omega, by omega, fun p' hp' => (hS p' hp').up Sk s5, fun H6 l2 qs2 s6 nl2 h6 ne2 hS6 hl6 => ?_⟩
          refine ⟨l, l2, _, _, rfl, rfl, s6 _ _ hl, h6, by rw [List.length_map, List.length_map]; omega, fun p2 np2 => ⟨_, _, rfl, (s5.trans s6).trans (same_new np2), same_new np2 _ _ (s6 _ _ hb5), p2, qs ++ qs2, rfl, (s5.trans s6).free np2, by rw [upd_same, List.map_append], by simp [hne], fun q hq => ?_, ?_⟩⟩
          · rcases List.mem_append.mp hq with h | h
            · exact hqS q h
            · exact hS6 q h
          · rw [List.length_append, eJ]
            omega
        | false =>
          refine iteF ?_
          have hc := nodeOf_no Sk hkx hnx
          rw [hc] at eJ
          have ew : ((none : Option Addr).toList.map wt).sum = 0 := rfl
          rw [ew] at eJ
          refine ⟨Nat.zero_le _, fun l2 nl2 => ⟨l, l2, _, [], rfl, rfl, same_new nl2 _ _ hl, upd_same, by rw [List.length_map]; show qs.length + 0 ≤ _; omega, fun p2 np2 => ⟨_, _, rfl, (s5.trans (same_new nl2)).trans (same_new np2), same_new np2 _ _ (same_new nl2 _ _ hb5), p2, qs, rfl, (s5.trans (same_new nl2)).free np2, by rw [upd_same, List.append_nil], hne, hqS, by rw [eJ]; omega⟩⟩⟩
      · rintro σ H5 ⟨y2, y6, rfl, s5, hb5, hFd5⟩
        rw [List.take_length, hxk, ← eT] at hFd5
        exact ⟨_, _, _, _, _, rfl, s5, hFd5⟩
  · rintro σ H3 ⟨x2, x3, x4, x5, x6, rfl, s3, l, qs, rfl, nl, hl, hne, hqS, hql⟩
    have e7 : (as.map V.ref).length = vs.length := by rw [List.length_map]; omega
    rw [e7, List.take_length] at hql
    exact ⟨_, rfl, q H3 l qs s3 nl hl hne hqS (by omega)⟩
theorem nodes {f : Addr} {fd gd : FuncData} (F : Fun K "_law_nodes" "_law_nodes" sNds f fd) (bF : Binds K fd ["_law_table_here", "_law_node"] []) (mF : mg "_law_nodes" = some (.ref f)) (Z : Blt mg) (Sk : Kits K C Cs) (Nf : NodeF K C) (mC : mg "Node" = some (.ref C))
    (Nc : NodeC K C fG fS) (G : FnOk P w K mg base CX0 1 fG gd ["self", "at"] (spGet C)) (bG : Binds K gd ["self", "at"] []) : ∀ n : Nat, FnOk P w K mg base CX0 (n + 2) f fd ["_law_table_here", "_law_node"] (spNds n C Cs)
  | 0 => no_nds
  | n + 1 => ok_nds F bF mF Z Sk Nf mC Nc G bG (by omega) (nodes F bF mF Z Sk Nf mC Nc G bG n)
end
end K5

namespace K5
open PySem PySem.Spec PyProof.Rows L2 StX RZ TL
/-! ### worlds of nodes -/
/-- the part of H outside of B -/
noncomputable def res (B : Addr → Prop) (H : Hp) : Hp := fun b => open Classical in if B b then none else H b
theorem res_out {B : Addr → Prop} {H : Hp} : Same (res B H) H := fun b o h => by
  unfold res at h
  split at h
  · cases h
  · exact h
theorem res_at {B : Addr → Prop} {H : Hp} {b : Addr} {o : HO} (h : res B H b = some o) : ¬ B b ∧ H b = some o := by
  unfold res at h
  split at h
  · cases h
  · exact ⟨‹_›, h⟩
theorem res_in {B : Addr → Prop} {H : Hp} {b : Addr} {o : HO} (n : ¬ B b) (h : H b = some o) : res B H b = some o := by
  unfold res
  rw [if_neg n, h]
theorem res_up {B B' : Addr → Prop} {H H' : Hp} (h : ∀ b o, ¬ B b → H b = some o → ¬ B' b ∧ H' b = some o) : Same (res B H) (res B' H') := fun b o e => by
  obtain ⟨n, e⟩ := res_at e
  obtain ⟨n', e'⟩ := h b o n e
  exact res_in n' e'
def was (H : Hp) : Addr → Prop := fun b => H b ≠ none
theorem Kept.has {a c b : Addr} {H H1 : Hp} (k : Kept a c H H1) (ha : H1 a ≠ none) (hc : H1 c ≠ none) (h : was H b) : was H1 b := fun z => h (k.free ha hc z)
def InF (F : List (Addr × Addr)) : Addr → Prop := fun q => q ∈ F.map Prod.fst
theorem InF.app {F1 F2 : List (Addr × Addr)} {c : Addr} : InF (F1 ++ F2) c ↔ InF F1 c ∨ InF F2 c := by
  unfold InF
  rw [List.map_append, List.mem_append]
theorem InF.ex {F : List (Addr × Addr)} {c : Addr} (h : InF F c) : ∃ d, (c, d) ∈ F := by
  obtain ⟨x, hx, rfl⟩ := List.mem_map.mp h
  exact ⟨x.2, hx⟩
theorem InF.mem {F : List (Addr × Addr)} {x : Addr × Addr} (h : x ∈ F) : InF F x.1 := List.mem_map.mpr ⟨x, h, rfl⟩
theorem snd_inj : ∀ {F : List (Addr × Addr)}, (F.map Prod.snd).Nodup → ∀ x ∈ F, ∀ y ∈ F, x.2 = y.2 → x = y
  | [], _, x, h, _, _, _ => by cases h
  | z :: r, n, x, hx, y, hy, e => by
    have n2 := List.nodup_cons.mp n
    rcases List.mem_cons.mp hx with ex | hx'
    · rcases List.mem_cons.mp hy with ey | hy'
      · rw [ex, ey]
      · exact absurd (List.mem_map.mpr ⟨y, hy', by rw [← e, ex]⟩) n2.1
    · rcases List.mem_cons.mp hy with ey | hy'
      · exact absurd (List.mem_map.mpr ⟨x, hx', by rw [e, ey]⟩) n2.1
      · exact snd_inj n2.2 x hx' y hy' e
structure Fo (C : Addr) (Cs : Nat → Addr) (R : Hp) (F : List (Addr × Addr)) (ht wt : Addr → Nat) : Prop where
  nd : ∀ x ∈ F, Nd C Cs R (InF F) ht wt x.1
  at_ : ∀ x ∈ F, ∃ dx k, R x.1 = some (.ins C dx (nodeFs k x.2))
  dn : (F.map Prod.snd).Nodup
/-- a list is short -/
def LenV (R : Hp) (n : Nat) (v : V) : Prop := ∀ a xs, v = .ref a → R a = some (.lst xs) → xs.length ≤ n
theorem LenV.up {C : Addr} {Cs : Nat → Addr} {R R' : Hp} {n : Nat} {v : V} {kv : Kv} (h : LenV R n v) (k : KvAt C Cs R v kv) (s : Same R R') : LenV R' n v := fun a xs e h' => by
  subst e
  cases k with
  | lst hb _ =>
    have z := s _ _ hb
    rw [h'] at z
    cases z
    exact h a _ rfl hb
  | tup hb => have z := s _ _ hb; rw [h'] at z; cases z
  | node hb => have z := s _ _ hb; rw [h'] at z; cases z
  | val _ hb => have z := s _ _ hb; rw [h'] at z; cases z
theorem LenV.no {C : Addr} {Cs : Nat → Addr} {R : Hp} {n : Nat} {v : V} {kv : Kv} (k : KvAt C Cs R v kv) (hl : isLst kv = false) : LenV R n v := fun a xs e h' => by
  subst e
  cases k with
  | lst hb _ => cases hl
  | tup hb => rw [h'] at hb; cases hb
  | node hb => rw [h'] at hb; cases hb
  | val _ hb => rw [h'] at hb; cases hb
def Sh (C : Addr) (Cs : Nat → Addr) (R : Hp) (n : Nat) (F : List (Addr × Addr)) : Prop := ∀ x ∈ F, ∀ v ∈ valsP C Cs R x.1, LenV R n v
def Drn (C : Addr) (Cs : Nat → Addr) (R : Hp) (F : List (Addr × Addr)) (ht wt : Addr → Nat) : Prop := Fo C Cs R F ht wt ∧ (∀ x ∈ F, Tr C Cs R x.1) ∧ Sh C Cs R 10 F
section
variable {K : PySem.W.Frag} {C : Addr} {Cs : Nat → Addr} {R R' : Hp} {F F1 F2 : List (Addr × Addr)} {ht wt h1 w1 h2 w2 : Addr → Nat}
theorem Fo.nil : Fo C Cs R [] ht wt := ⟨fun x h => by (cases h), fun x h => by (cases h), List.nodup_nil⟩
theorem Drn.nil : Drn C Cs R [] ht wt := ⟨Fo.nil, fun x h => by (cases h), fun x h => by (cases h)⟩
theorem Fo.up (Sk : Kits K C Cs) (A : Fo C Cs R F ht wt) (s : Same R R') : Fo C Cs R' F ht wt := ⟨fun x hx => (A.nd x hx).up Sk s, fun x hx => let ⟨dx, k, h⟩ := A.at_ x hx; ⟨dx, k, s _ _ h⟩, A.dn⟩
theorem Fo.nds (A : Fo C Cs R F ht wt) (p : Addr) (h : InF F p) : Nd C Cs R (InF F) ht wt p := by
  obtain ⟨d, hd⟩ := h.ex
  exact A.nd _ hd
theorem Sh.up (Sk : Kits K C Cs) {n : Nat} (A : Fo C Cs R F ht wt) (h : Sh C Cs R n F) (s : Same R R') : Sh C Cs R' n F := fun x hx v hv => by
  obtain ⟨k, d, rs, vs, N, _⟩ := A.nd x hx
  have z := h x hx
  rw [N.vp] at z
  rw [(N.up Sk s).1.vp] at hv
  obtain ⟨kv, ks, f, _⟩ := N.vals v hv
  exact (z v hv).up f.1 s
theorem Drn.up (Sk : Kits K C Cs) (A : Drn C Cs R F ht wt) (s : Same R R') : Drn C Cs R' F ht wt :=
  ⟨A.1.up Sk s, fun x hx => (Tr.up Sk (fun p hp => (A.1.nds p hp).h) s (ht x.1 + 1) x.1 (Nat.lt_succ_self _) (InF.mem hx)).mpr (A.2.1 x hx), A.2.2.up Sk A.1 s⟩
theorem Nd.ext {S S' : Addr → Prop} {h h' w' wt' : Addr → Nat} {p : Addr} (N : Nd C Cs R S h w' p) (hp : S p) (hS : ∀ c, S c → S' c) (e : ∀ c, S c → h' c = h c ∧ wt' c = w' c) : Nd C Cs R S' h' wt' p := by
  obtain ⟨k, d, rs, vs, N, a, b⟩ := N
  refine ⟨k, d, rs, vs, ⟨N.at_, N.row, N.dk, N.len, N.vals, fun c hc => hS c (N.kids c hc)⟩, fun c hc => ?_, ?_⟩
  · rw [(e c (N.kids c hc)).1, (e p hp).1]
    exact a c hc
  · have : (vs.flatMap (kidsV C R)).map wt' = (vs.flatMap (kidsV C R)).map w' := List.map_congr_left fun c hc => (e c (N.kids c hc)).2
    rw [this, (e p hp).2]
    exact b
theorem Fo.get (A : Fo C Cs R F ht wt) {x : Addr × Addr} (hx : x ∈ F) : ∃ k rs vs, NodeOk C Cs R (InF F) x.1 k x.2 rs vs ∧ (∀ c ∈ vs.flatMap (kidsV C R), ht c < ht x.1) ∧ 1 + ((vs.flatMap (kidsV C R)).map wt).sum ≤ wt x.1 := by
  obtain ⟨k, d, rs, vs, N, a, b⟩ := A.nd x hx
  obtain ⟨dx, k', e⟩ := A.at_ x hx
  obtain ⟨dx', e'⟩ := N.at_
  rw [e] at e'
  have z : x.2 = d := by
    injection e' with e'
    injection e' with _ _ e'
    simp [nodeFs] at e'
    exact e'.2
  subst z
  exact ⟨k, rs, vs, N, a, b⟩
theorem Fo.scale (A : Fo C Cs R F ht wt) : Fo C Cs R F (fun c => ht c + 2) (fun c => 3 * wt c) := by
  refine ⟨fun x hx => ?_, A.at_, A.dn⟩
  obtain ⟨k, d, rs, vs, N, a, b⟩ := A.nd x hx
  refine ⟨k, d, rs, vs, N, fun c hc => by have := a c hc; show ht c + 2 < ht x.1 + 2; omega, ?_⟩
  have e : ∀ l : List Addr, (l.map fun c => 3 * wt c).sum = 3 * (l.map wt).sum := fun l => by
    induction l with
    | nil => rfl
    | cons y r ih => simp only [List.map_cons, List.sum_cons, ih]; omega
  rw [e]
  show _ ≤ 3 * wt x.1
  omega
theorem Fo.add (A : Fo C Cs R F1 h1 w1) (B : Fo C Cs R F2 h2 w2) (dj : ∀ x ∈ F1, ∀ y ∈ F2, x.1 ≠ y.1 ∧ x.2 ≠ y.2) :
    ∃ ht wt, Fo C Cs R (F1 ++ F2) ht wt ∧ (∀ c, InF F1 c → ht c = h1 c ∧ wt c = w1 c) ∧ ∀ c, InF F2 c → ht c = h2 c ∧ wt c = w2 c := by
  open Classical in
  refine ⟨fun c => if InF F1 c then h1 c else h2 c, fun c => if InF F1 c then w1 c else w2 c, ?_⟩
  have e1 : ∀ c, InF F1 c → (if InF F1 c then h1 c else h2 c) = h1 c ∧ (if InF F1 c then w1 c else w2 c) = w1 c := fun c h => ⟨if_pos h, if_pos h⟩
  have e2 : ∀ c, InF F2 c → (if InF F1 c then h1 c else h2 c) = h2 c ∧ (if InF F1 c then w1 c else w2 c) = w2 c := fun c h => by
    have n : ¬ InF F1 c := fun z => by
      obtain ⟨d, hd⟩ := z.ex
      obtain ⟨d', hd'⟩ := h.ex
      exact (dj _ hd _ hd').1 rfl
    exact ⟨if_neg n, if_neg n⟩
  refine ⟨⟨fun x hx => ?_, fun x hx => ?_, ?_⟩, e1, e2⟩
  · rcases List.mem_append.mp hx with hx | hx
    · exact (A.nd x hx).ext (InF.mem hx) (fun c h => InF.app.mpr (.inl h)) e1
    · exact (B.nd x hx).ext (InF.mem hx) (fun c h => InF.app.mpr (.inr h)) e2
  · rcases List.mem_append.mp hx with hx | hx
    · exact A.at_ x hx
    · exact B.at_ x hx
  · rw [List.map_append, List.nodup_append]
    refine ⟨A.dn, B.dn, fun x hx y hy e => ?_⟩
    obtain ⟨u, hu, rfl⟩ := List.mem_map.mp hx
    obtain ⟨v, hv, rfl⟩ := List.mem_map.mp hy
    exact (dj u hu v hv).2 e
theorem KvAt.off {v : V} {kv : Kv} {d : Addr} {kvs : List (Key × V)} (h : KvAt C Cs R v kv) (hd : R d = some (.dK kvs)) : KvAt C Cs (res (fun b => b = d) R) v kv := by
  have st : ∀ (b : Addr) (o : HO), R b = some o → (∀ z, o ≠ HO.dK z) → res (fun b => b = d) R b = some o := fun b o e n => res_in (fun z => by
    rw [z, hd] at e
    exact n _ (Option.some.inj e).symm) e
  cases h with
  | non => exact .non
  | bl b => exact .bl b
  | int i => exact .int i
  | str x hx => exact .str x hx
  | lst h hl => exact .lst (st _ _ h fun z e => by cases e) hl
  | tup h => exact .tup (st _ _ h fun z e => by cases e)
  | node h => exact .node (st _ _ h fun z e => by cases e)
  | val hj h => exact .val hj (st _ _ h fun z e => by cases e)
theorem FvAt.off {v : V} {kv : Kv} {ks : List Kv} {d : Addr} {kvs : List (Key × V)} (h : FvAt C Cs R v kv ks) (hd : R d = Option.some (.dK kvs)) : FvAt C Cs (res (fun b => b = d) R) v kv ks :=
  ⟨h.1.off hd, fun xs e => ⟨(h.2 xs e).1, fun i x k g1 g2 => ((h.2 xs e).2 i x k g1 g2).off hd⟩⟩
theorem NodeOk.off (Sk : Kits K C Cs) {S : Addr → Prop} {p d d' : Addr} {k : Str} {rs : List (Str × Str × Str)} {vs : List V} {kvs : List (Key × V)} (N : NodeOk C Cs R S p k d rs vs) (hd : R d' = some (.dK kvs)) (n : d ≠ d') :
    NodeOk C Cs (res (fun b => b = d') R) S p k d rs vs ∧ vs.flatMap (kidsV C (res (fun b => b = d') R)) = vs.flatMap (kidsV C R) := by
  have e : vs.flatMap (kidsV C (res (fun b => b = d') R)) = vs.flatMap (kidsV C R) := flat_same fun v hv => by
    obtain ⟨kv, ks, f, _⟩ := N.vals v hv
    exact (kidsV_up Sk (f.off hd) res_out).symm
  obtain ⟨dx, h⟩ := N.at_
  refine ⟨⟨⟨dx, res_in (fun z => ?_) h⟩, N.row, res_in n N.dk, N.len, fun v hv => let ⟨kv, ks, f, nl⟩ := N.vals v hv; ⟨kv, ks, f.off hd, nl⟩, by rw [e]; exact N.kids⟩, e⟩
  rw [z, hd] at h
  cases h
/-- another value in a field -/
theorem Fo.put (Sk : Kits K C Cs) (A : Fo C Cs R F ht wt) {x : Addr × Addr} (hx : x ∈ F) {S : Addr → Prop} {k : Str} {rs : List (Str × Str × Str)} {vs vs' : List V} (N : NodeOk C Cs R S x.1 k x.2 rs vs) (hl : vs'.length = vs.length)
    (hv : ∀ v ∈ vs', ∃ kv ks, FvAt C Cs R v kv ks ∧ ∀ k ∈ ks, isLst kv = true → isLst k = false) (hk : ∀ c ∈ vs'.flatMap (kidsV C R), InF F c ∧ ht c < ht x.1) (hw : 1 + ((vs'.flatMap (kidsV C R)).map wt).sum ≤ wt x.1)
    (ho : ∀ b o, b ≠ x.2 → R b = some o → R' b = some o) (hd : R' x.2 = some (.dK (fkv (namesOf rs) vs'))) :
    Fo C Cs R' F ht wt ∧ NodeOk C Cs R' (InF F) x.1 k x.2 rs vs' ∧ vs'.flatMap (kidsV C R') = vs'.flatMap (kidsV C R) := by
  have s : Same (res (fun b => b = x.2) R) R' := fun b o e => by
    obtain ⟨n, e⟩ := res_at e
    exact ho b o n e
  have ne : ∀ b dx fs, R b = some (.ins C dx fs) → b ≠ x.2 := fun b dx fs e z => by
    rw [z, N.dk] at e
    cases e
  have ef : vs'.flatMap (kidsV C R') = vs'.flatMap (kidsV C R) := flat_same fun v h => by
    obtain ⟨kv, ks, f, _⟩ := hv v h
    rw [kidsV_up Sk (f.off N.dk) s, kidsV_up Sk (f.off N.dk) res_out]
  have NN : NodeOk C Cs R' (InF F) x.1 k x.2 rs vs' := by
    obtain ⟨dx, h⟩ := N.at_
    exact ⟨⟨dx, ho _ _ (ne _ _ _ h) h⟩, N.row, hd, by rw [hl]; exact N.len, fun v h => let ⟨kv, ks, f, nl⟩ := hv v h; ⟨kv, ks, (f.off N.dk).up s, nl⟩, fun c hc => by rw [ef] at hc; exact (hk c hc).1⟩
  refine ⟨⟨fun y hy => ?_, fun y hy => ?_, A.dn⟩, NN, ef⟩
  · by_cases e : y = x
    · subst e
      exact ⟨k, y.2, rs, vs', NN, fun c hc => by rw [ef] at hc; exact (hk c hc).2, by rw [ef]; exact hw⟩
    · have n : y.2 ≠ x.2 := fun z => e (snd_inj A.dn y hy x hx z)
      obtain ⟨k2, rs2, vs2, N2, a, b⟩ := A.get hy
      obtain ⟨N3, e3⟩ := N2.off Sk N.dk n
      obtain ⟨N4, e4⟩ := N3.up Sk s
      exact ⟨k2, y.2, rs2, vs2, N4, by rw [e4, e3]; exact a, by rw [e4, e3]; exact b⟩
  · obtain ⟨dx, k2, e⟩ := A.at_ y hy
    exact ⟨dx, k2, ho _ _ (ne _ _ _ e) e⟩
/-- a node above a world -/
theorem Drn.top (Sk : Kits K C Cs) (A : Drn C Cs R F h1 w1) {p d dx : Addr} {k : Str} {rs : List (Str × Str × Str)} {vs : List V} (h : Nat) (hp : R p = some (.ins C dx (nodeFs k d))) (row : Fld.lookup k = some rs) (hd : R d = some (.dK (fkv (namesOf rs) vs))) (hl : vs.length = rs.length)
    (hv : ∀ v ∈ vs, ∃ kv ks, FvAt C Cs R v kv ks ∧ ∀ k ∈ ks, isLst kv = true → isLst k = false) (hk : ∀ c ∈ vs.flatMap (kidsV C R), InF F c ∧ h1 c < h) (np : ¬ InF F p) (nd : ∀ x ∈ F, x.2 ≠ d)
    (hf : ∀ (i : Nat) v r, vs[i]? = some v → rs[i]? = some r → fitF C Cs R r.2.1 r.2.2 v = true) (hsh : ∀ v ∈ vs, LenV R 10 v) :
    ∃ ht wt, Drn C Cs R ((p, d) :: F) ht wt ∧ ht p = h ∧ wt p = 1 + ((vs.flatMap (kidsV C R)).map w1).sum := by
  open Classical in
  refine ⟨fun c => if c = p then h else h1 c, fun c => if c = p then 1 + ((vs.flatMap (kidsV C R)).map w1).sum else w1 c, ?_, if_pos rfl, if_pos rfl⟩
  have e1 : ∀ c, InF F c → (if c = p then h else h1 c) = h1 c ∧ (if c = p then 1 + ((vs.flatMap (kidsV C R)).map w1).sum else w1 c) = w1 c := fun c hc => by
    have n : c ≠ p := fun z => np (z ▸ hc)
    exact ⟨if_neg n, if_neg n⟩
  have up : ∀ c, InF F c → InF ((p, d) :: F) c := fun c hc => List.mem_cons_of_mem _ hc
  have N : NodeOk C Cs R (InF ((p, d) :: F)) p k d rs vs := ⟨⟨dx, hp⟩, row, hd, hl, hv, fun c hc => up c (hk c hc).1⟩
  refine ⟨⟨fun x hx => ?_, fun x hx => ?_, ?_⟩, fun x hx => ?_, fun x hx v hv => ?_⟩
  · rcases List.mem_cons.mp hx with rfl | hx
    · refine ⟨k, d, rs, vs, N, fun c hc => ?_, ?_⟩
      · show (if c = p then h else h1 c) < (if p = p then h else h1 p)
        rw [(e1 c (hk c hc).1).1, if_pos rfl]
        exact (hk c hc).2
      · have : (vs.flatMap (kidsV C R)).map (fun c => if c = p then 1 + ((vs.flatMap (kidsV C R)).map w1).sum else w1 c) = (vs.flatMap (kidsV C R)).map w1 := List.map_congr_left fun c hc => (e1 c (hk c hc).1).2
        rw [this]
        show _ ≤ (if p = p then _ else _)
        rw [if_pos rfl]
        exact Nat.le_refl _
    · exact (A.1.nd x hx).ext (InF.mem hx) up e1
  · rcases List.mem_cons.mp hx with rfl | hx
    · exact ⟨dx, k, hp⟩
    · exact A.1.at_ x hx
  · refine List.nodup_cons.mpr ⟨fun z => ?_, A.1.dn⟩
    obtain ⟨x, hx, e⟩ := List.mem_map.mp z
    exact nd x hx e
  · rcases List.mem_cons.mp hx with rfl | hx
    · refine Tr.iff.mpr ⟨?_, fun c hc => ?_⟩
      · unfold locOk
        rw [N.vp, N.rp]
        exact hf
      · rw [N.kp] at hc
        obtain ⟨d', hd'⟩ := (hk c hc).1.ex
        exact A.2.1 _ hd'
    · exact A.2.1 x hx
  · rcases List.mem_cons.mp hx with rfl | hx
    · rw [N.vp] at hv
      exact hsh v hv
    · exact A.2.2 x hx v hv
theorem Drn.add (A : Drn C Cs R F1 h1 w1) (B : Drn C Cs R F2 h2 w2) (dj : ∀ x ∈ F1, ∀ y ∈ F2, x.1 ≠ y.1 ∧ x.2 ≠ y.2) :
    ∃ ht wt, Drn C Cs R (F1 ++ F2) ht wt ∧ (∀ c, InF F1 c → ht c = h1 c ∧ wt c = w1 c) ∧ ∀ c, InF F2 c → ht c = h2 c ∧ wt c = w2 c := by
  obtain ⟨ht, wt, X, e1, e2⟩ := A.1.add B.1 dj
  refine ⟨ht, wt, ⟨X, fun x hx => ?_, fun x hx => ?_⟩, e1, e2⟩
  · rcases List.mem_append.mp hx with hx | hx
    · exact A.2.1 x hx
    · exact B.2.1 x hx
  · rcases List.mem_append.mp hx with hx | hx
    · exact A.2.2 x hx
    · exact B.2.2 x hx
/-- worlds of different times have nothing in common -/
theorem Fo.apart {B : Addr → Prop} {H1 H2 : Hp} (A : Fo C Cs (res B H1) F1 h1 w1) (D : Fo C Cs (res (was H1) H2) F2 h2 w2) : ∀ x ∈ F1, ∀ y ∈ F2, x.1 ≠ y.1 ∧ x.2 ≠ y.2 := fun x hx y hy => by
  obtain ⟨dx, k, e⟩ := A.at_ x hx
  obtain ⟨k1, rs1, vs1, N1, _⟩ := A.get hx
  obtain ⟨dy, k', e'⟩ := D.at_ y hy
  obtain ⟨k2, rs2, vs2, N2, _⟩ := D.get hy
  refine ⟨fun z => (res_at e').1 ?_, fun z => (res_at N2.dk).1 ?_⟩
  · rw [← z]; unfold was; rw [(res_at e).2]; simp
  · rw [← z]; unfold was; rw [(res_at N1.dk).2]; simp
end
end K5

namespace K5
open PySem PySem.Spec PyProof.Rows L2 StX RZ TL
/-! ### objects of values; sorted of any number of texts -/
abbrev sEq0 : Stmt := inClass (topS 8) 0
abbrev sIn1 : Stmt := inClass (topS 9) 0
abbrev sEq1 : Stmt := inClass (topS 9) 1
abbrev sIn2 : Stmt := inClass (topS 10) 0
abbrev sEq2 : Stmt := inClass (topS 10) 1
abbrev sIn3 : Stmt := inClass (topS 11) 0
abbrev sEq3 : Stmt := inClass (topS 11) 1
theorem scEq0 : FnScope ["self", "other"] ["self", "other"] (defScope sEq0) := ⟨rfl, rfl, rfl, by decide +kernel, rfl, by decide +kernel, by decide +kernel⟩
theorem scEq1 : FnScope ["self", "other"] ["self", "other"] (defScope sEq1) := ⟨rfl, rfl, rfl, by decide +kernel, rfl, by decide +kernel, by decide +kernel⟩
theorem scEq2 : FnScope ["self", "other"] ["self", "other"] (defScope sEq2) := ⟨rfl, rfl, rfl, by decide +kernel, rfl, by decide +kernel, by decide +kernel⟩
theorem scEq3 : FnScope ["self", "other"] ["self", "other"] (defScope sEq3) := ⟨rfl, rfl, rfl, by decide +kernel, rfl, by decide +kernel, by decide +kernel⟩
theorem scIn1 : FnScope ["self", "mantissa", "exponent"] ["self", "mantissa", "exponent"] (defScope sIn1) := ⟨rfl, rfl, rfl, by decide +kernel, rfl, by decide +kernel, by decide +kernel⟩
theorem scIn2 : FnScope ["self", "number"] ["self", "number"] (defScope sIn2) := ⟨rfl, rfl, rfl, by decide +kernel, rfl, by decide +kernel, by decide +kernel⟩
theorem scIn3 : FnScope ["self", "numbers"] ["self", "numbers"] (defScope sIn3) := ⟨rfl, rfl, rfl, by decide +kernel, rfl, by decide +kernel, by decide +kernel⟩
theorem pe_never {X : Cx} {e : Expr} : PE X e (fun _ _ _ => False) := ⟨fun pins s σ H Q I h => h.elim⟩
/-- C(), no __init__ of its own -/
def tMakeE (C : Addr) : TE := fun _ H Q => ∀ x dx, H x = none → H dx = none → dx ≠ x → Q (.ref x) (upd (upd H dx (.own x)) x (.ins C dx []))
theorem pe_makeE {X : Cx} {C : Addr} {x : Str} {p pos : Pos} (hmk : PySem.W.makesIn X.K C = true) (hi : PySem.W.findIn X.K (.ref C) "__init__" = some (some (.builtin "object.__init__"))) (hob : PySem.W.mroIn X.K C (.type "object") = some true) (kC : PySem.W.keepIn X.K (.ref C) = true)
    (hg : Gl X x) (hm : X.mg x = some (.ref C)) (hdb : (x == ("__debug__" : Str)) = false := by decide) : PE X (.Call (.Name x p) [] [] pos) (tMakeE C) := by
  refine ⟨fun pins s σ H Q I h => wpAny_Call_Name_kw (ld_glob I hg hm ?_ hdb)⟩
  refine PySem.W.callWith_K0 I.kIn kC ?_
  show wpAny _ _ (call (.ref C) []) _ _ _
  have hq := h (s.heap.objs.size + 1) s.heap.objs.size (I.hok.fresh (Nat.le_succ _)) (I.hok.fresh (Nat.le_refl _)) (Nat.ne_of_lt (Nat.lt_succ_self _))
  have I2 := Inv.made (C := C) I
  refine wpAny_call (make_map0 I.kIn hmk hi (fun self => PySem.W.Looks.of_pure (PySem.W.oi_bind self)) ?_)
  have at1 : ((s.heap.push PySem.W.emptyDict).push (PySem.W.instObj C s.heap.objs.size)).get? (s.heap.objs.size + 1) = some (PySem.W.instObj C s.heap.objs.size) := by heap_get
  have t1 : PySem.W.Looks (model X.prog X.w) ((s.heap.push PySem.W.emptyDict).push (PySem.W.instObj C s.heap.objs.size)) (typeOf (.ref (s.heap.objs.size + 1))) (.ref C) := (PySem.W.Looks.ld at1).andThen .now
  have t2 : PySem.W.Looks (model X.prog X.w) ((s.heap.push PySem.W.emptyDict).push (PySem.W.instObj C s.heap.objs.size)) (isInstance (.ref (s.heap.objs.size + 1)) (.type "object")) true := t1.andThen (PySem.W.looks_mroIn I2.kIn hob)
  refine codeAny_call_builtin PySem.W.oi_plain PySem.W.entry_oi (@PySem.W.check_slot (model X.prog X.w) _ _ _ "object.__init__" "object" "__init__" (.ref (s.heap.objs.size + 1)) [] [] _ PySem.W.oi_kind PySem.W.oi_split t2 (PySem.W.oi_args _) ?_)
  rw [PySem.W.oi_run]
  exact wpAny_pure ⟨rfl, ⟨V.ref (s.heap.objs.size + 1), _, I2, rfl, hq⟩⟩
def namesV : Nat → List Str
  | 1 => ["mantissa", "exponent"] | 2 => ["number"] | 3 => ["numbers"] | _ => []
/-- __init__ of the k-th class -/
def spIniW (C : Addr) (n : Nat) : Sp := fun vs H Q _ => ∃ (p dx : Addr) (xs : List V), vs = .ref p :: xs ∧ xs.length = n ∧ H p = some (.ins C dx []) ∧ ∀ H' fs, H' p = some (.ins C dx fs) → (∀ b, b ≠ p → H' b = H b) → Q .non H'
def rSortSA (K : PySem.W.Frag) : List V → Hp → VK → Prop := fun vs H Q => ∃ (a : Addr) (xs : List Str), vs = [V.ref a] ∧ SqL K H a (xs.map V.str) ∧
  ∀ (ys : List Str) (p : Addr), ys.Perm xs → H p = none → Q (.ref p) (upd H p (.lst (ys.map V.str)))
theorem cr_sortSA {X : Cx} : CallR X (.builtin "sorted") (rSortSA X.K) := by
  intro pins s σ H vs us Q I r h
  obtain ⟨a, xs, rfl, hs, q⟩ := h
  obtain ⟨its, rv, hl, hz⟩ := I.list hs
  rw [Vals.ref1 r]
  have hlen0 := rv.length
  refine PyProof.Rows.sorted_strsAny hl.isList rv.strs (by rw [← hlen0]; exact hz) fun out ys h1 h2 h3 => ?_
  obtain ⟨ep, he'⟩ := PyProof.Rows.sortedAll_at s.heap its out
  have hlen : (ys.map V.str).length ≤ sizeLine := by rw [List.length_map, h2.length_eq, ← List.length_map (f := V.str)]; exact hz
  exact ⟨.ref _, upd H (s.heap.objs.size + 1) (.lst (ys.map V.str)), I.laid (t' := s.toks) (fun _ _ => PyProof.Rows.sortedAll_old) (Nat.le_succ _) ⟨hlen, out.toList, ep, vals_of_strs h1, he'⟩, rfl, q ys _ h2 (I.hok.fresh (Nat.le_succ _))⟩
section
variable {P : Program} {w : World} {K : PySem.W.Frag} {mg : Str → Option Value} {base : Heap} {C : Addr} {Cs : Nat → Addr}
theorem ok_in1 {f : Addr} {fd : FuncData} (F : Fun K "__init__" "Float.__init__" sIn1 f fd) (c : Cls K (Cs 1)) (n1 : NoAttr K (Cs 1) "mantissa") (n2 : NoAttr K (Cs 1) "exponent") : FnOk P w K mg base CX0 1 f fd ["self", "mantissa", "exponent"] (spIniW (Cs 1) 2) := by
  refine F.ok scIn1 (fun vs H Q E h => ?_) (fun cdv A outer s H vs Q E hr h => ?_)
  · obtain ⟨p, dx, xs, rfl, hl, _⟩ := h
    show xs.length + 1 = 3
    rw [hl]
  obtain ⟨p, dx, xs, rfl, hl, hp, q⟩ := h
  obtain ⟨x0, x1, rfl⟩ : ∃ a b, xs = [a, b] := match xs, hl with | [a, b], _ => ⟨a, b, rfl⟩
  refine ⟨_, pss_cons (ps_fld (pv 0) (pv 1) rfl) (pss_one (ps_fld (pv 0) (pv 2) rfl)), ?_⟩
  refine ⟨_, rfl, _, rfl, p, Cs 1, dx, _, rfl, hp, c, n1, by show 0 < 1000; decide, ?_⟩
  refine ⟨_, rfl, _, rfl, p, Cs 1, dx, _, rfl, upd_same, c, n2, by show 1 < 1000; decide, ?_⟩
  exact q _ _ upd_same fun b h => by rw [upd_ne h, upd_ne h]
theorem ok_in2 {f : Addr} {fd : FuncData} (F : Fun K "__init__" "Imaginary.__init__" sIn2 f fd) (c : Cls K (Cs 2)) (n1 : NoAttr K (Cs 2) "number") : FnOk P w K mg base CX0 1 f fd ["self", "number"] (spIniW (Cs 2) 1) := by
  refine F.ok scIn2 (fun vs H Q E h => ?_) (fun cdv A outer s H vs Q E hr h => ?_)
  · obtain ⟨p, dx, xs, rfl, hl, _⟩ := h
    show xs.length + 1 = 2
    rw [hl]
  obtain ⟨p, dx, xs, rfl, hl, hp, q⟩ := h
  obtain ⟨x0, rfl⟩ : ∃ a, xs = [a] := match xs, hl with | [a], _ => ⟨a, rfl⟩
  refine ⟨_, pss_one (ps_fld (pv 0) (pv 1) rfl), ?_⟩
  refine ⟨_, rfl, _, rfl, p, Cs 2, dx, _, rfl, hp, c, n1, by show 0 < 1000; decide, ?_⟩
  exact q _ _ upd_same fun b h => by rw [upd_ne h]
theorem ok_in3 {f : Addr} {fd : FuncData} (F : Fun K "__init__" "Octets.__init__" sIn3 f fd) (c : Cls K (Cs 3)) (n1 : NoAttr K (Cs 3) "numbers") : FnOk P w K mg base CX0 1 f fd ["self", "numbers"] (spIniW (Cs 3) 1) := by
  refine F.ok scIn3 (fun vs H Q E h => ?_) (fun cdv A outer s H vs Q E hr h => ?_)
  · obtain ⟨p, dx, xs, rfl, hl, _⟩ := h
    show xs.length + 1 = 2
    rw [hl]
  obtain ⟨p, dx, xs, rfl, hl, hp, q⟩ := h
  obtain ⟨x0, rfl⟩ : ∃ a, xs = [a] := match xs, hl with | [a], _ => ⟨a, rfl⟩
  refine ⟨_, pss_one (ps_fld (pv 0) (pv 1) rfl), ?_⟩
  refine ⟨_, rfl, _, rfl, p, Cs 3, dx, _, rfl, hp, c, n1, by show 0 < 1000; decide, ?_⟩
  exact q _ _ upd_same fun b h => by rw [upd_ne h]
theorem str_kit (S : Kits K C Cs) {j : Nat} (hj : j < 4) : PySem.W.kitOne K (.type "str") (.ref (Cs j)) = some false := by
  have m : (Value.ref (Cs j)) ∈ clss C Cs := by
    rcases j with _ | _ | _ | _ | j
    · simp [clss]
    · simp [clss]
    · simp [clss]
    · simp [clss]
    · omega
  have z := beq_iff_eq.mp (List.all_eq_true.mp (List.all_eq_true.mp S.tab (.type "str") (by simp [tys])) _ m)
  rw [z]
  rfl
theorem ok_eq0 {f : Addr} {fd : FuncData} (F : Fun K "__eq__" "Dots.__eq__" sEq0 f fd) (S : Kits K C Cs) (Z : Blt mg) (m : mg "Dots" = some (.ref (Cs 0))) : FnOk P w K mg base CX0 1 f fd ["self", "other"] (spEqS (Cs 0)) := by
  refine F.ok scEq0 (fun vs H Q E h => ?_) (fun cdv A outer s H vs Q E hr h => ?_)
  · obtain ⟨a, dx, fs, z, rfl, _⟩ := h
    rfl
  obtain ⟨a, dx, fs, z, rfl, ha, q⟩ := h
  refine ⟨_, pss_one (ps_ret (pe_callB call_isi (by rfl) Z.isI (by decide +kernel) (pa_cons (pv 1) (pa_cons (pe_glob (v := .ref (Cs 0)) rfl m rfl) pa_nil)))), ?_⟩
  exact ⟨_, rfl, .str z, .ref (Cs 0), _, _, _, rfl, .own _, .base (.str z), str_kit S (by decide), q⟩
theorem ok_eq1 {f : Addr} {fd : FuncData} (F : Fun K "__eq__" "Float.__eq__" sEq1 f fd) (S : Kits K C Cs) (Z : Blt mg) (m : mg "Float" = some (.ref (Cs 1))) : FnOk P w K mg base CX0 1 f fd ["self", "other"] (spEqS (Cs 1)) := by
  refine F.ok scEq1 (fun vs H Q E h => ?_) (fun cdv A outer s H vs Q E hr h => ?_)
  · obtain ⟨a, dx, fs, z, rfl, _⟩ := h
    rfl
  obtain ⟨a, dx, fs, z, rfl, ha, q⟩ := h
  refine ⟨_, pss_one (ps_ret (pe_and (pe_callB call_isi (by rfl) Z.isI (by decide +kernel) (pa_cons (pv 1) (pa_cons (pe_glob (v := .ref (Cs 1)) rfl m rfl) pa_nil))) pe_never)), ?_⟩
  exact ⟨_, rfl, .str z, .ref (Cs 1), _, _, _, rfl, .own _, .base (.str z), str_kit S (by decide), _, rfl, iteF q⟩
theorem ok_eq2 {f : Addr} {fd : FuncData} (F : Fun K "__eq__" "Imaginary.__eq__" sEq2 f fd) (S : Kits K C Cs) (Z : Blt mg) (m : mg "Imaginary" = some (.ref (Cs 2))) : FnOk P w K mg base CX0 1 f fd ["self", "other"] (spEqS (Cs 2)) := by
  refine F.ok scEq2 (fun vs H Q E h => ?_) (fun cdv A outer s H vs Q E hr h => ?_)
  · obtain ⟨a, dx, fs, z, rfl, _⟩ := h
    rfl
  obtain ⟨a, dx, fs, z, rfl, ha, q⟩ := h
  refine ⟨_, pss_one (ps_ret (pe_and (pe_callB call_isi (by rfl) Z.isI (by decide +kernel) (pa_cons (pv 1) (pa_cons (pe_glob (v := .ref (Cs 2)) rfl m rfl) pa_nil))) pe_never)), ?_⟩
  exact ⟨_, rfl, .str z, .ref (Cs 2), _, _, _, rfl, .own _, .base (.str z), str_kit S (by decide), _, rfl, iteF q⟩
theorem ok_eq3 {f : Addr} {fd : FuncData} (F : Fun K "__eq__" "Octets.__eq__" sEq3 f fd) (S : Kits K C Cs) (Z : Blt mg) (m : mg "Octets" = some (.ref (Cs 3))) : FnOk P w K mg base CX0 1 f fd ["self", "other"] (spEqS (Cs 3)) := by
  refine F.ok scEq3 (fun vs H Q E h => ?_) (fun cdv A outer s H vs Q E hr h => ?_)
  · obtain ⟨a, dx, fs, z, rfl, _⟩ := h
    rfl
  obtain ⟨a, dx, fs, z, rfl, ha, q⟩ := h
  refine ⟨_, pss_one (ps_ret (pe_and (pe_callB call_isi (by rfl) Z.isI (by decide +kernel) (pa_cons (pv 1) (pa_cons (pe_glob (v := .ref (Cs 3)) rfl m rfl) pa_nil))) pe_never)), ?_⟩
  exact ⟨_, rfl, .str z, .ref (Cs 3), _, _, _, rfl, .own _, .base (.str z), str_kit S (by decide), _, rfl, iteF q⟩
/-- the makers of the four classes -/
structure Mks (P : Program) (w : World) (K : PySem.W.Frag) (mg : Str → Option Value) (base : Heap) (Cs fI : Nat → Addr) (fdI : Nat → FuncData) : Prop where
  g0 : mg "Dots" = some (.ref (Cs 0))
  g1 : mg "Float" = some (.ref (Cs 1))
  g2 : mg "Imaginary" = some (.ref (Cs 2))
  g3 : mg "Octets" = some (.ref (Cs 3))
  mk0 : PySem.W.makesIn K (Cs 0) = true
  i0 : PySem.W.findIn K (.ref (Cs 0)) "__init__" = some (some (.builtin "object.__init__"))
  o0 : PySem.W.mroIn K (Cs 0) (.type "object") = some true
  k0 : PySem.W.keepIn K (.ref (Cs 0)) = true
  mk1 : Mk K (Cs 1) (fI 1)
  mk2 : Mk K (Cs 2) (fI 2)
  mk3 : Mk K (Cs 3) (fI 3)
  f1 : FnOk P w K mg base CX0 1 (fI 1) (fdI 1) ["self", "mantissa", "exponent"] (spIniW (Cs 1) 2)
  f2 : FnOk P w K mg base CX0 1 (fI 2) (fdI 2) ["self", "number"] (spIniW (Cs 2) 1)
  f3 : FnOk P w K mg base CX0 1 (fI 3) (fdI 3) ["self", "numbers"] (spIniW (Cs 3) 1)
  b1 : Binds K (fdI 1) ["self", "mantissa", "exponent"] []
  b2 : Binds K (fdI 2) ["self", "number"] []
  b3 : Binds K (fdI 3) ["self", "numbers"] []
end
end K5

namespace K5
open PySem PySem.Spec PyProof.Rows L2 StX RZ TL
/-! ### a drawn constant -/
abbrev sCon : Stmt := topS 42
theorem scCon : FnScope ["_law_stream", "_law_way"] ["_law_stream"] (defScope sCon) := ⟨rfl, rfl, rfl, by decide +kernel, rfl, by decide +kernel, by decide +kernel⟩
/-- what is a plain value here -/
def Pln (C : Addr) (Cs : Nat → Addr) (R : Hp) (r : Str) (v : V) : Prop := ∃ kv, KvAt C Cs R v kv ∧ fit1 r kv = true ∧ isLst kv = false ∧ isNode kv = false
def spCon (C : Addr) (Cs : Nat → Addr) : Sp := fun vs H Q _ => ∃ (a c : Addr) (S : Stm), vs = [.ref a] ∧ StmAt H a c S ∧ S.cnt < 1000000 ∧
  ∀ (H' : Hp) (S' : Stm) (v : V), StmAt H' a c S' → S'.cnt ≤ S.cnt + 1 → Kept a c H H' → Pln C Cs (res (was H) H') "VALUE" v → Q v H'
section
variable {C : Addr} {Cs : Nat → Addr} {H1 : Hp} {Q : VK} {E : XK}
theorem mk_same {C' x dx : Addr} {H1 H2 : Hp} {o : HO} (nx : H1 x = none) (nd : H1 dx = none) (ho : ∀ b, b ≠ x → H2 b = (upd (upd H1 dx (.own x)) x o) b) : Same H1 H2 := fun b u e => by
  have n1 : b ≠ x := ne_of_none e nx
  have n2 : b ≠ dx := ne_of_none e nd
  rw [ho b n1, upd_ne n1, upd_ne n2, e]
theorem mk_read {C' : Addr} {n : Nat} {xs : List V} (hl : xs.length = n) (h : ∀ H2 x, H1 x = none → Same H1 H2 → (∃ dx fs, H2 x = some (.ins C' dx fs)) → Q (.ref x) H2) :
    ∀ x dx, H1 x = none → H1 dx = none → dx ≠ x → spIniW C' n (.ref x :: xs) (upd (upd H1 dx (.own x)) x (.ins C' dx [])) (fun v H2 => v = .non ∧ Q (.ref x) H2) E := fun x dx nx nd ne =>
  ⟨x, dx, xs, rfl, hl, upd_same, fun H2 fs hx ho => ⟨rfl, h H2 x nx (mk_same (C' := C') nx nd ho) ⟨dx, fs, hx⟩⟩⟩
theorem mk_read0 {C' : Addr} (h : ∀ H2 x, H1 x = none → Same H1 H2 → (∃ dx fs, H2 x = some (.ins C' dx fs)) → Q (.ref x) H2) :
    ∀ x dx, H1 x = none → H1 dx = none → dx ≠ x → Q (.ref x) (upd (upd H1 dx (.own x)) x (.ins C' dx [])) := fun x dx nx nd ne =>
  h _ x nx (mk_same (C' := C') nx nd fun b _ => rfl) ⟨dx, [], upd_same⟩
end
section
variable {P : Program} {w : World} {K : PySem.W.Frag} {mg : Str → Option Value} {base : Heap} {C : Addr} {Cs fI : Nat → Addr} {fdI : Nat → FuncData}
theorem ok_con {f fD : Addr} {fd dD : FuncData} (F : Fun K "_law_constant" "_law_constant" sCon f fd) (M : Mks P w K mg base Cs fI fdI) (D : FnOk P w K mg base CX0 1 fD dD ["_law_stream", "_law_many"] spDraw) (bD : Binds K dD ["_law_stream", "_law_many"] []) (kD : PySem.W.keepIn K (.ref fD) = true)
    (mD : mg "_law_draw" = some (.ref fD)) : FnOk P w K mg base CX0 3 f fd ["_law_stream"] (spCon C Cs) := by
  refine F.ok scCon (fun vs H Q E h => ?_) (fun cdv A outer s H vs Q E hr h => ?_)
  · obtain ⟨a, c, S, rfl, _⟩ := h
    rfl
  obtain ⟨a, c, S, rfl, hS, hcnt, q⟩ := h
  have hr2 : Room 2 _ := hr.mono (by omega)
  have hr1 : Room 1 _ := hr.mono (by omega)
  refine ⟨_, pss_cons (ps_set (i := 1) scCon.nd rfl (.inl rfl) (pe_call D hr1 rfl mD kD bD .nil pass0 (pa_cons (pv 0) (pa_cons pe_int pa_nil))))
    (pss_cons (ps_if (pt_cmpR op_gt (pv 1) pe_int (nomark _)) (pss_one (ps_ret (pe_ix ix_list (pe_lst (pa_cons (pe_makeE M.mk0 M.i0 M.o0 M.k0 rfl M.g0)
        (pa_cons (pe_make M.mk1 M.f1 hr2 rfl M.g1 M.b1 .nil pass0 (pa_cons pe_int (pa_cons pe_int pa_nil)))
        (pa_cons (pe_make M.mk2 M.f2 hr2 rfl M.g2 M.b2 .nil pass0 (pa_cons (pe_make M.mk1 M.f1 hr2 rfl M.g1 M.b1 .nil pass0 (pa_cons pe_int (pa_cons pe_int pa_nil))) pa_nil))
        (pa_cons (pe_make M.mk3 M.f3 hr2 rfl M.g3 M.b3 .nil pass0 (pa_cons (pe_tup (pa_cons pe_int (pa_cons pe_int pa_nil))) pa_nil)) pa_nil))))) (pe_op op_sub (pv 1) pe_int) (fun _ _ => rfl)))) pss_nil)
    (pss_one (ps_ret (pe_ix ix_list (pe_lst (pa_cons pe_non (pa_cons pe_bl (pa_cons pe_bl (pa_cons pe_int (pa_cons (pe_op op_pow pe_int pe_int) (pa_cons pe_str pa_nil))))))) (pv 1) (fun _ _ => rfl))))), ?_⟩
  refine ⟨_, rfl, a, c, S, 10, rfl, hS, hcnt, by decide, by decide, fun H1 S1 r h1 hc1 k1 r0 r1 => ?_⟩
  refine ⟨_, rfl, _, _, rfl, rfl, _, rfl, ?_⟩
  have fin : ∀ (H2 : Hp) (v : V), Same H1 H2 → Pln C Cs (res (was H) H2) "VALUE" v → Q v H2 := fun H2 v s hv => q H2 S1 v (h1.keep s) hc1 (k1.trans (Kept.same s)) hv
  have new : ∀ {H2 : Hp} {x : Addr} {j : Nat}, j < 4 → (∃ H3, Same H1 H3 ∧ H3 x = none) → (∃ dx fs, H2 x = some (.ins (Cs j) dx fs)) → Pln C Cs (res (was H) H2) "VALUE" (.ref x) := fun {H2 x j} hj hn hx => by
    obtain ⟨dx, fs, e⟩ := hx
    obtain ⟨H3, s3, n3⟩ := hn
    have n1 : H1 x = none := by
      cases z : H1 x with
      | none => rfl
      | some o => rw [s3 _ _ z] at n3; cases n3
    exact ⟨_, .val hj (res_in (fun z => z (k1.free h1.a0 h1.c0 n1)) e), rfl, rfl, rfl⟩
  refine ite2 (fun cw => ?_) (fun cw => ?_)
  · have cw' : 5 < r := by simpa using cw
    refine fun x0 dx0 n0 nd0 ne0 => ?_
    have s2 : Same H1 (upd (upd H1 dx0 (.own x0)) x0 (.ins (Cs 0) dx0 [])) := mk_same (C' := Cs 0) n0 nd0 fun b _ => rfl
    have e0 : ∃ dx fs, (upd (upd H1 dx0 (.own x0)) x0 (.ins (Cs 0) dx0 [])) x0 = some (.ins (Cs 0) dx fs) := ⟨_, _, upd_same⟩
    generalize upd (upd H1 dx0 (.own x0)) x0 (.ins (Cs 0) dx0 []) = H2 at s2 e0 ⊢
    refine fun x1 dx1 n1 nd1 ne1 => ⟨x1, dx1, [.int 3, .int 5], rfl, rfl, upd_same, fun H3 fs1 hx1 ho1 => ⟨rfl, ?_⟩⟩
    have s3 : Same H2 H3 := mk_same (C' := Cs 1) n1 nd1 ho1
    have e1 : ∃ dx fs, H3 x1 = some (.ins (Cs 1) dx fs) := ⟨_, _, hx1⟩
    refine fun x4 dx4 n4 nd4 ne4 => ⟨x4, dx4, [.int 1, .int 0], rfl, rfl, upd_same, fun H4 fs4 hx4 ho4 => ⟨rfl, ?_⟩⟩
    have s4 : Same H3 H4 := mk_same (C' := Cs 1) n4 nd4 ho4
    refine fun x2 dx2 n2 nd2 ne2 => ⟨x2, dx2, [.ref x4], rfl, rfl, upd_same, fun H5 fs2 hx2 ho2 => ⟨rfl, ?_⟩⟩
    have s5 : Same H4 H5 := mk_same (C' := Cs 2) n2 nd2 ho2
    have e2 : ∃ dx fs, H5 x2 = some (.ins (Cs 2) dx fs) := ⟨_, _, hx2⟩
    refine ⟨by show 2 ≤ sizeLine; decide, fun tp ntp => ?_⟩
    have s6 := same_new (o := .tup [.int 97, .int 0]) ntp
    refine fun x3 dx3 n3 nd3 ne3 => ⟨x3, dx3, [.ref tp], rfl, rfl, upd_same, fun H7 fs3 hx3 ho3 => ⟨rfl, ?_⟩⟩
    have s7 : Same _ H7 := mk_same (C' := Cs 3) n3 nd3 ho3
    have e3 : ∃ dx fs, H7 x3 = some (.ins (Cs 3) dx fs) := ⟨_, _, hx3⟩
    refine ⟨by show 4 ≤ sizeLine; decide, fun l nl => ?_⟩
    have s8 := same_new (o := .lst [.ref x0, .ref x1, .ref x2, .ref x3]) nl
    have up : ∀ {j : Nat} {x : Addr} {H2 H3 : Hp}, Same H2 H3 → (∃ dx fs, H2 x = some (.ins (Cs j) dx fs)) → ∃ dx fs, H3 x = some (.ins (Cs j) dx fs) := fun s ⟨dx, fs, e⟩ => ⟨dx, fs, s _ _ e⟩
    obtain ⟨j, hj⟩ : ∃ j : Nat, r - 6 = (j : Int) := ⟨(r - 6).toNat, by omega⟩
    have hj4 : j < 4 := by omega
    have sa := (((s2.trans s3).trans s4).trans s5).trans (s6.trans s7)
    refine ⟨_, rfl, _, _, rfl, rfl, ?_⟩
    obtain ⟨v, hv, hp⟩ : ∃ v, ([.ref x0, .ref x1, .ref x2, .ref x3] : List V)[j]? = some v ∧ Pln C Cs (res (was H) (upd H7 l (.lst [.ref x0, .ref x1, .ref x2, .ref x3]))) "VALUE" v := by
      rcases j with _ | _ | _ | _ | j
      · exact ⟨_, rfl, new (j := 0) (by decide) ⟨H1, Same.refl _, n0⟩ (up s8 (up (((s3.trans s4).trans s5).trans (s6.trans s7)) e0))⟩
      · exact ⟨_, rfl, new (j := 1) (by decide) ⟨H2, s2, n1⟩ (up s8 (up ((s4.trans s5).trans (s6.trans s7)) e1))⟩
      · exact ⟨_, rfl, new (j := 2) (by decide) ⟨H4, (s2.trans s3).trans s4, n2⟩ (up s8 (up (s6.trans s7) e2))⟩
      · exact ⟨_, rfl, new (j := 3) (by decide) ⟨_, (((s2.trans s3).trans s4).trans s5).trans s6, n3⟩ (up s8 e3)⟩
      · omega
    exact ⟨l, [.ref x0, .ref x1, .ref x2, .ref x3], r - 6, v, rfl, rfl, SqL.of upd_same, by rw [hj]; exact atI_nat hv, fin _ v (sa.trans s8) hp⟩
  · have cw' : ¬ 5 < r := by simpa using cw
    refine ⟨_, _, rfl, rfl, ⟨by decide, by decide, by decide⟩, ?_⟩
    refine ⟨by show 6 ≤ sizeLine; decide, fun l nl => ?_⟩
    have s8 := same_new (o := .lst [.non, .bl true, .bl false, .int 7, .int (10 ^ 29), .str "a b"]) nl
    obtain ⟨j, rfl⟩ : ∃ j : Nat, r = (j : Int) := ⟨r.toNat, by omega⟩
    have hj6 : j < 6 := by omega
    obtain ⟨v, hv, hp⟩ : ∃ v, ([.non, .bl true, .bl false, .int 7, .int (10 ^ 29), .str "a b"] : List V)[j]? = some v ∧ Pln C Cs (res (was H) (upd H1 l (.lst [.non, .bl true, .bl false, .int 7, .int (10 ^ 29), .str "a b"]))) "VALUE" v := by
      rcases j with _ | _ | _ | _ | _ | _ | j
      · exact ⟨_, rfl, _, .non, by decide +kernel, rfl, rfl⟩
      · exact ⟨_, rfl, _, .bl _, by decide +kernel, rfl, rfl⟩
      · exact ⟨_, rfl, _, .bl _, by decide +kernel, rfl, rfl⟩
      · exact ⟨_, rfl, _, .int _, by decide +kernel, rfl, rfl⟩
      · exact ⟨_, rfl, _, .int _, by decide +kernel, rfl, rfl⟩
      · exact ⟨_, rfl, _, .str _ (by decide +kernel), by decide +kernel, rfl, rfl⟩
      · omega
    exact ⟨_, rfl, l, [.non, .bl true, .bl false, .int 7, .int (10 ^ 29), .str "a b"], (j : Int), v, rfl, rfl, SqL.of upd_same, atI_nat hv, fin _ v s8 hp⟩
end
end K5

namespace K5
open PySem PySem.Spec PyProof.Rows L2 StX RZ TL
/-! ### the kind of a node that a word stands for -/
abbrev sKF : Stmt := topS 43
theorem scKF : FnScope ["_law_stream", "_law_held_here", "_law_deep", "_law_plain"] ["_law_stream", "_law_held_here", "_law_deep"] (defScope sKF) := ⟨rfl, rfl, rfl, by decide +kernel, rfl, by decide +kernel, by decide +kernel⟩
def kz (b : Bool) (r : Str) : List Str := if r ∈ chkN then [] else if b then grpOf r else if r = "EXPR" then ["Name", "Constant"] else if r = "STMT" then ["Pass", "Break"] else if r = "PATTERN" then ["MatchAs", "MatchStar"] else grpOf r
def inB (w : Str) : Bool := !(Builtin.Str.occurrences "BUXOC" w 0 ("BUXOC" : Str).length 1).isEmpty
def sub2 (l : List Str) (r : Str) : Bool := l.all (fun k => decide (k ∈ kz true r)) && l.all (fun k => decide (k ∈ kz false r))
def kfOk (p : Str × Str × Str) : Bool := !decide (p.2.2 = "") || (decide (p.1 ∈ valW) || (if inB p.1 then sub2 (signs p.1) p.2.1 && !(signs p.1).isEmpty
  else if p.1 = "E" then (ExpRows.map Prod.fst).all (fun k => decide (k ∈ kz true p.2.1)) && (["Name", "Constant"] : List Str).all (fun k => decide (k ∈ kz false p.2.1))
  else if p.1 = "S" then (StmRows.map Prod.fst).all (fun k => decide (k ∈ kz true p.2.1)) && (["Pass", "Break"] : List Str).all (fun k => decide (k ∈ kz false p.2.1))
  else if p.1 = "P" then (PatRows.map Prod.fst).all (fun k => decide (k ∈ kz true p.2.1)) && (["MatchAs", "MatchStar"] : List Str).all (fun k => decide (k ∈ kz false p.2.1))
  else sub2 [p.1] p.2.1))
theorem kf_ok : WT.all kfOk = true := by decide +kernel
theorem all_dec {l m : List Str} (h : l.all (fun k => decide (k ∈ m)) = true) : ∀ k ∈ l, k ∈ m := fun k hk => of_decide_eq_true (List.all_eq_true.mp h k hk)
def spKF : Sp := fun vs H Q _ => ∃ (a c : Addr) (S : Stm) (w r : Str) (i : Int), vs = [.ref a, .str w, .int i] ∧ StmAt H a c S ∧ S.cnt + 2 < 1000000 ∧ WT.lookup w = some (r, ("" : Str)) ∧ w ∉ valW ∧
  ∀ (H' : Hp) (S' : Stm) (k : Str), StmAt H' a c S' → S'.cnt ≤ S.cnt + 2 → Kept a c H H' → k ∈ kz (decide (0 < i)) r → Q (.str k) H'
structure KDefs (P : Program) (w : World) (K : PySem.W.Frag) (mg : Str → Option Value) (base : Heap) (fD fP fG fS fE fT : Addr) (dD dP dG dS dE dT : FuncData) : Prop where
  D : FnOk P w K mg base CX0 1 fD dD ["_law_stream", "_law_many"] spDraw
  bD : Binds K dD ["_law_stream", "_law_many"] []
  kD : PySem.W.keepIn K (.ref fD) = true
  mD : mg "_law_draw" = some (.ref fD)
  O : FnOk P w K mg base CX0 2 fP dP ["_law_stream", "_law_some"] (spPick K)
  bO : Binds K dP ["_law_stream", "_law_some"] []
  kO : PySem.W.keepIn K (.ref fP) = true
  mO : mg "_law_pick" = some (.ref fP)
  G : FnOk P w K mg base CX0 1 fG dG ["_law_word_here"] spSg
  bG : Binds K dG ["_law_word_here"] []
  kG : PySem.W.keepIn K (.ref fG) = true
  mG : mg "_law_signs_of" = some (.ref fG)
  S : FnOk P w K mg base CX0 1 fS dS [] (spTab StmRows)
  bS : Binds K dS [] []
  kS : PySem.W.keepIn K (.ref fS) = true
  mS : mg "_law_statements" = some (.ref fS)
  E : FnOk P w K mg base CX0 1 fE dE [] (spTab ExpRows)
  bE : Binds K dE [] []
  kE : PySem.W.keepIn K (.ref fE) = true
  mE : mg "_law_expressions" = some (.ref fE)
  T : FnOk P w K mg base CX0 1 fT dT [] (spTab PatRows)
  bT : Binds K dT [] []
  kT : PySem.W.keepIn K (.ref fT) = true
  mT : mg "_law_patterns" = some (.ref fT)
section
variable {P : Program} {w : World} {K : PySem.W.Frag} {mg : Str → Option Value} {base : Heap} {fD fP fG fS fE fT : Addr} {dD dP dG dS dE dT : FuncData}
theorem keys_of (rows : List (Str × Str)) : (kvOf rows).map (·.1) = (rows.map Prod.fst).map Sum.inr := by
  unfold kvOf
  rw [List.map_map, List.map_map]
  rfl
theorem ok_kf {f : Addr} {fd : FuncData} (F : Fun K "_law_kind_for" "_law_kind_for" sKF f fd) (Y : KDefs P w K mg base fD fP fG fS fE fT dD dP dG dS dE dT) (Z : Blt mg) : FnOk P w K mg base CX0 3 f fd ["_law_stream", "_law_held_here", "_law_deep"] spKF := by
  refine F.ok scKF (fun vs H Q E h => ?_) (fun cdv A outer s H vs Q E hr h => ?_)
  · obtain ⟨a, c, S, wd, r, i, rfl, _⟩ := h
    rfl
  obtain ⟨a, c, S, wd, r, i, rfl, hS, hcnt, hw, hv, q⟩ := h
  have hr1 : Room 1 _ := hr.mono (by omega)
  refine ⟨_, pss_cons (ps_if (pt_cmpR op_in_str (pv 1) pe_str (by rfl)) (pss_one (ps_ret (pe_call Y.O hr rfl Y.mO Y.kO Y.bO .nil pass0 (pa_cons (pv 0) (pa_cons (pe_call Y.G hr1 rfl Y.mG Y.kG Y.bG .nil pass0 (pa_cons (pv 1) pa_nil)) pa_nil))))) pss_nil)
    (pss_cons (ps_if (pt_cmpR op_eq (pv 1) pe_str (nomark _)) (pss_cons (ps_set (i := 3) scKF.nd rfl (.inl rfl) (pe_ix ix_list (pe_lst (pa_cons pe_str (pa_cons pe_str pa_nil))) (pe_call Y.D hr1 rfl Y.mD Y.kD Y.bD .nil pass0 (pa_cons (pv 0) (pa_cons pe_int pa_nil))) (fun _ _ => rfl)))
      (pss_one (ps_ret (pe_ifExp (pt_cmpR op_gt (pv 2) pe_int (nomark _)) (pe_call Y.O hr rfl Y.mO Y.kO Y.bO .nil pass0 (pa_cons (pv 0) (pa_cons (pe_callB (call_sortedD rfl) (by rfl) Z.so (by decide +kernel) (pa_cons (pe_call0 Y.E hr1 (by rfl) Y.mE Y.kE Y.bE .nil pass0) pa_nil)) pa_nil))) (pv 3))))) pss_nil)
    (pss_cons (ps_if (pt_cmpR op_eq (pv 1) pe_str (nomark _)) (pss_cons (ps_set (i := 3) scKF.nd rfl (.inl rfl) (pe_ix ix_list (pe_lst (pa_cons pe_str (pa_cons pe_str pa_nil))) (pe_call Y.D hr1 rfl Y.mD Y.kD Y.bD .nil pass0 (pa_cons (pv 0) (pa_cons pe_int pa_nil))) (fun _ _ => rfl)))
      (pss_one (ps_ret (pe_ifExp (pt_cmpR op_gt (pv 2) pe_int (nomark _)) (pe_call Y.O hr rfl Y.mO Y.kO Y.bO .nil pass0 (pa_cons (pv 0) (pa_cons (pe_callB (call_sortedD rfl) (by rfl) Z.so (by decide +kernel) (pa_cons (pe_call0 Y.S hr1 (by rfl) Y.mS Y.kS Y.bS .nil pass0) pa_nil)) pa_nil))) (pv 3))))) pss_nil)
    (pss_cons (ps_if (pt_cmpR op_eq (pv 1) pe_str (nomark _)) (pss_cons (ps_set (i := 3) scKF.nd rfl (.inl rfl) (pe_ix ix_list (pe_lst (pa_cons pe_str (pa_cons pe_str pa_nil))) (pe_call Y.D hr1 rfl Y.mD Y.kD Y.bD .nil pass0 (pa_cons (pv 0) (pa_cons pe_int pa_nil))) (fun _ _ => rfl)))
      (pss_one (ps_ret (pe_ifExp (pt_cmpR op_gt (pv 2) pe_int (nomark _)) (pe_call Y.O hr rfl Y.mO Y.kO Y.bO .nil pass0 (pa_cons (pv 0) (pa_cons (pe_callB (call_sortedD rfl) (by rfl) Z.so (by decide +kernel) (pa_cons (pe_call0 Y.T hr1 (by rfl) Y.mT Y.kT Y.bT .nil pass0) pa_nil)) pa_nil))) (pv 3))))) pss_nil)
    (pss_one (ps_ret (pv 1)))))), ?_⟩
  have z := List.all_eq_true.mp kf_ok _ (lookMem hw)
  unfold kfOk at z
  rw [decide_eq_true (show ((wd, r, ("" : Str)) : Str × Str × Str).2.2 = "" from rfl), decide_eq_false hv] at z
  have z : (if inB wd then sub2 (signs wd) r && !(signs wd).isEmpty
    else if wd = "E" then (ExpRows.map Prod.fst).all (fun k => decide (k ∈ kz true r)) && (["Name", "Constant"] : List Str).all (fun k => decide (k ∈ kz false r))
    else if wd = "S" then (StmRows.map Prod.fst).all (fun k => decide (k ∈ kz true r)) && (["Pass", "Break"] : List Str).all (fun k => decide (k ∈ kz false r))
    else if wd = "P" then (PatRows.map Prod.fst).all (fun k => decide (k ∈ kz true r)) && (["MatchAs", "MatchStar"] : List Str).all (fun k => decide (k ∈ kz false r))
    else sub2 [wd] r) = true := z
  have both : ∀ {l : List Str} {k : Str}, sub2 l r = true → k ∈ l → k ∈ kz (decide (0 < i)) r := fun {l k} h hk => by
    unfold sub2 at h
    obtain ⟨h1, h2⟩ := Bool.and_eq_true_iff.mp h
    cases decide (0 < i)
    · exact all_dec h2 k hk
    · exact all_dec h1 k hk
  have pick : ∀ {H2 : Hp} {S2 : Stm} {l : Addr} {xs : List Str} {n : Int}, StmAt H2 a c S2 → S2.cnt ≤ S.cnt + n → n ≤ 1 → Kept a c H H2 → H2 l = some (.lst (xs.map V.str)) → H l = none → xs ≠ [] → xs.length < 100 → (∀ k ∈ xs, k ∈ kz (decide (0 < i)) r) → (spPick K) [.ref a, .ref l] H2 Q E := fun {H2 S2 l xs n} h2 hc2 hn k2 hl nl hne hln hx => by
    have la : l ≠ a := fun z => hS.a0 (z ▸ nl)
    have lc : l ≠ c := fun z => hS.c0 (z ▸ nl)
    refine ⟨a, c, l, S2, xs.map V.str, rfl, h2, by omega, hl, la, lc, ?_, by rw [List.length_map]; omega, fun H3 S3 x h3 hc3 k3 hx' => ?_⟩
    · rw [List.length_map]
      exact List.length_pos_iff.mpr hne
    · obtain ⟨k, hk, rfl⟩ := List.mem_map.mp hx'
      exact q H3 S3 k h3 (by omega) (k2.trans k3) (hx k hk)
  refine ⟨_, rfl, wd, _, rfl, rfl, _, rfl, ?_⟩
  change if inB wd = true then _ else _
  cases hb : inB wd with
  | true =>
    rw [hb, if_pos rfl] at z
    obtain ⟨z1, z2⟩ := Bool.and_eq_true_iff.mp z
    refine iteT ?_
    refine ⟨_, rfl, _, rfl, wd, rfl, fun H2 p np s2 hp => ?_⟩
    exact pick (n := 0) (hS.keep s2) (by omega) (by omega) (Kept.same s2) hp np (by intro y; rw [y] at z2; simp at z2) (by have := signs_len wd; omega) (fun k hk => both z1 hk)
  | false =>
    rw [hb, if_neg (by decide)] at z
    refine iteF ?_
    refine ⟨_, rfl, rfl, _, rfl, ?_⟩
    refine ite2 (fun ce => ?_) (fun ce => ?_)
    · have ce : wd = "E" := by simpa using ce
      rw [if_pos ce] at z
      obtain ⟨z1, z2⟩ := Bool.and_eq_true_iff.mp z
      refine ⟨by show 2 ≤ sizeLine; decide, fun l nl => ?_⟩
      have s1 := same_new (o := .lst [.str "Name", .str "Constant"]) nl
      have la : l ≠ a := fun z => hS.a0 (z ▸ nl)
      have lc : l ≠ c := fun z => hS.c0 (z ▸ nl)
      refine ⟨_, rfl, a, c, S, 2, rfl, hS.keep s1, by omega, by decide, by decide, fun H2 S2 j h2 hc2 k2 j0 j1 => ?_⟩
      obtain ⟨j, rfl⟩ : ∃ n : Nat, j = (n : Int) := ⟨j.toNat, by omega⟩
      obtain ⟨x, hx, hxm⟩ : ∃ x : Str, ([.str "Name", .str "Constant"] : List V)[j]? = some (.str x) ∧ x ∈ (["Name", "Constant"] : List Str) := by
        rcases j with _ | _ | j
        · exact ⟨_, rfl, by simp⟩
        · exact ⟨_, rfl, by simp⟩
        · omega
      refine ⟨l, _, _, _, rfl, rfl, SqL.of (k2 _ _ la lc upd_same), atI_nat hx, ?_⟩
      refine ⟨_, rfl, _, _, rfl, rfl, _, rfl, ?_⟩
      refine ite2 (fun cd => ?_) (fun cd => ?_)
      · have cd : 0 < i := by simpa using cd
        refine ⟨_, rfl, rfl, fun H3 d t => ?_⟩
        refine ⟨d, _, _, rfl, .inl t.2.2, keys_of _, by decide +kernel, fun ys p hp _ np => ?_⟩
        have k3 := ((Kept.same s1).trans k2).trans ((Kept.same t.2.1).trans (Kept.same (same_new (o := .lst (ys.map V.str)) np)))
        exact pick (n := 1) ((h2.keep t.2.1).keep (same_new np)) (by omega) (by omega) k3 upd_same (Kept.free (((Kept.same s1).trans k2).trans (Kept.same t.2.1)) (h2.keep t.2.1).a0 (h2.keep t.2.1).c0 np) (by intro y; rw [y] at hp; have := hp.length_eq; revert this; decide +kernel) (by have := hp.length_eq; rw [this]; decide +kernel) (fun k hk => by rw [decide_eq_true cd]; exact all_dec z1 k (hp.mem_iff.mp hk))
      · refine ⟨_, rfl, q H2 S2 x h2 (by omega) ((Kept.same s1).trans k2) ?_⟩
        rw [decide_eq_false (by simpa using cd)]
        exact all_dec z2 x hxm
    · have ce : ¬ wd = "E" := by simpa using ce
      rw [if_neg ce] at z
      refine ⟨_, rfl, rfl, _, rfl, ?_⟩
      refine ite2 (fun ce => ?_) (fun ce => ?_)
      · have ce : wd = "S" := by simpa using ce
        rw [if_pos ce] at z
        obtain ⟨z1, z2⟩ := Bool.and_eq_true_iff.mp z
        refine ⟨by show 2 ≤ sizeLine; decide, fun l nl => ?_⟩
        have s1 := same_new (o := .lst [.str "Pass", .str "Break"]) nl
        have la : l ≠ a := fun z => hS.a0 (z ▸ nl)
        have lc : l ≠ c := fun z => hS.c0 (z ▸ nl)
        refine ⟨_, rfl, a, c, S, 2, rfl, hS.keep s1, by omega, by decide, by decide, fun H2 S2 j h2 hc2 k2 j0 j1 => ?_⟩
        obtain ⟨j, rfl⟩ : ∃ n : Nat, j = (n : Int) := ⟨j.toNat, by omega⟩
        obtain ⟨x, hx, hxm⟩ : ∃ x : Str, ([.str "Pass", .str "Break"] : List V)[j]? = some (.str x) ∧ x ∈ (["Pass", "Break"] : List Str) := by
          rcases j with _ | _ | j
          · exact ⟨_, rfl, by simp⟩
          · exact ⟨_, rfl, by simp⟩
          · omega
        refine ⟨l, _, _, _, rfl, rfl, SqL.of (k2 _ _ la lc upd_same), atI_nat hx, ?_⟩
        refine ⟨_, rfl, _, _, rfl, rfl, _, rfl, ?_⟩
        refine ite2 (fun cd => ?_) (fun cd => ?_)
        · have cd : 0 < i := by simpa using cd
          refine ⟨_, rfl, rfl, fun H3 d t => ?_⟩
          refine ⟨d, _, _, rfl, .inl t.2.2, keys_of _, by decide +kernel, fun ys p hp _ np => ?_⟩
          have k3 := ((Kept.same s1).trans k2).trans ((Kept.same t.2.1).trans (Kept.same (same_new (o := .lst (ys.map V.str)) np)))
          exact pick (n := 1) ((h2.keep t.2.1).keep (same_new np)) (by omega) (by omega) k3 upd_same (Kept.free (((Kept.same s1).trans k2).trans (Kept.same t.2.1)) (h2.keep t.2.1).a0 (h2.keep t.2.1).c0 np) (by intro y; rw [y] at hp; have := hp.length_eq; revert this; decide +kernel) (by have := hp.length_eq; rw [this]; decide +kernel) (fun k hk => by rw [decide_eq_true cd]; exact all_dec z1 k (hp.mem_iff.mp hk))
        · refine ⟨_, rfl, q H2 S2 x h2 (by omega) ((Kept.same s1).trans k2) ?_⟩
          rw [decide_eq_false (by simpa using cd)]
          exact all_dec z2 x hxm
      · have ce : ¬ wd = "S" := by simpa using ce
        rw [if_neg ce] at z
        refine ⟨_, rfl, rfl, _, rfl, ?_⟩
        refine ite2 (fun ce => ?_) (fun ce => ?_)
        · have ce : wd = "P" := by simpa using ce
          rw [if_pos ce] at z
          obtain ⟨z1, z2⟩ := Bool.and_eq_true_iff.mp z
          refine ⟨by show 2 ≤ sizeLine; decide, fun l nl => ?_⟩
          have s1 := same_new (o := .lst [.str "MatchAs", .str "MatchStar"]) nl
          have la : l ≠ a := fun z => hS.a0 (z ▸ nl)
          have lc : l ≠ c := fun z => hS.c0 (z ▸ nl)
          refine ⟨_, rfl, a, c, S, 2, rfl, hS.keep s1, by omega, by decide, by decide, fun H2 S2 j h2 hc2 k2 j0 j1 => ?_⟩
          obtain ⟨j, rfl⟩ : ∃ n : Nat, j = (n : Int) := ⟨j.toNat, by omega⟩
          obtain ⟨x, hx, hxm⟩ : ∃ x : Str, ([.str "MatchAs", .str "MatchStar"] : List V)[j]? = some (.str x) ∧ x ∈ (["MatchAs", "MatchStar"] : List Str) := by
            rcases j with _ | _ | j
            · exact ⟨_, rfl, by simp⟩
            · exact ⟨_, rfl, by simp⟩
            · omega
          refine ⟨l, _, _, _, rfl, rfl, SqL.of (k2 _ _ la lc upd_same), atI_nat hx, ?_⟩
          refine ⟨_, rfl, _, _, rfl, rfl, _, rfl, ?_⟩
          refine ite2 (fun cd => ?_) (fun cd => ?_)
          · have cd : 0 < i := by simpa using cd
            refine ⟨_, rfl, rfl, fun H3 d t => ?_⟩
            refine ⟨d, _, _, rfl, .inl t.2.2, keys_of _, by decide +kernel, fun ys p hp _ np => ?_⟩
            have k3 := ((Kept.same s1).trans k2).trans ((Kept.same t.2.1).trans (Kept.same (same_new (o := .lst (ys.map V.str)) np)))
            exact pick (n := 1) ((h2.keep t.2.1).keep (same_new np)) (by omega) (by omega) k3 upd_same (Kept.free (((Kept.same s1).trans k2).trans (Kept.same t.2.1)) (h2.keep t.2.1).a0 (h2.keep t.2.1).c0 np) (by intro y; rw [y] at hp; have := hp.length_eq; revert this; decide +kernel) (by have := hp.length_eq; rw [this]; decide +kernel) (fun k hk => by rw [decide_eq_true cd]; exact all_dec z1 k (hp.mem_iff.mp hk))
          · refine ⟨_, rfl, q H2 S2 x h2 (by omega) ((Kept.same s1).trans k2) ?_⟩
            rw [decide_eq_false (by simpa using cd)]
            exact all_dec z2 x hxm
        · have ce : ¬ wd = "P" := by simpa using ce
          rw [if_neg ce] at z
          exact ⟨_, rfl, q H S wd hS (by omega) (Kept.refl _ _ _) (both z (List.mem_singleton.mpr rfl))⟩
end
end K5

namespace K5
open PySem PySem.Spec PyProof.Rows L2 StX RZ TL
/-! ### what is drawn at which height, at what price -/
def bb (j : Nat) : Bool := decide (3 < j)
def G : Nat → Str → Bool
  | 0, _ => false
  | j + 1, k => match Fld.lookup k with
    | some rs => rs.all fun r => (!bb j && (decide (r.2.2 = "?") || decide (r.2.2 = "*") || decide (r.2.2 = "?*"))) || (kz (bb j) r.2.1).all (G j)
    | none => false
def needR (j : Nat) (r m : Str) : Bool := (!bb j && (decide (m = "?") || decide (m = "*") || decide (m = "?*"))) || (kz (bb j) r).all (G j)
def cT (j : Nat) : Nat := [0, 7, 30, 100, 310, 3761, 45173].getD j 0
def mT (j : Nat) : Nat := [0, 1, 4, 13, 40, 481, 5773].getD j 0
def cB (j : Nat) : Nat := max 5 (2 + cT j)
def manyR (j : Nat) (m : Str) : Nat := (if m = "+" then 1 else 0) + (if bb j then 2 else 0)
def pR (j : Nat) (m : Str) : Nat := if m = "" then cB j else if m = "?" then (if bb j then 1 + cB j else 0) else 1 + manyR j m * (1 + cB j)
def mR (j : Nat) (m : Str) : Nat := if m = "" then mT j else if m = "?" then (if bb j then mT j else 0) else manyR j m * mT j
def sumR (f : Str → Nat) (rs : List (Str × Str × Str)) : Nat := (rs.map fun r => f r.2.2).sum
def stOk (j : Nat) : Bool := Fld.all fun p => !G (j + 1) p.1 || (decide (sumR (pR j) p.2 ≤ cT (j + 1)) && decide (1 + sumR (mR j) p.2 ≤ mT (j + 1)))
def stOk2 (j : Nat) : Bool := Fld.all fun p => decide (sumR (pR j) p.2 ≤ cT (j + 1)) && decide (1 + sumR (mR j) p.2 ≤ mT (j + 1))
theorem st0 : stOk 0 = true := by decide +kernel
theorem st1 : stOk 1 = true := by decide +kernel
theorem st2 : stOk 2 = true := by decide +kernel
theorem st3 : stOk2 3 = true := by decide +kernel
theorem st4 : stOk2 4 = true := by decide +kernel
theorem st5 : stOk2 5 = true := by decide +kernel
theorem G4 : (Fld.all fun p => G 4 p.1) = true := by decide +kernel
theorem kzFld : (rules.all fun r => (kz true r).all fun k => (Fld.lookup k).isSome) = true := by decide +kernel
theorem st_at {j : Nat} (hj : j < 6) {k : Str} {rs : List (Str × Str × Str)} (hk : Fld.lookup k = some rs) (hg : G (j + 1) k = true) : sumR (pR j) rs ≤ cT (j + 1) ∧ 1 + sumR (mR j) rs ≤ mT (j + 1) := by
  have one : ∀ j, stOk j = true → G (j + 1) k = true → sumR (pR j) rs ≤ cT (j + 1) ∧ 1 + sumR (mR j) rs ≤ mT (j + 1) := fun j h g => by
    have z := List.all_eq_true.mp h _ (lookMem hk)
    have z : (!G (j + 1) k || (decide (sumR (pR j) rs ≤ cT (j + 1)) && decide (1 + sumR (mR j) rs ≤ mT (j + 1)))) = true := z
    rw [g] at z
    simpa using z
  have two : ∀ j, stOk2 j = true → sumR (pR j) rs ≤ cT (j + 1) ∧ 1 + sumR (mR j) rs ≤ mT (j + 1) := fun j h => by
    have z := List.all_eq_true.mp h _ (lookMem hk)
    have z : (decide (sumR (pR j) rs ≤ cT (j + 1)) && decide (1 + sumR (mR j) rs ≤ mT (j + 1))) = true := z
    simpa using z
  rcases j with _ | _ | _ | _ | _ | _ | j
  · exact one 0 st0 hg
  · exact one 1 st1 hg
  · exact one 2 st2 hg
  · exact two 3 st3
  · exact two 4 st4
  · exact two 5 st5
  · omega
theorem G_up {k : Str} {rs : List (Str × Str × Str)} (hk : Fld.lookup k = some rs) : ∀ n, G (4 + n) k = true
  | 0 => List.all_eq_true.mp G4 _ (lookMem hk)
  | n + 1 => by
    show (match Fld.lookup k with
      | some rs => rs.all fun r => (!bb (4 + n) && (decide (r.2.2 = "?") || decide (r.2.2 = "*") || decide (r.2.2 = "?*"))) || (kz (bb (4 + n)) r.2.1).all (G (4 + n))
      | none => false) = true
    rw [hk]
    refine List.all_eq_true.mpr fun r hr => ?_
    have b : bb (4 + n) = true := decide_eq_true (by omega)
    rw [b]
    refine Bool.or_eq_true_iff.mpr (.inr (List.all_eq_true.mpr fun x hx => ?_))
    have z := List.all_eq_true.mp (List.all_eq_true.mp kzFld _ (rule_of hk hr)) x hx
    cases e : Fld.lookup x with
    | none => rw [e] at z; cases z
    | some rs' => exact G_up e n
theorem G_row {j : Nat} {k : Str} {rs : List (Str × Str × Str)} (hk : Fld.lookup k = some rs) (hg : G (j + 1) k = true) {r : Str × Str × Str} (hr : r ∈ rs) : needR j r.2.1 r.2.2 = true := by
  have z : (match Fld.lookup k with
      | some rs => rs.all fun r => (!bb j && (decide (r.2.2 = "?") || decide (r.2.2 = "*") || decide (r.2.2 = "?*"))) || (kz (bb j) r.2.1).all (G j)
      | none => false) = true := hg
  rw [hk] at z
  exact List.all_eq_true.mp z r hr
theorem G_fld {j : Nat} {k : Str} (hg : G (j + 1) k = true) : ∃ rs, Fld.lookup k = some rs := by
  have z : (match Fld.lookup k with
      | some rs => rs.all fun r => (!bb j && (decide (r.2.2 = "?") || decide (r.2.2 = "*") || decide (r.2.2 = "?*"))) || (kz (bb j) r.2.1).all (G j)
      | none => false) = true := hg
  cases e : Fld.lookup k with
  | none => rw [e] at z; cases z
  | some rs => exact ⟨rs, rfl⟩
/-- the table, kept from the stream -/
def TbX (H : Hp) (a c t : Addr) : Prop := ∃ g e s q tv, TblOk (res (fun b => b = a ∨ b = c) H) t tv g e s q
theorem TbX.kept {H H' : Hp} {a c t : Addr} (T : TbX H a c t) (k : Kept a c H H') : TbX H' a c t := by
  obtain ⟨g, e, s, q, tv, T⟩ := T
  exact ⟨g, e, s, q, tv, T.up (res_up fun b o n h => ⟨n, k b o (fun z => n (.inl z)) (fun z => n (.inr z)) h⟩)⟩
theorem TbX.out {H : Hp} {a c t : Addr} (T : TbX H a c t) : ∃ g e s q tv, TblOk H t tv g e s q := by
  obtain ⟨g, e, s, q, tv, T⟩ := T
  exact ⟨g, e, s, q, tv, T.up res_out⟩
/-- a value that is drawn -/
structure Vd (C : Addr) (Cs : Nat → Addr) (R : Hp) (F : List (Addr × Addr)) (ht wt : Addr → Nat) (h N : Nat) (r m : Str) (v : V) : Prop where
  fv : ∃ kv ks, FvAt C Cs R v kv ks ∧ (∀ k ∈ ks, isLst kv = true → isLst k = false) ∧ fitV r m kv ks = true
  kd : ∀ c ∈ kidsV C R v, InF F c ∧ ht c < h
  wt_ : ((kidsV C R v).map wt).sum ≤ N
  ln : LenV R 10 v
theorem Vd.up {K : PySem.W.Frag} {C : Addr} {Cs : Nat → Addr} {R R' : Hp} {F F' : List (Addr × Addr)} {ht wt ht' wt' : Addr → Nat} {h N : Nat} {r m : Str} {v : V} (Sk : Kits K C Cs) (V0 : Vd C Cs R F ht wt h N r m v) (s : Same R R')
    (e : ∀ c, InF F c → InF F' c ∧ ht' c = ht c ∧ wt' c = wt c) : Vd C Cs R' F' ht' wt' h N r m v := by
  obtain ⟨kv, ks, f, nl, ft⟩ := V0.fv
  have ek := kidsV_up Sk f s
  refine ⟨⟨kv, ks, f.up s, nl, ft⟩, fun c hc => ?_, ?_, V0.ln.up f.1 s⟩
  · rw [ek] at hc
    obtain ⟨z1, z2⟩ := V0.kd c hc
    obtain ⟨y1, y2, y3⟩ := e c z1
    exact ⟨y1, by rw [y2]; exact z2⟩
  · rw [ek, List.map_congr_left fun c hc => (e c (V0.kd c hc).1).2.2]
    exact V0.wt_
def DD (j : Nat) : Nat := j - 3
def spTr (j : Nat) (C : Addr) (Cs : Nat → Addr) : Sp := fun vs H Q _ => ∃ (a c t : Addr) (S : Stm) (k : Str) (i : Int), vs = [.ref a, .ref t, .str k, .int i] ∧ StmAt H a c S ∧ TbX H a c t ∧ G j k = true ∧ i.toNat = j - 4 ∧ i < 10 ∧ -10 < i ∧ S.cnt + (cT j : Nat) < 1000000 ∧
  ∀ (H' : Hp) (S' : Stm) (p d : Addr) (F : List (Addr × Addr)) (ht wt : Addr → Nat), StmAt H' a c S' → S'.cnt ≤ S.cnt + (cT j : Nat) → Kept a c H H' → Drn C Cs (res (was H) H') F ht wt → (p, d) ∈ F → (∃ dx, res (was H) H' p = some (.ins C dx (nodeFs k d))) → ht p = j → wt p ≤ mT j → Q (.ref p) H'
def spHe (j cl : Nat) (C : Addr) (Cs : Nat → Addr) : Sp := fun vs H Q _ => ∃ (a c t : Addr) (S : Stm) (w r m : Str), vs = [.ref a, .ref t, .str w, .int (DD j : Nat)] ∧ StmAt H a c S ∧ TbX H a c t ∧ WT.lookup w = some (r, m) ∧ rank m < cl ∧ needR j r m = true ∧ S.cnt + (pR j m : Nat) < 1000000 ∧
  ∀ (H' : Hp) (S' : Stm) (v : V) (F : List (Addr × Addr)) (ht wt : Addr → Nat), StmAt H' a c S' → S'.cnt ≤ S.cnt + (pR j m : Nat) → Kept a c H H' → Drn C Cs (res (was H) H') F ht wt → Vd C Cs (res (was H) H') F ht wt (j + 1) (mR j m) r m v → Q v H'
theorem words_nm : (words.all fun x => fit1 "NAME" (.str x) && decide (x.length ≤ 10)) = true := by decide +kernel
def dotOk (ws : List Str) : Bool := fit1 "DOTTED" (.str (Txt.join "." ws)) && fit1 "DOTTED_OR_STAR" (.str (Txt.join "." ws)) && decide ((Txt.join "." ws).length ≤ 1000) && decide ((ws.map (·.length)).sum + ws.length * ("." : Str).length ≤ 16777216)
theorem dots1 : (words.all fun x => dotOk [x]) = true := by decide +kernel
theorem dots2 : (words.all fun x => words.all fun y => dotOk [x, y]) = true := by decide +kernel
theorem dots3 : (words.all fun x => words.all fun y => words.all fun z => dotOk [x, y, z]) = true := by decide +kernel
theorem dots {ws : List Str} (h1 : 0 < ws.length) (h3 : ws.length ≤ 3) (hw : ∀ x ∈ ws, x ∈ words) : dotOk ws = true := by
  match ws, h1, h3, hw with
  | [x], _, _, hw => exact List.all_eq_true.mp dots1 x (hw x (by simp))
  | [x, y], _, _, hw => exact List.all_eq_true.mp (List.all_eq_true.mp dots2 x (hw x (by simp))) y (hw y (by simp))
  | [x, y, z], _, _, hw => exact List.all_eq_true.mp (List.all_eq_true.mp (List.all_eq_true.mp dots3 x (hw x (by simp))) y (hw y (by simp))) z (hw z (by simp))
  | x :: y :: z :: u :: r, _, h, _ => simp at h
end K5

namespace K5
open PySem PySem.Spec PyProof.Rows L2 StX RZ TL
/-! ### a list of drawn values -/
theorem fit1_nl {r : Str} {kv : Kv} (h : fit1 r kv = true) : isLst kv = false := by
  unfold fit1 at h
  split at h
  · exact (chk_plain h).2
  · cases kv with
    | node k d => rfl
    | _ => simp at h
theorem inner_nl {r m : Str} {kv : Kv} {ks : List Kv} (h : fitV r (inner m) kv ks = true) : isLst kv = false := by
  have nm : inner m ∉ marks := by
    unfold inner
    split
    · decide +kernel
    · decide +kernel
  unfold fitV at h
  rw [if_neg nm] at h
  rcases Bool.or_eq_true_iff.mp h with h | h
  · exact fit1_nl h
  · have z := (Bool.and_eq_true_iff.mp h).2
    cases kv with
    | non => rfl
    | _ => cases z
theorem fm_same {α β : Type} {f g : α → Option β} : ∀ {xs : List α}, (∀ x ∈ xs, f x = g x) → xs.filterMap f = xs.filterMap g
  | [], _ => rfl
  | x :: r, h => by
    rw [List.filterMap_cons, List.filterMap_cons, h x (List.mem_cons_self ..), fm_same (xs := r) fun y hy => h y (List.mem_cons_of_mem _ hy)]
def wasD (H : Hp) (D : Addr) : Addr → Prop := fun b => was H b ∨ b = D
structure Acc (C : Addr) (Cs : Nat → Addr) (a c D : Addr) (S0 : Stm) (H0 : Hp) (cst N hh : Nat) (r m : Str) (i : Nat) (H3 : Hp) (S3 : Stm) (xs : List V) (F : List (Addr × Addr)) (ht wt : Addr → Nat) : Prop where
  st : StmAt H3 a c S3
  cn : S3.cnt ≤ S0.cnt + ((i * cst : Nat) : Int)
  kp : Kept a c H0 H3
  at_ : H3 D = some (.lst xs)
  len : xs.length = i
  w : Drn C Cs (res (wasD H0 D) H3) F ht wt
  it : ∀ x ∈ xs, ∃ k, KvAt C Cs (res (wasD H0 D) H3) x k ∧ isLst k = false ∧ fitI r m k = true
  kd : ∀ q ∈ xs.filterMap (nodeOf C (res (wasD H0 D) H3)), InF F q ∧ ht q < hh
  ws : ((xs.filterMap (nodeOf C (res (wasD H0 D) H3))).map wt).sum ≤ i * N
section
variable {K : PySem.W.Frag} {C : Addr} {Cs : Nat → Addr} {a c D : Addr} {S0 : Stm} {H0 : Hp} {cst N hh : Nat} {r m : Str} {i : Nat} {H3 : Hp} {S3 : Stm} {xs : List V} {F : List (Addr × Addr)} {ht wt : Addr → Nat}
theorem Acc.start (h : StmAt H0 a c S0) (nD : H0 D = none) : Acc C Cs a c D S0 H0 cst N hh r m 0 (upd H0 D (.lst [])) S0 [] [] (fun _ => 0) (fun _ => 0) :=
  ⟨h.keep (same_new nD), by simp, Kept.same (same_new nD), upd_same, rfl, Drn.nil, fun x hx => (by cases hx), fun q hq => (by cases hq), by simp⟩
theorem Acc.step (Sk : Kits K C Cs) (h0 : StmAt H0 a c S0) (nD : H0 D = none) (A : Acc C Cs a c D S0 H0 cst N hh r m i H3 S3 xs F ht wt) (hm : m ∈ marks) {H4 : Hp} {S4 : Stm} {v : V} {F2 : List (Addr × Addr)} {ht2 wt2 : Addr → Nat} (h4 : StmAt H4 a c S4) (hc : S4.cnt ≤ S3.cnt + (cst : Nat)) (k4 : Kept a c H3 H4)
    (W2 : Drn C Cs (res (was H3) H4) F2 ht2 wt2) (v2 : Vd C Cs (res (was H3) H4) F2 ht2 wt2 hh N r (inner m) v) :
    H4 D = some (.lst xs) ∧ ∃ F' ht' wt', Acc C Cs a c D S0 H0 cst N hh r m (i + 1) (upd H4 D (.lst (xs ++ [v]))) S4 (xs ++ [v]) F' ht' wt' := by
  have Da : D ≠ a := fun z => h0.a0 (z ▸ nD)
  have Dc : D ≠ c := fun z => h0.c0 (z ▸ nD)
  have hD4 := k4 _ _ Da Dc A.at_
  refine ⟨hD4, ?_⟩
  have k04 := A.kp.trans k4
  have wa : was H0 a := h0.a0
  have wc : was H0 c := h0.c0
  have s1 : Same (res (wasD H0 D) H3) (res (wasD H0 D) (upd H4 D (.lst (xs ++ [v])))) := res_up fun b o n e => ⟨n, by
    rw [upd_ne fun z => n (.inr z)]
    exact k4 b o (fun z => n (.inl (z ▸ wa))) (fun z => n (.inl (z ▸ wc))) e⟩
  have s2 : Same (res (was H3) H4) (res (wasD H0 D) (upd H4 D (.lst (xs ++ [v])))) := res_up fun b o n e => by
    have nb : b ≠ D := fun z => n (by rw [z]; unfold was; rw [A.at_]; simp)
    refine ⟨fun z => z.elim (fun z => n (A.kp.has A.st.a0 A.st.c0 z)) nb, by rw [upd_ne nb]; exact e⟩
  obtain ⟨ht', wt', W', e1, e2⟩ := (A.w.up Sk s1).add (W2.up Sk s2) (A.w.1.apart W2.1)
  have old : ∀ x ∈ xs, nodeOf C (res (wasD H0 D) (upd H4 D (.lst (xs ++ [v])))) x = nodeOf C (res (wasD H0 D) H3) x := fun x hx => by
    obtain ⟨k, hk, _⟩ := A.it x hx
    exact nodeOf_up Sk hk s1
  have oldF : xs.filterMap (nodeOf C (res (wasD H0 D) (upd H4 D (.lst (xs ++ [v]))))) = xs.filterMap (nodeOf C (res (wasD H0 D) H3)) := fm_same old
  have vN := v2.up (F' := F ++ F2) (ht' := ht') (wt' := wt') Sk s2 fun q hq => ⟨InF.app.mpr (.inr hq), e2 q hq⟩
  obtain ⟨kv, ks, fv, nl, ft⟩ := vN.fv
  have hl := inner_nl ft
  rw [inner_fit hm] at ft
  have ek : kidsV C (res (wasD H0 D) (upd H4 D (.lst (xs ++ [v])))) v = [v].filterMap (nodeOf C (res (wasD H0 D) (upd H4 D (.lst (xs ++ [v]))))) := by
    rw [kidsV_one Sk fv.1 hl, fm_one]
  refine ⟨F ++ F2, ht', wt', ?_, ?_, fun b o n1 n2 e => ?_, upd_same, by rw [List.length_append, A.len]; rfl, W', fun x hx => ?_, fun q hq => ?_, ?_⟩
  · exact ⟨by rw [upd_ne Da.symm]; exact h4.lst, by rw [upd_ne Dc.symm]; exact h4.cel, h4.ne, h4.len, h4.cur0, h4.cnt0, h4.mix0, h4.mix1⟩
  · have := A.cn
    have e : (i + 1) * cst = i * cst + cst := Nat.succ_mul _ _
    rw [e]
    omega
  · rw [upd_ne (ne_of_none e nD)]
    exact k04 b o n1 n2 e
  · rcases List.mem_append.mp hx with hx | hx
    · obtain ⟨k, hk, h1, h2⟩ := A.it x hx
      exact ⟨k, hk.up s1, h1, h2⟩
    · rw [List.mem_singleton.mp hx]
      exact ⟨kv, fv.1, hl, ft⟩
  · rw [List.filterMap_append, oldF, ← ek] at hq
    rcases List.mem_append.mp hq with hq | hq
    · obtain ⟨z1, z2⟩ := A.kd q hq
      exact ⟨InF.app.mpr (.inl z1), by rw [(e1 q z1).1]; exact z2⟩
    · exact vN.kd q hq
  · rw [List.filterMap_append, oldF, ← ek, List.map_append, List.sum_append, List.map_congr_left fun q hq => (e1 q (A.kd q hq).1).2]
    have := A.ws
    have := vN.wt_
    have e : (i + 1) * N = i * N + N := Nat.succ_mul _ _
    omega
/-- the whole list -/
theorem Acc.out (Sk : Kits K C Cs) {H : Hp} (h0 : StmAt H0 a c S0) (nD : H0 D = none) (k0 : Kept a c H H0) (A : Acc C Cs a c D S0 H0 cst N hh r m i H3 S3 xs F ht wt) (hm : m ∈ marks) (hi : i ≤ 10) (hp : m = "+" → 0 < i) :
    Drn C Cs (res (was H) H3) F ht wt ∧ Vd C Cs (res (was H) H3) F ht wt hh (i * N) r m (.ref D) := by
  have nDH : ¬ was H D := fun z => z (k0.free h0.a0 h0.c0 nD)
  have s : Same (res (wasD H0 D) H3) (res (was H) H3) := res_up fun b o n e => ⟨fun z => n (.inl (k0.has h0.a0 h0.c0 z)), e⟩
  have hD : res (was H) H3 D = some (.lst xs) := res_in nDH A.at_
  have hl := A.len
  have kv : KvAt C Cs (res (was H) H3) (.ref D) (.lst xs) := .lst hD (by omega)
  have its : ∀ x ∈ xs, ∃ k, KvAt C Cs (res (was H) H3) x k ∧ isLst k = false ∧ fitI r m k = true := fun x hx => let ⟨k, h1, h2, h3⟩ := A.it x hx; ⟨k, h1.up s, h2, h3⟩
  have fv := FvAt.some Sk kv (fun ys e x hx => by cases e; exact let ⟨k, h1, _⟩ := its x hx; ⟨k, h1⟩)
  have eks : ksF C Cs (res (was H) H3) (.ref D) = xs.map (kvF C Cs (res (was H) H3)) := by
    unfold ksF
    rw [kvF_of Sk kv]
  have hk : ∀ k ∈ ksF C Cs (res (was H) H3) (.ref D), isLst k = false ∧ fitI r m k = true := fun k hk => by
    rw [eks] at hk
    obtain ⟨x, hx, rfl⟩ := List.mem_map.mp hk
    obtain ⟨k, h1, h2, h3⟩ := its x hx
    rw [kvF_of Sk h1]
    exact ⟨h2, h3⟩
  have ek : kidsV C (res (was H) H3) (.ref D) = xs.filterMap (nodeOf C (res (wasD H0 D) H3)) := by
    rw [kidsV_lst hD]
    refine fm_same fun x hx => ?_
    obtain ⟨k, h1, _⟩ := A.it x hx
    exact nodeOf_up Sk h1 s
  refine ⟨A.w.up Sk s, ⟨_, _, fv, fun k h _ => (hk k h).1, ?_⟩, fun q hq => A.kd q (ek ▸ hq), by rw [ek]; exact A.ws, fun b ys e h' => by cases e; rw [hD] at h'; cases h'; omega⟩
  unfold fitV
  rw [if_pos hm]
  refine Bool.and_eq_true_iff.mpr ⟨rfl, Bool.and_eq_true_iff.mpr ⟨?_, List.all_eq_true.mpr fun k h => (hk k h).2⟩⟩
  by_cases e : m = "+"
  · have := hp e
    have ne : (ksF C Cs (res (was H) H3) (.ref D)).isEmpty = false := by
      rw [eks]
      cases xs with
      | nil => simp at hl; omega
      | cons x r => rfl
    rw [ne]
    simp
  · rw [decide_eq_false e]
    rfl
theorem Pln.vd (Sk : Kits K C Cs) {R : Hp} {v : V} {ht wt : Addr → Nat} {h N : Nat} (p : Pln C Cs R r v) : Vd C Cs R [] ht wt h N r "" v := by
  obtain ⟨kv, h1, h2, h3, h4⟩ := p
  have e : kidsV C R v = [] := by
    rw [kidsV_one Sk h1 h3, nodeOf_no Sk h1 h4]
    rfl
  refine ⟨⟨kv, [], ⟨h1, fun xs e => by rw [e] at h3; cases h3⟩, fun k hk => (by cases hk), by rw [fitV_base]; exact h2⟩, fun c hc => (by rw [e] at hc; cases hc), by rw [e]; exact Nat.zero_le _, LenV.no h1 h3⟩
theorem kz_grp : (rules.all fun r => (kz true r).all (fun k => decide (k ∈ grpOf r)) && (kz false r).all fun k => decide (k ∈ grpOf r)) = true := by decide +kernel
theorem valS_some (k : Str) : ∀ rows : List (Str × V), (valV (rows.map fun p => ((Sum.inr p.1 : Key), p.2)) (Sum.inr k)).isSome = decide (k ∈ rows.map Prod.fst)
  | [] => rfl
  | (x, u) :: r => by
    show (valV ((Sum.inr x, u) :: (r.map fun p => ((Sum.inr p.1 : Key), p.2))) (Sum.inr k)).isSome = _
    by_cases e : x = k
    · rw [e, valV_pos rfl]
      simp
    · rw [valV_neg fun z => e (Sum.inr.inj z), valS_some k r]
      have : decide (k ∈ ((x, u) :: r).map Prod.fst) = decide (k ∈ r.map Prod.fst) := by
        refine decide_eq_decide.mpr ⟨fun h => ?_, fun h => List.mem_cons_of_mem _ h⟩
        rcases List.mem_cons.mp h with h | h
        · exact absurd h.symm e
        · exact h
      rw [this]
end
end K5

namespace K5
open PySem PySem.Spec PyProof.Rows L2 StX RZ TL
/-! ### a drawn value for a word of the table -/
abbrev sHe : Stmt := topS 44
abbrev nHe : List Str := ["_law_stream", "_law_table_here", "_law_held_here", "_law_deep", "_law_many", "_law_plain", "_law_words", "_law_k"]
abbrev pHe : List Str := ["_law_stream", "_law_table_here", "_law_held_here", "_law_deep"]
theorem scHe : FnScope nHe pHe (defScope sHe) := ⟨rfl, rfl, rfl, by decide +kernel, rfl, by decide +kernel, by decide +kernel⟩
structure HDefs (P : Program) (w : World) (K : PySem.W.Frag) (mg : Str → Option Value) (base : Heap) (C : Addr) (Cs : Nat → Addr) (fW fK fC : Addr) (dW dK dC : FuncData) : Prop where
  W : FnOk P w K mg base CX0 3 fW dW ["_law_stream"] spWord
  bW : Binds K dW ["_law_stream"] []
  kW : PySem.W.keepIn K (.ref fW) = true
  mW : mg "_law_word" = some (.ref fW)
  F : FnOk P w K mg base CX0 3 fK dK ["_law_stream", "_law_held_here", "_law_deep"] spKF
  bF : Binds K dK ["_law_stream", "_law_held_here", "_law_deep"] []
  kF : PySem.W.keepIn K (.ref fK) = true
  mF : mg "_law_kind_for" = some (.ref fK)
  C' : FnOk P w K mg base CX0 3 fC dC ["_law_stream"] (spCon C Cs)
  bC : Binds K dC ["_law_stream"] []
  kC : PySem.W.keepIn K (.ref fC) = true
  mC : mg "_law_constant" = some (.ref fC)
section
variable {P : Program} {w : World} {K : PySem.W.Frag} {mg : Str → Option Value} {base : Heap} {C : Addr} {Cs : Nat → Addr} {fD fP fG fS fE fT fW fK fC : Addr} {dD dP dG dS dE dT dW dK dC : FuncData}
theorem no_he {f : Addr} {fd : FuncData} {k j : Nat} : FnOk P w K mg base CX0 k f fd pHe (spHe j 0 C Cs) := by
  have no : ∀ vs H Q E, ¬ spHe j 0 C Cs vs H Q E := fun vs H Q E h => by
    obtain ⟨a, c, t, S, w, r, m, _, _, _, _, h1, _⟩ := h
    omega
  exact ⟨fun vs H Q E h => absurd h (no vs H Q E), fun A outer s H args us vs Q E _ _ _ _ h => absurd h (no vs H Q E)⟩
theorem no_tr {f : Addr} {fd : FuncData} {k : Nat} {ps : List Str} : FnOk P w K mg base CX0 k f fd ps (spTr 0 C Cs) := by
  have no : ∀ vs H Q E, ¬ spTr 0 C Cs vs H Q E := fun vs H Q E h => by
    obtain ⟨a, c, t, S, k, i, _, _, _, h1, _⟩ := h
    cases h1
  exact ⟨fun vs H Q E h => absurd h (no vs H Q E), fun A outer s H args us vs Q E _ _ _ _ h => absurd h (no vs H Q E)⟩
theorem need_up {j : Nat} {r m m' : Str} (h : needR j r m = true) (n : bb j = true ∨ (m ≠ "?" ∧ m ≠ "*" ∧ m ≠ "?*")) : needR j r m' = true := by
  unfold needR at h ⊢
  have z : (!bb j && (decide (m = "?") || decide (m = "*") || decide (m = "?*"))) = false := by
    rcases n with n | ⟨n1, n2, n3⟩
    · rw [n]; rfl
    · rw [decide_eq_false n1, decide_eq_false n2, decide_eq_false n3]; simp
  rw [z, Bool.false_or] at h
  rw [h, Bool.or_true]
theorem need_G {j : Nat} {r : Str} (h : needR j r "" = true) : ∀ k ∈ kz (bb j) r, G j k = true := by
  have h' := need_up (m' := "") h (.inr ⟨by decide +kernel, by decide +kernel, by decide +kernel⟩)
  unfold needR at h
  have z : (decide (("" : Str) = "?") || decide (("" : Str) = "*") || decide (("" : Str) = "?*")) = false := by decide +kernel
  rw [z, Bool.and_false, Bool.false_or] at h
  exact fun k hk => List.all_eq_true.mp h k hk
theorem Vd.le {R : Hp} {F : List (Addr × Addr)} {ht wt : Addr → Nat} {h h' N N' : Nat} {r m : Str} {v : V} (x : Vd C Cs R F ht wt h N r m v) (hh : h ≤ h') (hN : N ≤ N') : Vd C Cs R F ht wt h' N' r m v :=
  ⟨x.fv, fun c hc => ⟨(x.kd c hc).1, Nat.lt_of_lt_of_le (x.kd c hc).2 hh⟩, Nat.le_trans x.wt_ hN, x.ln⟩
theorem inner_le (j : Nat) (m : Str) : pR j (inner m) ≤ 1 + cB j ∧ mR j (inner m) ≤ mT j := by
  unfold inner
  have q0 : ¬ ("?" : Str) = "" := by decide +kernel
  by_cases e : m = "?*"
  · rw [if_pos e]
    unfold pR mR
    rw [if_neg q0, if_pos rfl, if_neg q0, if_pos rfl]
    constructor <;> split <;> omega
  · rw [if_neg e]
    unfold pR mR
    rw [if_pos rfl, if_pos rfl]
    omega
theorem Vd.q {R : Hp} {F : List (Addr × Addr)} {ht wt : Addr → Nat} {h N : Nat} {r : Str} {v : V} (x : Vd C Cs R F ht wt h N r "" v) : Vd C Cs R F ht wt h N r "?" v := by
  obtain ⟨kv, ks, f, nl, ft⟩ := x.fv
  refine ⟨⟨kv, ks, f, nl, ?_⟩, x.kd, x.wt_, x.ln⟩
  rw [fitV_base] at ft
  unfold fitV
  rw [if_neg (by decide +kernel), ft]
  rfl
theorem Vd.non {R : Hp} {F : List (Addr × Addr)} {ht wt : Addr → Nat} {h N : Nat} {r : Str} : Vd C Cs R F ht wt h N r "?" .non := by
  refine ⟨⟨.non, [], ⟨.non, fun xs e => by cases e⟩, fun k hk => (by cases hk), ?_⟩, fun c hc => (by cases hc), Nat.zero_le _, fun a xs e => by cases e⟩
  unfold fitV
  rw [if_neg (by decide +kernel)]
  simp [isNon]
theorem Vd.node (Sk : Kits K C Cs) {R : Hp} {F : List (Addr × Addr)} {ht wt : Addr → Nat} {j N : Nat} {r kd : Str} {p d : Addr} (hpd : (p, d) ∈ F) (hp : ∃ dx, R p = some (.ins C dx (nodeFs kd d))) (h1 : ht p = j) (h2 : wt p ≤ N) (hr : r ∈ rules) {b : Bool} (hk : kd ∈ kz b r) (hn : chkN.idxOf? r = none) :
    Vd C Cs R F ht wt (j + 1) N r "" (.ref p) := by
  obtain ⟨dx, hp⟩ := hp
  have kv : KvAt C Cs R (.ref p) (.node kd d) := .node hp
  have ek : kidsV C R (.ref p) = [p] := by
    obtain ⟨q, e1, e2⟩ := nodeOf_yes kv rfl
    cases e1
    rw [kidsV_one Sk kv rfl, e2]
    rfl
  refine ⟨⟨_, [], ⟨kv, fun xs e => by cases e⟩, fun k hk => (by cases hk), ?_⟩, fun c hc => ?_, ?_, LenV.no kv rfl⟩
  · rw [fitV_base]
    unfold fit1
    rw [hn]
    have z := List.all_eq_true.mp kz_grp r hr
    obtain ⟨z1, z2⟩ := Bool.and_eq_true_iff.mp z
    cases b
    · exact decide_eq_true (all_dec z2 kd hk)
    · exact decide_eq_true (all_dec z1 kd hk)
  · rw [ek, List.mem_singleton] at hc
    subst hc
    exact ⟨InF.mem hpd, by omega⟩
  · rw [ek]
    simpa using h2
theorem mark_not {m : Str} (hm : m ∈ marks) : m = "+" ∨ m = "*" ∨ m = "?*" := by
  unfold marks at hm
  rcases List.mem_cons.mp hm with h | hm
  · exact .inr (.inl h)
  rcases List.mem_cons.mp hm with h | hm
  · exact .inl h
  rcases List.mem_cons.mp hm with h | hm
  · exact .inr (.inr h)
  cases hm
theorem ok_he {f fR : Addr} {fd dR : FuncData} (F : Fun K "_law_held" "_law_held" sHe f fd) (bF : Binds K fd pHe []) (mF : mg "_law_held" = some (.ref f)) (Z : Blt mg) (Sk : Kits K C Cs)
    (Y : KDefs P w K mg base fD fP fG fS fE fT dD dP dG dS dE dT) (V0 : HDefs P w K mg base C Cs fW fK fC dW dK dC) {j cl k : Nat} (hj : j < 6) (hk1 : 3 ≤ k) (ih : FnOk P w K mg base CX0 k f fd pHe (spHe j cl C Cs))
    (T : FnOk P w K mg base CX0 k fR dR ["_law_stream", "_law_table_here", "_law_kind", "_law_deep"] (spTr j C Cs)) (bT : Binds K dR ["_law_stream", "_law_table_here", "_law_kind", "_law_deep"] []) (kT : PySem.W.keepIn K (.ref fR) = true) (mT' : mg "_law_tree" = some (.ref fR)) :
    FnOk P w K mg base CX0 (k + 1) f fd pHe (spHe j (cl + 1) C Cs) := by
  refine F.ok scHe (fun vs H Q E h => ?_) (fun cdv A outer s H vs Q E hr h => ?_)
  · obtain ⟨a, c, t, S, wd, r, m, rfl, _⟩ := h
    rfl
  obtain ⟨a, c, t, S, wd, r, m, rfl, hS, hT, hw, hrk, hne, hcnt, q⟩ := h
  have hr1 := hr.mono (show 1 ≤ k by omega)
  have hr2 := hr.mono (show 2 ≤ k by omega)
  have hr3 := hr.mono hk1
  obtain ⟨ch, hc, hc1, hc2, hc3, hin, hlen, hru, hbv⟩ := word_facts hw
  have hz : wd.length ≤ sizeLine := by
    have z : (1000 : Nat) ≤ sizeLine := by decide
    omega
  refine ⟨_, C8.pss_cut (ps_if (pt_cmpR op_in_sign (pe_ix ix_str (pv 2) (pe_un un_neg pe_int) (fun _ _ => rfl)) pe_str (by rfl))
      (pss_cons (ps_set (i := 4) scHe.nd rfl (.inl rfl) (pe_op op_add (pe_callTy call_int1 (by rfl) Z.it (by decide +kernel) (pa_cons (pe_cmpR op_eq (pe_ix ix_str (pv 2) (pe_un un_neg pe_int) (fun _ _ => rfl)) pe_str (nomark _)) pa_nil))
          (pe_op op_mul (pe_call Y.D hr1 rfl Y.mD Y.kD Y.bD .nil pass0 (pa_cons (pv 0) (pa_cons pe_int pa_nil))) (pe_callTy call_int1 (by rfl) Z.it (by decide +kernel) (pa_cons (pe_cmpR op_gt (pv 3) pe_int (nomark _)) pa_nil)))))
      (pss_one (ps_ret (pe_lc (own := [("_law_k", 7)]) (g := gName 7) (tt := tYes) rfl scHe.nd (pi_range1 rfl Z.rg (pa_cons (pv 4) pa_nil))
          (blkOk_by (own := [("_law_k", 7)]) (N := nHe) (sc := defScope sHe) (by decide +kernel)) (fun _ _ _ _ _ => pg_name (i := 7) scHe.nd rfl (.inl rfl)) (fun _ _ _ _ _ => pts_nil)
          (fun _ _ _ _ _ => pe_call ih hr rfl mF F.kp bF .nil pass0 (pa_cons (pv 0) (pa_cons (pv 1) (pa_cons (pe_slice sl_str (pv 2) po_none (po_some (pe_un un_neg pe_int))) (pa_cons (pv 3) pa_nil))))))))) pss_nil)
    (C8.pss_cut (ps_if (pt_cmpR op_eq (pe_ix ix_str (pv 2) (pe_un un_neg pe_int) (fun _ _ => rfl)) pe_str (nomark _))
      (C8.pss_cut (ps_if (PW.pt (pw_or (pt_cmpR op_eq (pv 3) pe_int (nomark _)) (pw_or1 (pt_cmpR op_eq (pe_call Y.D hr1 rfl Y.mD Y.kD Y.bD .nil pass0 (pa_cons (pv 0) (pa_cons pe_int pa_nil))) pe_int (nomark _))))) (pss_one (ps_ret pe_non)) pss_nil)
        (pss_one (ps_ret (pe_call ih hr rfl mF F.kp bF .nil pass0 (pa_cons (pv 0) (pa_cons (pv 1) (pa_cons (pe_slice sl_str (pv 2) po_none (po_some (pe_un un_neg pe_int))) (pa_cons (pv 3) pa_nil)))))))) pss_nil)
    (pss_cons (ps_set (i := 5) scHe.nd rfl (.inl rfl) (pe_disp (pps_cons pe_str pe_str (pps_cons pe_str pe_str (pps_cons pe_str pe_str (pps_cons pe_str pe_int (pps_cons pe_str pe_int (pps_cons pe_str pe_int (pps_cons pe_str pe_non (pps_cons pe_str pe_int pps_nil)))))))) (by rfl) (by rfl) (fun z => by cases z) (by decide)))
    (C8.pss_cut (ps_if (pt_cmp (pc_dnotin (hu_of hr) (pv 2) (pv 5))) (pss_one (ps_ret (pe_call T hr rfl mT' kT bT .nil pass0 (pa_cons (pv 0) (pa_cons (pv 1) (pa_cons (pe_call V0.F hr3 rfl V0.mF V0.kF V0.bF .nil pass0 (pa_cons (pv 0) (pa_cons (pv 2) (pa_cons (pv 3) pa_nil)))) (pa_cons (pe_op op_sub (pv 3) pe_int) pa_nil))))))) pss_nil)
    (C8.pss_cut (ps_if (pt_cmpR op_eq (pv 2) pe_str (nomark _)) (pss_one (ps_ret (pe_call V0.C' hr3 rfl V0.mC V0.kC V0.bC .nil pass0 (pa_cons (pv 0) pa_nil)))) pss_nil)
    (C8.pss_cut (ps_if (pt_cmpR op_eq (pv 2) pe_str (nomark _)) (pss_one (ps_ret (pe_call V0.W hr3 rfl V0.mW V0.kW V0.bW .nil pass0 (pa_cons (pv 0) pa_nil)))) pss_nil)
    (C8.pss_cut (ps_if (pt_cmpR op_in_seq (pv 2) (pe_tup (pa_cons pe_str (pa_cons pe_str pa_nil))) (by rfl))
      (pss_cons (ps_setLc (i := 6) (own := [("_law_k", 7)]) (g := gName 7) (tt := tYes) rfl scHe.nd rfl rfl (sw_true rfl rfl rfl (by decide +kernel)) (pi_range1 rfl Z.rg (pa_cons (pe_op op_add pe_int (pe_call Y.D hr1 rfl Y.mD Y.kD Y.bD .nil pass0 (pa_cons (pv 0) (pa_cons pe_int pa_nil)))) pa_nil))
          (blkOk_by (own := [("_law_k", 7)]) (N := nHe) (sc := defScope sHe) (by decide +kernel)) (fun _ _ _ _ _ => pg_name (i := 7) scHe.nd rfl (.inl rfl)) (fun _ _ _ _ _ => pts_nil)
          (fun _ _ _ _ _ => pe_call V0.W hr3 rfl V0.mW V0.kW V0.bW .nil pass0 (pa_cons (pv 0) pa_nil)))
      (pss_one (ps_ret (pe_ifExp (PW.pt (pw_and (pt_cmpR op_eq (pv 2) pe_str (nomark _)) (pw_and1 (pt_cmpR op_eq (pe_call Y.D hr1 rfl Y.mD Y.kD Y.bD .nil pass0 (pa_cons (pv 0) (pa_cons pe_int pa_nil))) pe_int (nomark _))))) pe_str (pe_join pe_str (pv 6)))))) pss_nil)
    (pss_one (ps_ret (pe_call Y.O hr2 rfl Y.mO Y.kO Y.bO .nil pass0 (pa_cons (pv 0) (pa_cons (pe_dget (hu_of hr) (pe_disp (pps_cons pe_str (pe_lst (pa_cons pe_int (pa_cons pe_int (pa_cons pe_int pa_nil)))) (pps_cons pe_str (pe_lst (pa_cons pe_int (pa_cons pe_int pa_nil)))
        (pps_cons pe_str (pe_lst (pa_cons (pe_un un_neg pe_int) (pa_cons pe_int (pa_cons pe_int (pa_cons pe_int pa_nil))))) (pps_cons pe_str (pe_lst (pa_cons pe_non (pa_cons pe_bl (pa_cons pe_bl pa_nil)))) pps_nil))))
          (by rfl) (by rfl) (fun z => by cases z) (by decide)) (pv 2) (fun _ _ => rfl)) pa_nil))))))))))), ?_⟩
  have c0 : S.cnt < 1000000 := by omega
  refine ⟨fun σ H2 => σ = [some (.ref a), some (.ref t), some (.str wd), some (.int (DD j : Nat)), none, none, none, none] ∧ H2 = H ∧ m ∉ marks, ?_, ?_⟩
  · refine ⟨_, rfl, _, rfl, wd, _, ch, rfl, rfl, hz, hc, ch, _, rfl, rfl, _, rfl, ?_⟩
    rw [hc1]
    by_cases hm : m ∈ marks
    · rw [decide_eq_true hm]
      refine iteT ?_
      obtain ⟨r1, r2, r3, r4⟩ := marks_rank hm
      have ep : pR j m = 1 + manyR j m * (1 + cB j) := by unfold pR; rw [if_neg r2, if_neg r4]
      have em : mR j m = manyR j m * mT j := by unfold mR; rw [if_neg r2, if_neg r4]
      refine ⟨_, rfl, _, rfl, wd, _, ch, rfl, rfl, hz, hc, rfl, .inr ⟨_, rfl, ?_⟩⟩
      refine ⟨_, rfl, a, c, S, 3, rfl, hS, c0, by decide, by decide, fun H1 S1 x h1 hx1 k1 x0 x1 => ?_⟩
      refine ⟨_, rfl, _, _, rfl, rfl, .inr ⟨_, rfl, ?_⟩⟩
      have eb : decide (((DD j : Nat) : Int) > 0) = bb j := by
        unfold bb DD
        exact decide_eq_decide.mpr (by omega)
      rw [str_dec, hc2, eb]
      obtain ⟨u, hu⟩ : ∃ u : Int, (if decide (m = "+") = true then (1 : Int) else 0) = u := ⟨_, rfl⟩
      obtain ⟨y, hy⟩ : ∃ y : Int, (if bb j = true then (1 : Int) else 0) = y := ⟨_, rfl⟩
      rw [hu, hy]
      have hu1 : u = ((if m = "+" then 1 else 0 : Nat) : Int) := by
        rw [← hu]
        by_cases e : m = "+"
        · rw [decide_eq_true e, if_pos rfl, if_pos e]; rfl
        · rw [decide_eq_false e, if_neg (by decide), if_neg e]; rfl
      have hy1 : y = 0 ∧ bb j = false ∨ y = 1 ∧ bb j = true := by
        rw [← hy]
        cases bb j
        · exact .inl ⟨rfl, rfl⟩
        · exact .inr ⟨rfl, rfl⟩
      obtain ⟨n, hn, hn1, hn2, hn3⟩ : ∃ n : Nat, u + x * y = (n : Int) ∧ n ≤ manyR j m ∧ (m = "+" → 0 < n) ∧ (0 < n → bb j = true ∨ m = "+") := by
        have hx3 : x = 0 ∨ x = 1 ∨ x = 2 := by omega
        have z : 0 ≤ u + x * y ∧ u + x * y ≤ ((manyR j m : Nat) : Int) ∧ (m = "+" → 0 < u + x * y) ∧ (0 < u + x * y → bb j = true ∨ m = "+") := by
          unfold manyR
          by_cases e : m = "+"
          · rw [if_pos e] at hu1 ⊢
            rcases hy1 with ⟨y1, y2⟩ | ⟨y1, y2⟩
            · rw [y2, y1, hu1]
              refine ⟨by omega, by simp, fun _ => by omega, fun _ => .inr e⟩
            · rw [y2, y1, hu1]
              refine ⟨by omega, by simp; omega, fun _ => by omega, fun _ => .inl rfl⟩
          · rw [if_neg e] at hu1 ⊢
            rcases hy1 with ⟨y1, y2⟩ | ⟨y1, y2⟩
            · rw [y2, y1, hu1]
              refine ⟨by omega, by simp, fun z => absurd z e, fun z => by omega⟩
            · rw [y2, y1, hu1]
              refine ⟨by omega, by simp; omega, fun z => absurd z e, fun _ => .inl rfl⟩
        exact ⟨(u + x * y).toNat, by omega, by omega, fun e => by have := z.2.2.1 e; omega, fun h => z.2.2.2 (by omega)⟩
      have hm3 : manyR j m ≤ 3 := by
        unfold manyR
        split <;> split <;> omega
      refine ⟨_, _, rfl, rfl, .inl ⟨by omega, by omega⟩, _, _, rfl, rfl, _, rfl, _, rfl, by rw [hn]; omega, by rw [hn]; omega, fun D nD => ?_⟩
      have hnn : (u + x * y).toNat = n := by omega
      obtain ⟨le1, le2⟩ := inner_le j m
      have cn1 : ∀ i, i ≤ n → i * (1 + cB j) ≤ manyR j m * (1 + cB j) := fun i hi => Nat.mul_le_mul_right _ (by omega)
      refine lc_range (lo := 0) (n := (u + x * y).toNat) (fun i H3 => ∃ (S3 : Stm) (xs : List V) (F : List (Addr × Addr)) (ht wt : Addr → Nat), Acc C Cs a c D S1 H1 (1 + cB j) (mT j) (j + 1) r m i H3 S3 xs F ht wt) ⟨_, _, _, _, _, .start h1 nD⟩ ?_ ?_
      · rintro i H3 hi ⟨S3, xs, F', ht, wt, A⟩
        rw [hnn] at hi
        have hcn := A.cn
        have hci := cn1 (i + 1) (by omega)
        have hcs : (i + 1) * (1 + cB j) = i * (1 + cB j) + (1 + cB j) := Nat.succ_mul _ _
        refine ⟨rfl, ?_⟩
        unfold tYes
        refine iteT ?_
        refine ⟨_, rfl, _, rfl, _, rfl, _, rfl, _, rfl, wd, rfl, hz, _, rfl, ?_⟩
        refine ⟨a, c, t, S3, cutW wd, r, inner m, rfl, A.st, hT.kept (k1.trans A.kp), hin r2, by rw [r1] at hrk; omega, ?_, by omega, fun H4 S4 v F2 ht2 wt2 h4 hc4 k4 W4 V4 => ?_⟩
        · refine need_up hne ?_
          rcases hn3 (by omega) with z | z
          · exact .inl z
          · exact .inr (by rw [z]; decide +kernel)
        · obtain ⟨hD, F3, ht3, wt3, A3⟩ := A.step Sk h1 nD hm h4 (Int.le_trans hc4 (by omega)) k4 W4 (V4.le (Nat.le_refl _) le2)
          have hl := A.len
          have z : (1000 : Nat) < sizeLine := by decide
          exact ⟨xs, hD, by omega, S4, _, F3, ht3, wt3, A3⟩
      · rintro H3 ⟨S3, xs, F', ht, wt, A⟩
        rw [hnn] at A
        have hcn := A.cn
        have hci := cn1 n (Nat.le_refl _)
        obtain ⟨W, V1⟩ := A.out Sk h1 nD k1 hm (by omega) hn2
        exact q H3 S3 _ F' ht wt A.st (by omega) (k1.trans A.kp) W (V1.le (Nat.le_refl _) (by rw [em]; exact Nat.mul_le_mul_right _ hn1))
    · rw [decide_eq_false hm]
      exact iteF ⟨rfl, rfl, hm⟩
  rintro σ H2 ⟨rfl, rfl, hm⟩
  refine ⟨fun σ H3 => σ = [some (.ref a), some (.ref t), some (.str wd), some (.int (DD j : Nat)), none, none, none, none] ∧ H3 = H2 ∧ m = "", ?_, ?_⟩
  · refine ⟨_, rfl, _, rfl, wd, _, ch, rfl, rfl, hz, hc, rfl, _, rfl, ?_⟩
    rw [str_dec, hc3]
    by_cases hq : m = "?"
    · rw [decide_eq_true hq]
      refine iteT ?_
      have q0 : ¬ m = "" := by rw [hq]; decide +kernel
      have ei : inner m = "" := by rw [hq]; decide +kernel
      obtain ⟨le1, le2⟩ := inner_le j m
      refine ⟨fun σ H3 => ∃ S3, σ = [some (.ref a), some (.ref t), some (.str wd), some (.int (DD j : Nat)), none, none, none, none] ∧ StmAt H3 a c S3 ∧ S3.cnt ≤ S.cnt + 1 ∧ Kept a c H2 H3 ∧ bb j = true, ?_, ?_⟩
      · refine ⟨_, rfl, rfl, _, rfl, ?_⟩
        refine ite2 (fun ce => ?_) (fun ce => ?_)
        · refine iteT ?_
          refine q H2 S .non [] (fun _ => 0) (fun _ => 0) hS (by omega) (Kept.refl _ _ _) Drn.nil ?_
          rw [hq]
          exact Vd.non
        · have hb : bb j = true := by
            have z : ¬ V.int ((DD j : Nat) : Int) = V.int 0 := fun z => ce (decide_eq_true z)
            have z2 : DD j ≠ 0 := fun y => z (by rw [y]; rfl)
            unfold bb
            unfold DD at z2
            exact decide_eq_true (by omega)
          have ep : pR j m = 1 + cB j := by unfold pR; rw [if_neg q0, if_pos hq, hb, if_pos rfl]
          refine ⟨_, rfl, a, c, S, 2, rfl, hS, c0, by decide, by decide, fun H1 S1 x h1 hx1 k1 x0 x1 => ⟨rfl, _, rfl, ?_⟩⟩
          refine ite2 (fun ce => ?_) (fun ce => ?_)
          · refine q H1 S1 .non [] (fun _ => 0) (fun _ => 0) h1 (by omega) k1 Drn.nil ?_
            rw [hq]
            exact Vd.non
          · exact ⟨S1, rfl, h1, hx1, k1, hb⟩
      · rintro σ H3 ⟨S3, rfl, h3, hc3', k3, hb⟩
        have ep : pR j m = 1 + cB j := by unfold pR; rw [if_neg q0, if_pos hq, hb, if_pos rfl]
        have em : mR j m = mT j := by unfold mR; rw [if_neg q0, if_pos hq, hb, if_pos rfl]
        have e0 : pR j "" = cB j := by unfold pR; rw [if_pos rfl]
        have e1 : mR j "" = mT j := by unfold mR; rw [if_pos rfl]
        refine ⟨_, rfl, _, rfl, _, rfl, _, rfl, _, rfl, wd, rfl, hz, _, rfl, ?_⟩
        refine ⟨a, c, t, S3, cutW wd, r, "", rfl, h3, hT.kept k3, ei ▸ hin q0, ?_, need_up hne (.inl hb), by rw [e0]; omega, fun H4 S4 v F2 ht2 wt2 h4 hc4 k4 W4 V4 => ?_⟩
        · have z1 : rank m = 1 := by rw [hq]; decide +kernel
          have z2 : rank "" = 0 := by decide +kernel
          omega
        · rw [e0] at hc4
          have s : Same (res (was H3) H4) (res (was H2) H4) := res_up fun b o n e => ⟨fun z => n (k3.has h3.a0 h3.c0 z), e⟩
          refine q H4 S4 v F2 ht2 wt2 h4 (by omega) (k3.trans k4) (W4.up Sk s) ?_
          rw [em, hq]
          rw [e1] at V4
          exact (V4.up Sk s fun q hq => ⟨hq, rfl, rfl⟩).q
    · rw [decide_eq_false hq]
      exact iteF ⟨rfl, rfl, (mark_cases hw).resolve_right fun z => z.elim hq hm⟩
  rintro σ H3 ⟨rfl, rfl, hm0⟩
  subst hm0
  have epr : pR j "" = cB j := by unfold pR; rw [if_pos rfl]
  have emr : mR j "" = mT j := by unfold mR; rw [if_pos rfl]
  rw [epr, emr] at q
  rw [epr] at hcnt
  have cb1 : 5 ≤ cB j := Nat.le_max_left _ _
  have cb2 : 2 + cT j ≤ cB j := Nat.le_max_right _ _
  let rows8 : List (Str × V) := [("N", .str "a"), ("D", .str "a.b"), ("A", .str "a"), ("I", .int 2), ("01", .int 1), ("R", .int 114), ("L", .non), ("V", .int 0)]
  let kv8 : List (Key × V) := rows8.map fun p => ((Sum.inr p.1 : Key), p.2)
  refine fun p np => ⟨upd_same, kv8, rfl, by show 8 ≤ 15; decide, ?_⟩
  have hp4 : (upd (upd H3 p (.dK [])) p (.dK (mergeK [] kv8))) p = some (.dK kv8) := upd_same
  have s4 : Same H3 (upd (upd H3 p (.dK [])) p (.dK (mergeK [] kv8))) := fun b o e => by
    have n := ne_of_none e np
    rw [upd_ne n, upd_ne n]
    exact e
  generalize upd (upd H3 p (.dK [])) p (.dK (mergeK [] kv8)) = H4 at hp4 s4 ⊢
  have hS4 := hS.keep s4
  have hT4 := hT.kept (Kept.same s4)
  have eb : decide (0 < ((DD j : Nat) : Int)) = bb j := by
    unfold bb DD
    exact decide_eq_decide.mpr (by omega)
  refine ⟨fun σ H5 => σ = [some (.ref a), some (.ref t), some (.str wd), some (.int (DD j : Nat)), none, some (.ref p), none, none] ∧ H5 = H4 ∧ wd ∈ valW, ?_, ?_⟩
  · refine ⟨_, rfl, _, rfl, p, _, rfl, DGet.k (k := Sum.inr wd) hp4, ?_⟩
    have e8 : (valV kv8 (Sum.inr wd)).isSome = decide (wd ∈ valW) := valS_some wd rows8
    rw [e8]
    by_cases hv : wd ∈ valW
    · rw [decide_eq_true hv]
      exact ⟨_, rfl, iteF ⟨rfl, rfl, hv⟩⟩
    · rw [decide_eq_false hv]
      refine ⟨_, rfl, iteT ?_⟩
      have hn0 := (base_facts hw hv).1
      refine ⟨_, rfl, _, rfl, _, rfl, _, rfl, _, rfl, ?_⟩
      refine ⟨a, c, S, wd, r, ((DD j : Nat) : Int), rfl, hS4, by omega, hw, hv, fun H5 S5 kd h5 hc5 k5 hkz => ?_⟩
      refine ⟨_, rfl, _, _, rfl, rfl, ?_⟩
      have k45 := (Kept.same s4).trans k5
      rw [eb] at hkz
      refine ⟨a, c, t, S5, kd, ((DD j : Nat) : Int) - 1, rfl, h5, hT.kept k45, need_G hne kd hkz, by unfold DD; omega, by unfold DD; omega, by unfold DD; omega, by omega, fun H6 S6 p6 d6 F6 ht6 wt6 h6 hc6 k6 W6 hpd hpi hht hwt => ?_⟩
      have s : Same (res (was H5) H6) (res (was H3) H6) := res_up fun b o n e => ⟨fun z => n (k45.has h5.a0 h5.c0 z), e⟩
      exact q H6 S6 (.ref p6) F6 ht6 wt6 h6 (by omega) (k45.trans k6) (W6.up Sk s) (Vd.node Sk hpd (let ⟨dx, e⟩ := hpi; ⟨dx, s _ _ e⟩) hht hwt hru hkz hn0)
  rintro σ H5 ⟨rfl, rfl, hv⟩
  obtain ⟨vN, vD, vA, vI, v01, vR, vL, vV⟩ := val_rules
  have rOf : ∀ {x y : Str}, WT.lookup x = some (y, ("" : Str)) → wd = x → r = y := fun {x y} h e => by
    rw [e, h] at hw
    exact (congrArg Prod.fst (Option.some.inj hw)).symm
  have k4 : Kept a c H3 H5 := Kept.same s4
  have fin : ∀ (H' : Hp) (S' : Stm) (v : V), StmAt H' a c S' → S'.cnt ≤ S.cnt + 5 → Kept a c H5 H' → Pln C Cs (res (was H5) H') r v → Q v H' := fun H' S' v h' hc' k' hp => by
    have s : Same (res (was H5) H') (res (was H3) H') := res_up fun b o n e => ⟨fun z => n (k4.has hS4.a0 hS4.c0 z), e⟩
    obtain ⟨kv, p1, p2, p3, p4⟩ := hp
    exact q H' S' v [] (fun _ => 0) (fun _ => 0) h' (by omega) (k4.trans k') Drn.nil (Pln.vd Sk ⟨kv, p1.up s, p2, p3, p4⟩)
  refine ⟨fun σ H6 => σ = [some (.ref a), some (.ref t), some (.str wd), some (.int (DD j : Nat)), none, some (.ref p), none, none] ∧ H6 = H5 ∧ wd ≠ "V", ?_, ?_⟩
  · refine ⟨_, rfl, rfl, _, rfl, ?_⟩
    rw [str_dec]
    by_cases hV : wd = "V"
    · rw [decide_eq_true hV]
      refine iteT ?_
      have er := rOf vV hV
      exact ⟨_, rfl, a, c, S, rfl, hS4, by omega, fun H6 S6 v h6 hc6 k6 hp => fin H6 S6 v h6 (by omega) k6 (er ▸ hp)⟩
    · rw [decide_eq_false hV]
      exact iteF ⟨rfl, rfl, hV⟩
  rintro σ H6 ⟨rfl, rfl, hV⟩
  refine ⟨fun σ H7 => σ = [some (.ref a), some (.ref t), some (.str wd), some (.int (DD j : Nat)), none, some (.ref p), none, none] ∧ H7 = H6 ∧ wd ≠ "N", ?_, ?_⟩
  · refine ⟨_, rfl, rfl, _, rfl, ?_⟩
    rw [str_dec]
    by_cases hN : wd = "N"
    · rw [decide_eq_true hN]
      refine iteT ?_
      have er := rOf vN hN
      refine ⟨_, rfl, a, c, S, rfl, hS4, by omega, fun H7 S7 x h7 hc7 k7 hx => fin H7 S7 (.str x) h7 (by omega) k7 ?_⟩
      obtain ⟨z1, z2⟩ := Bool.and_eq_true_iff.mp (List.all_eq_true.mp words_nm x hx)
      exact ⟨_, .str x (Nat.le_trans (of_decide_eq_true z2) (by decide)), by rw [er]; exact z1, rfl, rfl⟩
    · rw [decide_eq_false hN]
      exact iteF ⟨rfl, rfl, hN⟩
  rintro σ H7 ⟨rfl, rfl, hN⟩
  refine ⟨fun σ H8 => σ = [some (.ref a), some (.ref t), some (.str wd), some (.int (DD j : Nat)), none, some (.ref p), none, none] ∧ Same H7 H8 ∧ wd ∉ (["D", "A"] : List Str), ?_, ?_⟩
  · refine ⟨_, rfl, by show 2 ≤ sizeLine; decide, fun t3 nt3 => ⟨t3, [.str "D", .str "A"], rfl, .inr (SqT.of upd_same), rfl, rfl, _, rfl, ?_⟩⟩
    have s8 := same_new (o := .tup [.str "D", .str "A"]) nt3
    generalize upd H7 t3 (.tup [.str "D", .str "A"]) = H8 at s8 ⊢
    rw [if_neg (by decide), show ([.str "D", .str "A"] : List V) = (["D", "A"] : List Str).map V.str from rfl, inV_strs]
    by_cases hDA : wd ∈ (["D", "A"] : List Str)
    · rw [decide_eq_true hDA]
      refine iteT ?_
      have hS8 := hS4.keep s8
      refine ⟨_, rfl, a, c, S, 3, rfl, hS8, c0, by decide, by decide, fun H9 S9 x h9 hx9 k9 x0 x1 => ⟨_, _, rfl, rfl, _, rfl, by omega, by omega, fun D nD => ?_⟩⟩
      refine lc_range (lo := 0) (n := (1 + x).toNat) (fun i H3 => ∃ (S3 : Stm) (ws : List Str), StmAt H3 a c S3 ∧ S3.cnt ≤ S9.cnt + (i : Nat) ∧ Kept a c H9 H3 ∧ H3 D = some (.lst (ws.map V.str)) ∧ ws.length = i ∧ ∀ x ∈ ws, x ∈ words)
        ⟨S9, [], h9.keep (same_new nD), by simp, Kept.same (same_new nD), upd_same, rfl, fun x hx => by cases hx⟩ ?_ ?_
      · rintro i H10 hi ⟨S10, ws, h10, hc10, k10, hD, hl, hws⟩
        have hi3 : i < 3 := by omega
        refine ⟨rfl, ?_⟩
        unfold tYes
        refine iteT ?_
        have Da : D ≠ a := fun z => h9.a0 (z ▸ nD)
        have Dc : D ≠ c := fun z => h9.c0 (z ▸ nD)
        refine ⟨_, rfl, a, c, S10, rfl, h10, by omega, fun H11 S11 x h11 hc11 k11 hx => ⟨ws.map V.str, k11 _ _ Da Dc hD, ?_, S11, ws ++ [x], ?_, by omega, fun b o n1 n2 e => ?_, by rw [upd_same, List.map_append]; rfl, by rw [List.length_append, hl]; rfl, fun y hy => ?_⟩⟩
        · have z : (1000 : Nat) < sizeLine := by decide
          rw [List.length_map]
          omega
        · exact ⟨by rw [upd_ne Da.symm]; exact h11.lst, by rw [upd_ne Dc.symm]; exact h11.cel, h11.ne, h11.len, h11.cur0, h11.cnt0, h11.mix0, h11.mix1⟩
        · rw [upd_ne (ne_of_none e nD)]
          exact k11 b o n1 n2 (k10 b o n1 n2 e)
        · rcases List.mem_append.mp hy with hy | hy
          · exact hws y hy
          · rw [List.mem_singleton.mp hy]
            exact hx
      · rintro H10 ⟨S10, ws, h10, hc10, k10, hD, hl, hws⟩
        have Da : D ≠ a := fun z => h9.a0 (z ▸ nD)
        have Dc : D ≠ c := fun z => h9.c0 (z ▸ nD)
        have hd := dots (by omega) (by omega) hws
        unfold dotOk at hd
        simp only [Bool.and_eq_true, decide_eq_true_eq] at hd
        obtain ⟨⟨⟨d1, d2⟩, d3⟩, d4⟩ := hd
        have k50 : Kept a c H7 H10 := ((Kept.same s8).trans k9).trans k10
        have plD : ∀ R : Hp, Pln C Cs R r (.str (Txt.join "." ws)) := fun R => by
          rcases List.mem_cons.mp hDA with e | e
          · exact ⟨_, .str _ d3, by rw [rOf vD e]; exact d1, rfl, rfl⟩
          · exact ⟨_, .str _ d3, by rw [rOf vA (List.mem_singleton.mp e)]; exact d2, rfl, rfl⟩
        refine ⟨_, rfl, rfl, _, rfl, ?_⟩
        rw [str_dec]
        by_cases hA : wd = "A"
        · rw [decide_eq_true hA]
          refine iteT ?_
          refine ⟨_, rfl, a, c, S10, 5, rfl, h10, by omega, by decide, by decide, fun H11 S11 y h11 hy11 k11 y0 y1 => ⟨rfl, _, rfl, ?_⟩⟩
          have k51 := k50.trans k11
          refine ite2 (fun ce => ?_) (fun ce => ?_)
          · refine fin H11 S11 (.str "*") h11 (by omega) k51 ⟨_, .str _ (by decide +kernel), ?_, rfl, rfl⟩
            rw [rOf vA hA]
            decide +kernel
          · exact ⟨⟨_, rfl⟩, _, rfl, ".", D, ws, rfl, rfl, .inl (SqL.of (k11 _ _ Da Dc hD)), d4, fin H11 S11 _ h11 (by omega) k51 (plD _)⟩
        · rw [decide_eq_false hA]
          refine iteF ?_
          exact ⟨⟨_, rfl⟩, _, rfl, ".", D, ws, rfl, rfl, .inl (SqL.of hD), d4, fin H10 S10 _ h10 (by omega) k50 (plD _)⟩
    · rw [decide_eq_false hDA]
      exact iteF ⟨rfl, s8, hDA⟩
  rintro σ H8 ⟨rfl, s8, hDA⟩
  have hS8 := hS4.keep s8
  let L1 : List V := [.int 0, .int 1, .int 5]
  let L2 : List V := [.int 0, .int 1]
  let L3 : List V := [.int (-1), .int 97, .int 114, .int 115]
  let L4 : List V := [.non, .bl true, .bl false]
  refine ⟨_, rfl, fun p2 np2 => ⟨by show 3 ≤ sizeLine; decide, fun l1 nl1 => ⟨by show 2 ≤ sizeLine; decide, fun l2 nl2 => ⟨_, rfl, by show 4 ≤ sizeLine; decide, fun l3 nl3 => ⟨by show 3 ≤ sizeLine; decide, fun l4 nl4 => ?_⟩⟩⟩⟩⟩
  have hp0 : (upd H8 p2 (.dK [])) p2 = some (.dK []) := upd_same
  have t1 := same_new (o := .dK []) np2
  have t2 := same_new (o := .lst L1) nl1
  have t3 := same_new (o := .lst L2) nl2
  have t4 := same_new (o := .lst L3) nl3
  have t5 := same_new (o := .lst L4) nl4
  have hp5 := t5 _ _ (t4 _ _ (t3 _ _ (t2 _ _ hp0)))
  have h1 := t5 _ _ (t4 _ _ (t3 _ _ (upd_same (H := upd H8 p2 (.dK [])) (a := l1) (o := .lst L1))))
  have h2 := t5 _ _ (t4 _ _ (upd_same (H := upd (upd H8 p2 (.dK [])) l1 (.lst L1)) (a := l2) (o := .lst L2)))
  have h3 := t5 _ _ (upd_same (H := upd (upd (upd H8 p2 (.dK [])) l1 (.lst L1)) l2 (.lst L2)) (a := l3) (o := .lst L3))
  have h4 : (upd (upd (upd (upd (upd H8 p2 (.dK [])) l1 (.lst L1)) l2 (.lst L2)) l3 (.lst L3)) l4 (.lst L4)) l4 = some (.lst L4) := upd_same
  have s9 : Same H8 (upd (upd (upd (upd (upd H8 p2 (.dK [])) l1 (.lst L1)) l2 (.lst L2)) l3 (.lst L3)) l4 (.lst L4)) := (((t1.trans t2).trans t3).trans t4).trans t5
  have a1 : H8 l1 = none := t1.free nl1
  have a2 : H8 l2 = none := (t1.trans t2).free nl2
  have a3 : H8 l3 = none := ((t1.trans t2).trans t3).free nl3
  have a4 : H8 l4 = none := (((t1.trans t2).trans t3).trans t4).free nl4
  clear t1 t2 t3 t4 t5
  obtain ⟨H9, e9⟩ : ∃ H9, upd (upd (upd (upd (upd H8 p2 (.dK [])) l1 (.lst L1)) l2 (.lst L2)) l3 (.lst L3)) l4 (.lst L4) = H9 := ⟨_, rfl⟩
  rw [e9] at hp5 h1 h2 h3 h4 s9
  let kv4 : List (Key × V) := [(.inr "I", .ref l1), (.inr "01", .ref l2), (.inr "R", .ref l3), (.inr "L", .ref l4)]
  refine ⟨e9 ▸ hp5, kv4, rfl, by show 4 ≤ 15; decide, ?_⟩
  have e10 : upd (upd (upd (upd (upd (upd H8 p2 (.dK [])) l1 (.lst L1)) l2 (.lst L2)) l3 (.lst L3)) l4 (.lst L4)) p2 (.dK (mergeK [] kv4)) = upd H9 p2 (.dK (mergeK [] kv4)) := by rw [e9]
  have hpk : (upd H9 p2 (.dK (mergeK [] kv4))) p2 = some (.dK kv4) := upd_same
  have k6 : ∀ b o, b ≠ p2 → H9 b = some o → (upd H9 p2 (.dK (mergeK [] kv4))) b = some o := fun b o n e => by rw [upd_ne n]; exact e
  have n1 : l1 ≠ p2 := fun z => by rw [z, hp5] at h1; cases h1
  have n2 : l2 ≠ p2 := fun z => by rw [z, hp5] at h2; cases h2
  have n3 : l3 ≠ p2 := fun z => by rw [z, hp5] at h3; cases h3
  have n4 : l4 ≠ p2 := fun z => by rw [z, hp5] at h4; cases h4
  have g1 := k6 _ _ n1 h1
  have g2 := k6 _ _ n2 h2
  have g3 := k6 _ _ n3 h3
  have g4 := k6 _ _ n4 h4
  have s10 : Same H8 (upd H9 p2 (.dK (mergeK [] kv4))) := fun b o e => k6 b o (ne_of_none e np2) (s9 b o e)
  rw [e10]
  generalize upd H9 p2 (.dK (mergeK [] kv4)) = H10 at hpk g1 g2 g3 g4 s10 ⊢
  have hS10 := hS8.keep s10
  have k10 : Kept a c H7 H10 := Kept.same (s8.trans s10)
  have pick : ∀ (l : Addr) (L : List V), H10 l = some (.lst L) → H8 l = none → 0 < L.length → L.length < 10 → (∀ x ∈ L, ∀ R : Hp, Pln C Cs R r x) → spPick K [.ref a, .ref l] H10 Q E := fun l L hl nl h0 h10 hL => by
    have la : l ≠ a := fun z => hS8.a0 (z ▸ nl)
    have lc : l ≠ c := fun z => hS8.c0 (z ▸ nl)
    exact ⟨a, c, l, S, L, rfl, hS10, c0, hl, la, lc, h0, by omega, fun H11 S11 x h11 hc11 k11 hx => fin H11 S11 x h11 (by omega) (k10.trans k11) (hL x hx _)⟩
  have dg : ∀ {x : Str} {u : V}, wd = x → valV kv4 (Sum.inr x) = some u → DGet H10 p2 (.str wd) (some u) := fun {x u} e h => by
    rw [← h, e]
    exact DGet.k (k := Sum.inr x) hpk
  refine ⟨_, rfl, ?_⟩
  have hv2 : wd = "I" ∨ wd = "01" ∨ wd = "R" ∨ wd = "L" := by
    unfold valW at hv
    simp only [List.mem_cons, List.not_mem_nil, or_false] at hv hDA
    rcases hv with h | h | h | h | h | h | h | h
    · exact absurd h hN
    · exact absurd (.inl h) hDA
    · exact absurd (.inr h) hDA
    · exact .inl h
    · exact .inr (.inl h)
    · exact .inr (.inr (.inl h))
    · exact .inr (.inr (.inr h))
    · exact absurd h hV
  rcases hv2 with e | e | e | e
  · have er := rOf vI e
    refine ⟨p2, .ref l1, rfl, dg e rfl, pick l1 L1 g1 a1 (by decide) (by decide) fun x hx R => ?_⟩
    rw [er]
    simp only [L1, List.mem_cons, List.not_mem_nil, or_false] at hx
    rcases hx with rfl | rfl | rfl <;> exact ⟨_, .int _, by decide +kernel, rfl, rfl⟩
  · have er := rOf v01 e
    refine ⟨p2, .ref l2, rfl, dg e rfl, pick l2 L2 g2 a2 (by decide) (by decide) fun x hx R => ?_⟩
    rw [er]
    simp only [L2, List.mem_cons, List.not_mem_nil, or_false] at hx
    rcases hx with rfl | rfl <;> exact ⟨_, .int _, by decide +kernel, rfl, rfl⟩
  · have er := rOf vR e
    refine ⟨p2, .ref l3, rfl, dg e rfl, pick l3 L3 g3 a3 (by decide) (by decide) fun x hx R => ?_⟩
    rw [er]
    simp only [L3, List.mem_cons, List.not_mem_nil, or_false] at hx
    rcases hx with rfl | rfl | rfl | rfl <;> exact ⟨_, .int _, by decide +kernel, rfl, rfl⟩
  · have er := rOf vL e
    refine ⟨p2, .ref l4, rfl, dg e rfl, pick l4 L4 g4 a4 (by decide) (by decide) fun x hx R => ?_⟩
    rw [er]
    simp only [L4, List.mem_cons, List.not_mem_nil, or_false] at hx
    rcases hx with rfl | rfl | rfl
    · exact ⟨_, .non, by decide +kernel, rfl, rfl⟩
    · exact ⟨_, .bl _, by decide +kernel, rfl, rfl⟩
    · exact ⟨_, .bl _, by decide +kernel, rfl, rfl⟩
end
end K5

namespace K5
open PySem PySem.Spec PyProof.Rows L2 StX RZ TL
/-! ### a drawn tree -/
abbrev sTr : Stmt := topS 45
abbrev nTr : List Str := ["_law_stream", "_law_table_here", "_law_kind", "_law_deep", "_law_node", "_law_name", "_law_held_here"]
abbrev pTr : List Str := ["_law_stream", "_law_table_here", "_law_kind", "_law_deep"]
theorem scTr : FnScope nTr pTr (defScope sTr) := ⟨rfl, rfl, rfl, by decide +kernel, rfl, by decide +kernel, by decide +kernel⟩
theorem fkv_set : ∀ {ns : List Str} {us : List V} {i : Nat} {nm : Str} {v : V}, ns.Nodup → us.length = ns.length → ns[i]? = some nm → putK (fkv ns us) (.inr nm) v = fkv ns (us.set i v)
  | [], us, i, nm, v, _, _, h => by simp at h
  | n :: ns, [], i, nm, v, _, h, _ => by cases h
  | n :: ns, u :: us, 0, nm, v, hn, hl, h => by
    cases h
    show putK ((Sum.inr n, u) :: fkv ns us) (Sum.inr n) v = (Sum.inr n, v) :: fkv ns us
    have n2 := List.nodup_cons.mp hn
    have e : (fkv ns us).map (fun kv => if kv.1 = (Sum.inr n : Key) then (kv.1, v) else kv) = fkv ns us := by
      rw [List.map_congr_left (g := id) fun p hp => ?_, List.map_id]
      obtain ⟨m, hm, e⟩ := zip_keys p hp
      have ne : ¬ p.1 = (Sum.inr n : Key) := fun z => n2.1 (by rw [e] at z; exact Sum.inr.inj z ▸ hm)
      rw [if_neg ne]
      rfl
    simp [putK, e]
  | n :: ns, u :: us, i + 1, nm, v, hn, hl, h => by
    have n2 := List.nodup_cons.mp hn
    have ne : n ≠ nm := fun z => n2.1 (z ▸ List.mem_of_getElem? (show ns[i]? = some nm from h))
    have ih := fkv_set (us := us) (i := i) (v := v) n2.2 (Nat.succ.inj hl) h
    show putK ((Sum.inr n, u) :: fkv ns us) (Sum.inr nm) v = (Sum.inr n, u) :: fkv ns (us.set i v)
    rw [← ih]
    have hne : ¬ (Sum.inr n : Key) = Sum.inr nm := fun z => ne (Sum.inr.inj z)
    unfold putK
    rw [List.any_cons, decide_eq_false hne, Bool.false_or, List.map_cons, if_neg hne]
    split <;> rfl
theorem sum_kids {f : Str → Nat} {g : V → Nat} : ∀ {us : List V} {rs : List (Str × Str × Str)}, us.length = rs.length → (∀ (n : Nat) v r, us[n]? = some v → rs[n]? = some r → g v ≤ f r.2.2) → (us.map g).sum ≤ sumR f rs
  | [], [], _, _ => Nat.le_refl _
  | u :: us, r :: rs, h, z => by
    have ih := sum_kids (us := us) (rs := rs) (f := f) (g := g) (Nat.succ.inj h) fun n v r' g1 g2 => z (n + 1) v r' g1 g2
    have z0 := z 0 u r rfl rfl
    have ih' : (us.map g).sum ≤ (rs.map fun r => f r.2.2).sum := ih
    show g u + (us.map g).sum ≤ (List.map (fun r => f r.2.2) (r :: rs)).sum
    rw [List.map_cons, List.sum_cons]
    omega
  | [], _ :: _, h, _ => by cases h
  | _ :: _, [], h, _ => by cases h
theorem flat_sum {α β : Type} (f : α → List β) (w : β → Nat) : ∀ l : List α, ((l.flatMap f).map w).sum = (l.map fun x => ((f x).map w).sum).sum
  | [] => rfl
  | x :: r => by
    rw [List.flatMap_cons, List.map_append, List.sum_append, flat_sum f w r, List.map_cons, List.sum_cons]
theorem sumR_take (f : Str → Nat) (rs : List (Str × Str × Str)) {i : Nat} {r : Str × Str × Str} (h : rs[i]? = some r) : sumR f (rs.take (i + 1)) = sumR f (rs.take i) + f r.2.2 := by
  unfold sumR
  rw [List.take_succ, h, List.map_append, List.sum_append]
  show _ + ([r].map fun r => f r.2.2).sum = _
  simp
theorem sumR_le (f : Str → Nat) (rs : List (Str × Str × Str)) (i : Nat) : sumR f (rs.take i) ≤ sumR f rs := by
  unfold sumR
  exact sum_take _ _ _
/-- a node that is being filled -/
def wasN (H : Hp) (p d : Addr) : Addr → Prop := fun b => was H b ∨ (b = p ∨ b = d)
structure Fil (C : Addr) (Cs : Nat → Addr) (a c : Addr) (H : Hp) (S : Stm) (j : Nat) (p d : Addr) (k : Str) (rs : List (Str × Str × Str)) (i : Nat) (H3 : Hp) (S3 : Stm) (us : List V) (F : List (Addr × Addr)) (ht wt : Addr → Nat) : Prop where
  st : StmAt H3 a c S3
  cn : S3.cnt ≤ S.cnt + ((sumR (pR j) (rs.take i) : Nat) : Int)
  kp : Kept a c H H3
  hp : ∃ dx, H3 p = some (.ins C dx (nodeFs k d))
  hd : H3 d = some (.dK (fkv (namesOf rs) us))
  len : us.length = rs.length
  w : Drn C Cs (res (wasN H p d) H3) F ht wt
  vs : ∀ (n : Nat) v r, n < i → us[n]? = some v → rs[n]? = some r → Vd C Cs (res (wasN H p d) H3) F ht wt (j + 1) (mR j r.2.2) r.2.1 r.2.2 v
section
variable {K : PySem.W.Frag} {C : Addr} {Cs : Nat → Addr} {a c : Addr} {H : Hp} {S : Stm} {j : Nat} {p d : Addr} {k : Str} {rs : List (Str × Str × Str)} {i : Nat} {H3 : Hp} {S3 : Stm} {us : List V} {F : List (Addr × Addr)} {ht wt : Addr → Nat}
theorem Fil.step (Sk : Kits K C Cs) (hS : StmAt H a c S) (np : H p = none) (nd : H d = none) (row : Fld.lookup k = some rs) (A : Fil C Cs a c H S j p d k rs i H3 S3 us F ht wt) {r : Str × Str × Str} (hr : rs[i]? = some r) {H4 : Hp} {S4 : Stm} {v : V} {F2 : List (Addr × Addr)} {ht2 wt2 : Addr → Nat}
    (h4 : StmAt H4 a c S4) (hc : S4.cnt ≤ S3.cnt + (pR j r.2.2 : Nat)) (k4 : Kept a c H3 H4) (W2 : Drn C Cs (res (was H3) H4) F2 ht2 wt2) (v2 : Vd C Cs (res (was H3) H4) F2 ht2 wt2 (j + 1) (mR j r.2.2) r.2.1 r.2.2 v) :
    (∃ dx, H4 p = some (.ins C dx (nodeFs k d))) ∧ H4 d = some (.dK (fkv (namesOf rs) us)) ∧ ∃ F' ht' wt', Fil C Cs a c H S j p d k rs (i + 1) (upd H4 d (.dK (putK (fkv (namesOf rs) us) (.inr r.1) v))) S4 (us.set i v) F' ht' wt' := by
  have pa : p ≠ a := fun z => hS.a0 (z ▸ np)
  have pc : p ≠ c := fun z => hS.c0 (z ▸ np)
  have da : d ≠ a := fun z => hS.a0 (z ▸ nd)
  have dc : d ≠ c := fun z => hS.c0 (z ▸ nd)
  obtain ⟨dx, hp3⟩ := A.hp
  have hp4 := k4 _ _ pa pc hp3
  have hd4 := k4 _ _ da dc A.hd
  have pd : p ≠ d := fun z => by rw [z, hd4] at hp4; cases hp4
  refine ⟨⟨dx, hp4⟩, hd4, ?_⟩
  have wa : was H a := hS.a0
  have wc : was H c := hS.c0
  have nm : (namesOf rs)[i]? = some r.1 := by unfold namesOf; rw [List.getElem?_map, hr]; rfl
  rw [fkv_set (rows_nodup row) (by unfold namesOf; rw [List.length_map, A.len]) nm]
  have s1 : Same (res (wasN H p d) H3) (res (wasN H p d) (upd H4 d (.dK (fkv (namesOf rs) (us.set i v))))) := res_up fun b o n e => ⟨n, by
    rw [upd_ne fun z => n (.inr (.inr z))]
    exact k4 b o (fun z => n (.inl (z ▸ wa))) (fun z => n (.inl (z ▸ wc))) e⟩
  have s2 : Same (res (was H3) H4) (res (wasN H p d) (upd H4 d (.dK (fkv (namesOf rs) (us.set i v))))) := res_up fun b o n e => by
    have np' : b ≠ p := fun z => n (by rw [z]; unfold was; rw [hp3]; simp)
    have nd' : b ≠ d := fun z => n (by rw [z]; unfold was; rw [A.hd]; simp)
    exact ⟨fun z => z.elim (fun z => n (A.kp.has A.st.a0 A.st.c0 z)) (fun z => z.elim np' nd'), by rw [upd_ne nd']; exact e⟩
  obtain ⟨ht', wt', W', e1, e2⟩ := (A.w.up Sk s1).add (W2.up Sk s2) (A.w.1.apart W2.1)
  refine ⟨F ++ F2, ht', wt', ?_, ?_, fun b o n1 n2 e => ?_, ⟨dx, by rw [upd_ne pd]; exact hp4⟩, upd_same, by rw [List.length_set]; exact A.len, W', fun n u r' hn g1 g2 => ?_⟩
  · exact ⟨by rw [upd_ne da.symm]; exact h4.lst, by rw [upd_ne dc.symm]; exact h4.cel, h4.ne, h4.len, h4.cur0, h4.cnt0, h4.mix0, h4.mix1⟩
  · have := A.cn
    rw [sumR_take _ _ hr]
    omega
  · rw [upd_ne (ne_of_none e nd)]
    exact k4 b o n1 n2 (A.kp b o n1 n2 e)
  · by_cases en : n = i
    · subst en
      have hi : n < us.length := by
        rw [A.len]
        rcases Nat.lt_or_ge n rs.length with z | z
        · exact z
        · rw [List.getElem?_eq_none z] at hr; cases hr
      rw [List.getElem?_set_self hi] at g1
      rw [hr] at g2
      cases g1
      cases g2
      exact v2.up Sk s2 fun q hq => ⟨InF.app.mpr (.inr hq), e2 q hq⟩
    · rw [List.getElem?_set_ne (fun z => en z.symm)] at g1
      exact (A.vs n u r' (by omega) g1 g2).up Sk s1 fun q hq => ⟨InF.app.mpr (.inl hq), e1 q hq⟩
theorem Fil.out (Sk : Kits K C Cs) (np : H p = none) (nd : H d = none) (row : Fld.lookup k = some rs) (A : Fil C Cs a c H S j p d k rs rs.length H3 S3 us F ht wt) (hm : 1 + sumR (mR j) rs ≤ mT (j + 1)) :
    ∃ ht' wt', Drn C Cs (res (was H) H3) ((p, d) :: F) ht' wt' ∧ (∃ dx, res (was H) H3 p = some (.ins C dx (nodeFs k d))) ∧ ht' p = j + 1 ∧ wt' p ≤ mT (j + 1) := by
  have s : Same (res (wasN H p d) H3) (res (was H) H3) := res_up fun b o n e => ⟨fun z => n (.inl z), e⟩
  obtain ⟨dx, hp⟩ := A.hp
  have hp' : res (was H) H3 p = some (.ins C dx (nodeFs k d)) := res_in (fun z => z np) hp
  have hd' : res (was H) H3 d = some (.dK (fkv (namesOf rs) us)) := res_in (fun z => z nd) A.hd
  have at_ : ∀ v ∈ us, ∃ r : Str × Str × Str, Vd C Cs (res (was H) H3) F ht wt (j + 1) (mR j r.2.2) r.2.1 r.2.2 v := fun v hv => by
    obtain ⟨n, hn⟩ := List.mem_iff_getElem?.mp hv
    have hl : n < us.length := by
      rcases Nat.lt_or_ge n us.length with z | z
      · exact z
      · rw [List.getElem?_eq_none z] at hn; cases hn
    have hl2 : n < rs.length := by rw [← A.len]; exact hl
    exact ⟨_, (A.vs n v _ hl2 hn (List.getElem?_eq_getElem hl2)).up Sk s fun q hq => ⟨hq, rfl, rfl⟩⟩
  obtain ⟨ht', wt', W, e1, e2⟩ := (A.w.up Sk s).top Sk (j + 1) hp' row hd' A.len
    (fun v hv => let ⟨r, x⟩ := at_ v hv; let ⟨kv, ks, f, nl, _⟩ := x.fv; ⟨kv, ks, f, nl⟩)
    (fun q hq => by
      obtain ⟨v, hv, hq⟩ := List.mem_flatMap.mp hq
      obtain ⟨r, x⟩ := at_ v hv
      exact x.kd q hq)
    (fun z => by
      obtain ⟨d', hd'⟩ := z.ex
      obtain ⟨dx', k', e⟩ := A.w.1.at_ _ hd'
      exact (res_at e).1 (.inr (.inl rfl)))
    (fun x hx z => by
      obtain ⟨k1, rs1, vs1, N1, _⟩ := A.w.1.get hx
      have e := N1.dk
      rw [z] at e
      exact (res_at e).1 (.inr (.inr rfl)))
    (fun n v r g1 g2 => by
      have hl2 : n < rs.length := by
        rcases Nat.lt_or_ge n rs.length with z | z
        · exact z
        · rw [List.getElem?_eq_none z] at g2; cases g2
      obtain ⟨kv, ks, f, nl, ft⟩ := ((A.vs n v r hl2 g1 g2).up Sk s fun q hq => ⟨hq, rfl, rfl⟩).fv
      rw [fitF_of Sk f]
      exact ft)
    (fun v hv => let ⟨r, x⟩ := at_ v hv; x.ln)
  refine ⟨ht', wt', W, ⟨dx, hp'⟩, e1, ?_⟩
  rw [e2, flat_sum]
  have z := sum_kids (f := mR j) (g := fun v => ((kidsV C (res (was H) H3) v).map wt).sum) A.len fun n v r g1 g2 => by
    have hl2 : n < rs.length := by
      rcases Nat.lt_or_ge n rs.length with z | z
      · exact z
      · rw [List.getElem?_eq_none z] at g2; cases g2
    exact ((A.vs n v r hl2 g1 g2).up (F' := F) (ht' := ht) (wt' := wt) Sk s fun q hq => ⟨hq, rfl, rfl⟩).wt_
  omega
end
end K5

namespace K5
open PySem PySem.Spec PyProof.Rows L2 StX RZ TL
theorem TblOk.rowU {H : Hp} {t g e s q : Addr} {tv : List Addr} (T : TblOk H t tv g e s q) {k : Str} {rs : List (Str × Str × Str)} (hk : Fld.lookup k = some rs) :
    ∃ a ps, (∀ H', Same H H' → DGet H' t (.str k) (some (.ref a))) ∧ PartsAt H a ps ∧ ps.length = rs.length ∧ ∀ (i : Nat) r, rs[i]? = some r → ∃ w, ps[i]? = some [r.1, w] ∧ WT.lookup w = some (r.2.1, r.2.2) := by
  have z := List.all_eq_true.mp ents_ok _ (lookMem hk)
  cases h : allEnts.lookup k with
  | none => rw [h] at z; cases z
  | some ps =>
    rw [h] at z
    obtain ⟨i, hi⟩ := lookup_ix h
    have il : i < allEnts.length := by
      rcases Nat.lt_or_ge i allEnts.length with y | y
      · exact y
      · rw [List.getElem?_eq_none y] at hi; cases hi
    obtain ⟨a, ha⟩ : ∃ a, tv[i]? = some a := ⟨_, List.getElem?_eq_getElem (by rw [T.len]; exact il)⟩
    obtain ⟨hl, hp⟩ := partsOk_at z
    refine ⟨a, ps, fun H' s => ?_, T.pts i a _ ha hi, hl, hp⟩
    have dg := DGet.k (k := Sum.inr k) (s _ _ T.at_)
    rw [valV_mkT all_nodup hi ha] at dg
    exact dg
theorem ac_up {H H' : Hp} {a c : Addr} (k : Kept a c H H') : Same (res (fun b => b = a ∨ b = c) H) H' := fun b o e => by
  obtain ⟨n, e⟩ := res_at e
  exact k b o (fun z => n (.inl z)) (fun z => n (.inr z)) e
section
variable {P : Program} {w : World} {K : PySem.W.Frag} {mg : Str → Option Value} {base : Heap} {C fI fGt fSt : Addr} {Cs : Nat → Addr} {sd : FuncData} {fD fP fG fS fE fT fW fK fC : Addr} {dD dP dG dS dE dT dW dK dC : FuncData}
/-- what Node(..) and node[..] = .. ask for -/
structure NDefs (P : Program) (w : World) (K : PySem.W.Frag) (mg : Str → Option Value) (base : Heap) (C fI fGt fSt : Addr) (gd sd : FuncData) (kI : Nat) : Prop where
  M : Mk K C fI
  I : FnR P w K mg base CX0 kI fI (spIni 1 C)
  mC : mg "Node" = some (.ref C)
  Nc : NodeC K C fGt fSt
  S : FnOk P w K mg base CX0 1 fSt sd ["self", "at", "worth"] (spSet C)
  bS : Binds K sd ["self", "at", "worth"] []
  G : FnOk P w K mg base CX0 1 fGt gd ["self", "at"] (spGet C)
  bG : Binds K gd ["self", "at"] []
theorem ok_tr {f fH : Addr} {fd dH gd : FuncData} {kI : Nat} (F : Fun K "_law_tree" "_law_tree" sTr f fd) (Z : Blt mg) (Sk : Kits K C Cs) (N : NDefs P w K mg base C fI fGt fSt gd sd kI) {j k : Nat} (hj : j < 6) (hk : kI + 1 ≤ k) (hk1 : 1 ≤ k)
    (Hd : FnOk P w K mg base CX0 k fH dH pHe (spHe j 3 C Cs)) (bH : Binds K dH pHe []) (kH : PySem.W.keepIn K (.ref fH) = true) (mH : mg "_law_held" = some (.ref fH)) : FnOk P w K mg base CX0 (k + 1) f fd pTr (spTr (j + 1) C Cs) := by
  refine F.ok scTr (fun vs H Q E h => ?_) (fun cdv A outer s H vs Q E hr h => ?_)
  · obtain ⟨a, c, t, S, kd, i, rfl, _⟩ := h
    rfl
  obtain ⟨a, c, t, S, kd, i, rfl, hS, hT, hG, hi, hi1, hi2, hcnt, q⟩ := h
  have hr1 := hr.mono hk1
  have hrI := hr.mono hk
  obtain ⟨rs, row⟩ := G_fld hG
  obtain ⟨pc, pm⟩ := st_at hj row hG
  refine ⟨_, pss_cons (ps_set (i := 4) scTr.nd rfl (.inl rfl) (pe_node N.M N.I hrI rfl N.mC (pa_cons (pv 2) pa_nil)))
    (pss_cons (ps_for PassesOwn.never rfl (pi_list (pe_dget (hu_of hr) (pv 1) (pv 2) (fun _ _ => rfl))) (pg_unl rfl (pgs_cons (pg_name (i := 5) scTr.nd rfl (.inl rfl)) (pgs_cons (pg_name (i := 6) scTr.nd rfl (.inl rfl)) pgs_nil)))
      (pss_one (ps_asg (pe_call Hd hr rfl mH kH bH .nil pass0 (pa_cons (pv 0) (pa_cons (pv 1) (pa_cons (pv 6) (pa_cons (pe_callB (call_max2 rfl) (by rfl) Z.mx (by decide +kernel) (pa_cons pe_int (pa_cons (pv 3) pa_nil))) pa_nil))))) (pg_sub (pv 4) (pv 5) (set_node N.Nc N.S N.bS hr1)))))
    (pss_one (ps_ret (pv 4)))), ?_⟩
  refine ⟨_, rfl, kd, rs, [], rfl, row, Nat.zero_le _, .inl rfl, fun H1 p d ds N1 => ?_⟩
  have hT0 := hT
  obtain ⟨g0, e0, s0, q0, tv0, T1⟩ := hT
  obtain ⟨ar, ps, dg, ⟨as, ha, hal, hap⟩, hpl, hpr⟩ := T1.rowU row
  have hd1 : H1 d = some (.dK (fkv (namesOf rs) ds)) := N1.dk
  have hl1 : ds.length = rs.length := N1.len
  have k1 : Kept a c H H1 := Kept.same N1.sm
  have hs7 := rows_small row
  have hnd2 := rows_nodup row
  refine ⟨_, rfl, _, rfl, t, .ref ar, rfl, dg _ (ac_up k1), ar, rfl, ⟨_, SqL.of (ac_up k1 _ _ ha)⟩, ?_⟩
  refine for_list (K := K) (a := ar) (xs := as.map V.ref) (fun n σ H3 => ∃ (S3 : Stm) (us : List V) (F : List (Addr × Addr)) (ht wt : Addr → Nat) (x5 x6 : Option V), σ = [some (.ref a), some (.ref t), some (.str kd), some (.int i), some (.ref p), x5, x6] ∧ Fil C Cs a c H S j p d kd rs n H3 S3 us F ht wt)
    ⟨S, ds, [], fun _ => 0, fun _ => 0, none, none, rfl, hS.keep N1.sm, by show S.cnt ≤ S.cnt + ((sumR (pR j) (rs.take 0) : Nat) : Int); simp [sumR], k1, N1.at_, hd1, hl1, Drn.nil, fun n v r hn => absurd hn (Nat.not_lt_zero _)⟩
    (fun n σ H3 _ ⟨_, _, _, _, _, _, _, _, A⟩ => SqL.of (ac_up A.kp _ _ ha)) ?_ ?_
  · rintro n x σ H3 hx ⟨S3, us, F', ht, wt, x5, x6, rfl, A⟩
    rw [List.getElem?_map] at hx
    obtain ⟨b, hb, rfl⟩ : ∃ b, as[n]? = some b ∧ x = .ref b := by
      cases z : as[n]? with
      | none => rw [z] at hx; cases hx
      | some b => rw [z] at hx; cases hx; exact ⟨b, rfl, rfl⟩
    have hn : n < rs.length := by
      rcases Nat.lt_or_ge n as.length with z | z
      · omega
      · rw [List.getElem?_eq_none z] at hb; cases hb
    obtain ⟨r, hr'⟩ : ∃ r, rs[n]? = some r := ⟨_, List.getElem?_eq_getElem hn⟩
    obtain ⟨wd, hpw, hww⟩ := hpr n r hr'
    have hbw := ac_up A.kp _ _ (hap n b _ hb hpw)
    have hnm : (namesOf rs)[n]? = some r.1 := by unfold namesOf; rw [List.getElem?_map, hr']; rfl
    have hcn := A.cn
    have hst := sumR_take (pR j) rs hr'
    have hsl := sumR_le (pR j) rs (n + 1)
    refine ⟨b, [.str r.1, .str wd], rfl, SqL.of hbw, rfl, _, _, rfl, _, _, rfl, rfl, ?_⟩
    have hmx : (if i > 0 then i else 0) = ((DD j : Nat) : Int) := by
      unfold DD
      split <;> omega
    refine ⟨_, rfl, _, rfl, _, rfl, _, rfl, 0, i, rfl, ?_⟩
    rw [hmx]
    refine ⟨a, c, t, S3, wd, r.2.1, r.2.2, rfl, A.st, hT0.kept A.kp, hww, ?_, G_row row hG (List.mem_of_getElem? hr'), by omega, fun H4 S4 v F2 ht2 wt2 h4 hc4 k4 W4 V4 => ?_⟩
    · unfold rank
      split
      · omega
      · split <;> omega
    obtain ⟨⟨dx, hp4⟩, hd4, F3, ht3, wt3, A3⟩ := A.step Sk hS N1.np N1.nd row hr' h4 hc4 k4 W4 V4
    obtain ⟨u, hu⟩ : ∃ u, us[n]? = some u := ⟨_, List.getElem?_eq_getElem (by rw [A.len]; exact hn)⟩
    refine ⟨_, rfl, _, rfl, p, dx, d, r.1, nodeFs kd d, _, u, rfl, rfl, hp4, rfl, hd4, valV_fkv hnd2 hnm hu, ?_, S4, _, F3, ht3, wt3, _, _, rfl, A3⟩
    have z : (1000 : Nat) < sizeLine := by decide
    rw [fkv_len (by unfold namesOf; rw [List.length_map, A.len]; exact Nat.le_refl _), A.len]
    omega
  · rintro σ H3 ⟨S3, us, F', ht, wt, x5, x6, rfl, A⟩
    have e7 : (as.map V.ref).length = rs.length := by rw [List.length_map]; omega
    rw [e7] at A
    obtain ⟨ht', wt', W, hp, h1, h2⟩ := A.out Sk N1.np N1.nd row pm
    have hcn := A.cn
    rw [List.take_length] at hcn
    exact ⟨_, rfl, q H3 S3 p d _ ht' wt' A.st (by omega) A.kp W (List.mem_cons_self ..) hp h1 h2⟩
/-- trees of all heights -/
theorem trees {f fH : Addr} {fd dH gd : FuncData} {kI : Nat} (F : Fun K "_law_tree" "_law_tree" sTr f fd) (bF : Binds K fd pTr []) (mF : mg "_law_tree" = some (.ref f)) (FH : Fun K "_law_held" "_law_held" sHe fH dH) (bH : Binds K dH pHe []) (mH : mg "_law_held" = some (.ref fH))
    (Z : Blt mg) (Sk : Kits K C Cs) (N : NDefs P w K mg base C fI fGt fSt gd sd kI) (Y : KDefs P w K mg base fD fP fG fS fE fT dD dP dG dS dE dT) (V0 : HDefs P w K mg base C Cs fW fK fC dW dK dC) (hI : kI ≤ 5) : ∀ j, j ≤ 6 → FnOk P w K mg base CX0 (4 * j + 3) f fd pTr (spTr j C Cs)
  | 0, _ => no_tr
  | j + 1, hj => by
    have U := trees F bF mF FH bH mH Z Sk N Y V0 hI j (by omega)
    have l0 : FnOk P w K mg base CX0 (4 * j + 3) fH dH pHe (spHe j 0 C Cs) := no_he
    have l1 := ok_he FH bH mH Z Sk Y V0 (by omega) (by omega) l0 U bF F.kp mF
    have l2 := ok_he FH bH mH Z Sk Y V0 (by omega) (by omega) l1 (U.mono (by omega)) bF F.kp mF
    have l3 := ok_he FH bH mH Z Sk Y V0 (by omega) (by omega) l2 (U.mono (by omega)) bF F.kp mF
    exact ok_tr F Z Sk N (by omega) (by omega) (by omega) l3 bH FH.kp mH
end
end K5

namespace K5
open PySem PySem.Spec PyProof.Rows L2 StX RZ TL
/-! ### new nodes by hand; other values -/
section
variable {K : PySem.W.Frag} {C : Addr} {Cs : Nat → Addr}
theorem sh_nil {R : Hp} {n : Nat} : Sh C Cs R n [] := fun x h => by cases h
/-- a node without nodes in it -/
theorem newA (Sk : Kits K C Cs) {H1 H2 : Hp} {p d : Addr} {k : Str} {rs : List (Str × Str × Str)} {parts ds : List V} (N : NewN C H1 H2 p k rs parts d ds) (row : Fld.lookup k = some rs) (hp : ∀ v ∈ parts, ∃ x : Str, v = .str x ∧ x.length ≤ 1000)
    (hc : ∀ (i : Nat) r, rs[parts.length + i]? = some r → r.1 ≠ "ctx") : Fo C Cs (res (was H1) H2) [(p, d)] (fun _ => 0) (fun _ => 1) ∧ Sh C Cs (res (was H1) H2) 10 [(p, d)] := by
  obtain ⟨dx, hp2⟩ := N.at_
  have hp' : res (was H1) H2 p = some (.ins C dx (nodeFs k d)) := res_in (fun z => z N.np) hp2
  have hd' : res (was H1) H2 d = some (.dK (fkv (namesOf rs) (parts ++ ds))) := res_in (fun z => z N.nd) N.dk
  have vals : ∀ v ∈ parts ++ ds, ∃ kv ks, FvAt C Cs (res (was H1) H2) v kv ks ∧ (∀ k ∈ ks, isLst kv = true → isLst k = false) ∧ kidsV C (res (was H1) H2) v = [] ∧ LenV (res (was H1) H2) 10 v := fun v hv => by
    rcases List.mem_append.mp hv with hv | hv
    · obtain ⟨x, rfl, hx⟩ := hp v hv
      exact ⟨.str x, [], ⟨.str x hx, fun xs e => by cases e⟩, fun k hk => (by cases hk), rfl, fun a xs e => by cases e⟩
    · obtain ⟨i, hi⟩ := List.mem_iff_getElem?.mp hv
      have hl : i < ds.length := by
        rcases Nat.lt_or_ge i ds.length with z | z
        · exact z
        · rw [List.getElem?_eq_none z] at hi; cases hi
      have hlen := N.len
      rw [List.length_append] at hlen
      obtain ⟨r, hr⟩ : ∃ r, rs[parts.length + i]? = some r := ⟨_, List.getElem?_eq_getElem (by omega)⟩
      rcases N.df i v r hi hr with ⟨_, l, rfl, nl, hl2⟩ | ⟨_, e, _⟩ | ⟨_, _, rfl⟩
      · have h' : res (was H1) H2 l = some (.lst []) := res_in (fun z => z nl) hl2
        refine ⟨.lst [], [], ⟨.lst h' (by decide), fun xs e => ?_⟩, fun k hk => (by cases hk), kidsV_lst h', fun a xs e h2 => ?_⟩
        · cases e
          exact ⟨rfl, fun i x k g => by simp at g⟩
        · cases e
          rw [h'] at h2
          cases h2
          decide
      · exact absurd e (hc i r hr)
      · exact ⟨.non, [], ⟨.non, fun xs e => by cases e⟩, fun k hk => (by cases hk), rfl, fun a xs e => by cases e⟩
  have ek : (parts ++ ds).flatMap (kidsV C (res (was H1) H2)) = [] := by
    rw [List.flatMap_eq_nil_iff]
    intro v hv
    obtain ⟨_, _, _, _, e, _⟩ := vals v hv
    exact e
  have NN : NodeOk C Cs (res (was H1) H2) (InF [(p, d)]) p k d rs (parts ++ ds) := ⟨⟨dx, hp'⟩, row, hd', N.len, fun v hv => let ⟨kv, ks, f, nl, _⟩ := vals v hv; ⟨kv, ks, f, nl⟩, by rw [ek]; exact fun c hc => by cases hc⟩
  refine ⟨⟨fun x hx => ?_, fun x hx => ?_, by simp⟩, fun x hx v hv => ?_⟩
  · rw [List.mem_singleton.mp hx]
    exact ⟨k, d, rs, _, NN, by rw [ek]; exact fun c hc => (by cases hc), by rw [ek]; simp⟩
  · rw [List.mem_singleton.mp hx]
    exact ⟨dx, k, hp'⟩
  · rw [List.mem_singleton.mp hx, NN.vp] at hv
    obtain ⟨_, _, _, _, _, h⟩ := vals v hv
    exact h
/-- Node("Name", "a") -/
theorem newB (Sk : Kits K C Cs) {H1 H2 : Hp} {p d : Addr} {rs : List (Str × Str × Str)} {ds : List V} (N : NewN C H1 H2 p "Name" rs [.str "a"] d ds) (row : Fld.lookup ("Name" : Str) = some rs) :
    ∃ p' d', Fo C Cs (res (was H1) H2) [(p, d), (p', d')] (fun c => if c = p then 1 else 0) (fun c => if c = p then 2 else 1) ∧ Sh C Cs (res (was H1) H2) 10 [(p, d), (p', d')] := by
  have er : rs = ([("id", "NAME", ""), ("ctx", "CONTEXT", "")] : List (Str × Str × Str)) := by
    have z : Fld.lookup ("Name" : Str) = some ([("id", "NAME", ""), ("ctx", "CONTEXT", "")] : List (Str × Str × Str)) := by decide +kernel
    rw [z] at row
    exact (Option.some.inj row).symm
  subst er
  obtain ⟨dx, hp2⟩ := N.at_
  obtain ⟨u, rfl⟩ : ∃ u, ds = [u] := by
    have := N.len
    match ds, this with
    | [u], _ => exact ⟨u, rfl⟩
  have hd2 := N.dk
  rcases N.df 0 u _ rfl rfl with ⟨hm, _⟩ | ⟨_, _, p', dx', d', rfl, np', nd', hp3, hd3⟩ | ⟨_, e, _⟩
  · exact absurd hm (by decide +kernel)
  · have hp' : res (was H1) H2 p = some (.ins C dx (nodeFs "Name" d)) := res_in (fun z => z N.np) hp2
    have hd' : res (was H1) H2 d = some (.dK (fkv (namesOf ([("id", "NAME", ""), ("ctx", "CONTEXT", "")] : List (Str × Str × Str))) [.str "a", .ref p'])) := res_in (fun z => z N.nd) hd2
    have hp4 : res (was H1) H2 p' = some (.ins C dx' (nodeFs "Load" d')) := res_in (fun z => z np') hp3
    have hd4 : res (was H1) H2 d' = some (.dK []) := res_in (fun z => z nd') hd3
    have npp : p' ≠ p := fun z => by
      rw [z, hp'] at hp4
      have z2 := Option.some.inj hp4
      injection z2 with _ _ z3
      have z4 : V.str "Name" = V.str "Load" := congrArg (fun l : List (Str × V) => (l.head?.map Prod.snd).getD .non) z3
      injection z4 with z4
      exact absurd z4 (by decide +kernel)
    have ndd : d ≠ d' := fun z => by rw [z, hd4] at hd'; cases hd'
    have rowL : Fld.lookup ("Load" : Str) = some [] := by decide +kernel
    have kvp : KvAt C Cs (res (was H1) H2) (.ref p') (.node "Load" d') := .node hp4
    have ekp : kidsV C (res (was H1) H2) (.ref p') = [p'] := by
      obtain ⟨q, e1, e2⟩ := nodeOf_yes kvp rfl
      cases e1
      rw [kidsV_one Sk kvp rfl, e2]
      rfl
    have ek : ([.str "a", .ref p'] : List V).flatMap (kidsV C (res (was H1) H2)) = [p'] := by
      rw [List.flatMap_cons, List.flatMap_cons, ekp]
      rfl
    have vals : ∀ v ∈ ([.str "a", .ref p'] : List V), ∃ kv ks, FvAt C Cs (res (was H1) H2) v kv ks ∧ (∀ k ∈ ks, isLst kv = true → isLst k = false) ∧ LenV (res (was H1) H2) 10 v := fun v hv => by
      rcases List.mem_cons.mp hv with rfl | hv
      · exact ⟨.str "a", [], ⟨.str _ (by decide +kernel), fun xs e => by cases e⟩, fun k hk => (by cases hk), fun a xs e => by cases e⟩
      · rw [List.mem_singleton.mp hv]
        exact ⟨_, [], ⟨kvp, fun xs e => by cases e⟩, fun k hk => (by cases hk), LenV.no kvp rfl⟩
    have N1 : NodeOk C Cs (res (was H1) H2) (InF [(p, d), (p', d')]) p "Name" d _ [.str "a", .ref p'] := ⟨⟨dx, hp'⟩, row, hd', rfl, fun v hv => let ⟨kv, ks, f, nl, _⟩ := vals v hv; ⟨kv, ks, f, nl⟩, by
      rw [ek]
      intro c hc
      rw [List.mem_singleton.mp hc]
      exact InF.mem (List.mem_cons_of_mem _ (List.mem_cons_self ..))⟩
    have N2 : NodeOk C Cs (res (was H1) H2) (InF [(p, d), (p', d')]) p' "Load" d' [] [] := ⟨⟨dx', hp4⟩, rowL, hd4, rfl, fun v hv => (by cases hv), fun c hc => (by cases hc)⟩
    refine ⟨p', d', ⟨fun x hx => ?_, fun x hx => ?_, by simpa using ndd⟩, fun x hx v hv => ?_⟩
    · rcases List.mem_cons.mp hx with rfl | hx
      · refine ⟨_, _, _, _, N1, ?_, ?_⟩
        · rw [ek]
          intro c hc
          rw [List.mem_singleton.mp hc]
          show (if p' = p then 1 else 0) < (if p = p then 1 else 0)
          rw [if_neg npp, if_pos rfl]
          decide
        · rw [ek]
          show 1 + ([p'].map fun c => if c = p then 2 else 1).sum ≤ (if p = p then 2 else 1)
          rw [if_pos rfl]
          simp [npp]
      · rw [List.mem_singleton.mp hx]
        refine ⟨_, _, _, _, N2, fun c hc => (by cases hc), ?_⟩
        show 1 + 0 ≤ (if p' = p then 2 else 1)
        rw [if_neg npp]
        decide
    · rcases List.mem_cons.mp hx with rfl | hx
      · exact ⟨dx, _, hp'⟩
      · rw [List.mem_singleton.mp hx]
        exact ⟨dx', _, hp4⟩
    · rcases List.mem_cons.mp hx with rfl | hx
      · rw [N1.vp] at hv
        obtain ⟨_, _, _, _, h⟩ := vals v hv
        exact h
      · rw [List.mem_singleton.mp hx, N2.vp] at hv
        cases hv
  · exact absurd rfl e
/-- another value, with its new nodes -/
structure Oth (C : Addr) (Cs : Nat → Addr) (B : Addr → Prop) (n : Nat) (H H' : Hp) (old : List Addr) (v : V) : Prop where
  ex : ∃ F2 ht2 wt2, Fo C Cs (res (was H) H') F2 ht2 wt2 ∧ Sh C Cs (res (was H) H') 10 F2 ∧ (∀ c, InF F2 c → ht2 c < 2) ∧ (∃ kv ks, FvAt C Cs (res B H') v kv ks ∧ ∀ k ∈ ks, isLst kv = true → isLst k = false) ∧ LenV (res B H') n v ∧
    ∃ K1 K2, kidsV C (res B H') v = K1 ++ K2 ∧ K1.Sublist old ∧ (∀ c ∈ K2, InF F2 c) ∧ (K2.map wt2).sum ≤ 2
theorem Oth.upR (Sk : Kits K C Cs) {B : Addr → Prop} {n : Nat} {H H' H'' : Hp} {old : List Addr} {v : V} (O : Oth C Cs B n H H' old v) (s1 : Same (res (was H) H') (res (was H) H'')) (s2 : Same (res B H') (res B H'')) : Oth C Cs B n H H'' old v := by
  obtain ⟨F2, ht2, wt2, f, sh, h, ⟨kv, ks, fv, nl⟩, ln, K1, K2, e, e1, e2, e3⟩ := O.ex
  exact ⟨F2, ht2, wt2, f.up Sk s1, sh.up Sk f s1, h, ⟨kv, ks, fv.up s2, nl⟩, ln.up fv.1 s2, K1, K2, by rw [kidsV_up Sk fv s2]; exact e, e1, e2, e3⟩
theorem Oth.up (Sk : Kits K C Cs) {B : Addr → Prop} {n : Nat} {H H' H'' : Hp} {old : List Addr} {v : V} (O : Oth C Cs B n H H' old v) (s : Same H' H'') : Oth C Cs B n H H'' old v :=
  O.upR Sk (res_up fun b o n e => ⟨n, s _ _ e⟩) (res_up fun b o n e => ⟨n, s _ _ e⟩)
/-- a value without nodes -/
theorem Oth.plain (Sk : Kits K C Cs) {B : Addr → Prop} {n : Nat} {H H' : Hp} {old : List Addr} {v : V} {kv : Kv} (h : KvAt C Cs (res B H') v kv) (h1 : isLst kv = false) (h2 : isNode kv = false) : Oth C Cs B n H H' old v := by
  refine ⟨[], fun _ => 0, fun _ => 0, Fo.nil, sh_nil, fun c hc => (by cases hc), ⟨kv, [], ⟨h, fun xs e => by rw [e] at h1; cases h1⟩, fun k hk => by cases hk⟩, LenV.no h h1, [], [], ?_, List.nil_sublist _, fun c hc => (by cases hc), by simp⟩
  rw [kidsV_one Sk h h1, nodeOf_no Sk h h2]
  rfl
/-- a list of values without nodes and lists -/
theorem Oth.list (Sk : Kits K C Cs) {B : Addr → Prop} {n : Nat} {H H' : Hp} {old : List Addr} {l : Addr} {xs : List V} (hB : ¬ B l) (hl : H' l = some (.lst xs)) (hn : xs.length ≤ n) (hn2 : n ≤ 1000) (hx : ∀ x ∈ xs, ∃ k, KvAt C Cs (res B H') x k ∧ isLst k = false ∧ isNode k = false) : Oth C Cs B n H H' old (.ref l) := by
  have h' : res B H' l = some (.lst xs) := res_in hB hl
  have kv : KvAt C Cs (res B H') (.ref l) (.lst xs) := .lst h' (by omega)
  have fv := FvAt.some Sk kv (fun ys e x hx' => by cases e; exact let ⟨k, h1, _⟩ := hx x hx'; ⟨k, h1⟩)
  have nl : ∀ k ∈ ksF C Cs (res B H') (.ref l), isLst k = false := fun k hk => by
    unfold ksF at hk
    rw [kvF_of Sk kv] at hk
    obtain ⟨x, hx', rfl⟩ := List.mem_map.mp hk
    obtain ⟨k, h1, h2, _⟩ := hx x hx'
    rw [kvF_of Sk h1]
    exact h2
  refine ⟨[], fun _ => 0, fun _ => 0, Fo.nil, sh_nil, fun c hc => (by cases hc), ⟨_, _, fv, fun k hk _ => nl k hk⟩, fun a ys e h2 => ?_, [], [], ?_, List.nil_sublist _, fun c hc => (by cases hc), by simp⟩
  · cases e
    rw [h'] at h2
    cases h2
    exact hn
  · rw [kidsV_lst h']
    refine List.filterMap_eq_nil_iff.mpr fun x hx' => ?_
    obtain ⟨k, h1, _, h3⟩ := hx x hx'
    exact nodeOf_no Sk h1 h3
/-- a node -/
theorem Oth.node (Sk : Kits K C Cs) {B : Addr → Prop} {n : Nat} {H H' : Hp} {old : List Addr} {p : Addr} {F2 : List (Addr × Addr)} {ht2 wt2 : Addr → Nat} (f : Fo C Cs (res (was H) H') F2 ht2 wt2) (sh : Sh C Cs (res (was H) H') 10 F2) (hh : ∀ c, InF F2 c → ht2 c < 2) (hp : InF F2 p) (hw : wt2 p ≤ 2)
    (hB : ∀ b, B b → was H b) : Oth C Cs B n H H' old (.ref p) ∧ nodeOf C (res B H') (.ref p) = some p ∧ ∃ kv, KvAt C Cs (res B H') (.ref p) kv ∧ isLst kv = false := by
  obtain ⟨d, hd⟩ := hp.ex
  obtain ⟨dx, k, e⟩ := f.at_ _ hd
  have s : Same (res (was H) H') (res B H') := res_up fun b o n e => ⟨fun z => n (hB b z), e⟩
  have kv : KvAt C Cs (res B H') (.ref p) (.node k d) := .node (s _ _ e)
  have en : nodeOf C (res B H') (.ref p) = some p := by
    obtain ⟨q, e1, e2⟩ := nodeOf_yes kv rfl
    cases e1
    exact e2
  have ek : kidsV C (res B H') (.ref p) = [p] := by
    rw [kidsV_one Sk kv rfl, en]
    rfl
  refine ⟨⟨F2, ht2, wt2, f, sh, hh, ⟨_, [], ⟨kv, fun xs e => by cases e⟩, fun k hk => by cases hk⟩, LenV.no kv rfl, [], [p], by rw [ek]; rfl, List.nil_sublist _, fun c hc => ?_, ?_⟩, en, _, kv, rfl⟩
  · rw [List.mem_singleton.mp hc]
    exact hp
  · simpa using hw
/-- a list: items of an old one, then perhaps a new node or a plain value -/
theorem Oth.items (Sk : Kits K C Cs) {B : Addr → Prop} {n : Nat} {H H' : Hp} {old : List Addr} {l : Addr} {xs ys : List V} (hB : ¬ B l) (hl : H' l = some (.lst (xs ++ ys))) (hn : (xs ++ ys).length ≤ n) (hn2 : n ≤ 1000) (hx : ∀ x ∈ xs, ∃ k, KvAt C Cs (res B H') x k ∧ isLst k = false)
    (hs : (xs.filterMap (nodeOf C (res B H'))).Sublist old) (hy : ys = [] ∨ ∃ y, ys = [y] ∧ Oth C Cs B n H H' [] y ∧ ∃ k, KvAt C Cs (res B H') y k ∧ isLst k = false) : Oth C Cs B n H H' old (.ref l) := by
  have h' : res B H' l = some (.lst (xs ++ ys)) := res_in hB hl
  have kv : KvAt C Cs (res B H') (.ref l) (.lst (xs ++ ys)) := .lst h' (by omega)
  have hxy : ∀ x ∈ xs ++ ys, ∃ k, KvAt C Cs (res B H') x k ∧ isLst k = false := fun x h => by
    rcases List.mem_append.mp h with h | h
    · exact hx x h
    · rcases hy with rfl | ⟨y, rfl, _, hk⟩
      · cases h
      · rw [List.mem_singleton.mp h]; exact hk
  have fv := FvAt.some Sk kv (fun ys e x hx' => by cases e; exact let ⟨k, h1, _⟩ := hxy x hx'; ⟨k, h1⟩)
  have nl : ∀ k ∈ ksF C Cs (res B H') (.ref l), isLst k = false := fun k hk => by
    unfold ksF at hk
    rw [kvF_of Sk kv] at hk
    obtain ⟨x, hx', rfl⟩ := List.mem_map.mp hk
    obtain ⟨k, h1, h2⟩ := hxy x hx'
    rw [kvF_of Sk h1]
    exact h2
  have ln : LenV (res B H') n (.ref l) := fun a zs e h2 => by
    cases e
    rw [h'] at h2
    cases h2
    exact hn
  rcases hy with rfl | ⟨y, rfl, O, k, hk, hkl⟩
  · exact ⟨[], fun _ => 0, fun _ => 0, Fo.nil, sh_nil, fun c hc => (by cases hc), ⟨_, _, fv, fun k hk _ => nl k hk⟩, ln, _, [], by rw [kidsV_lst h', List.append_nil, List.append_nil], hs, fun c hc => (by cases hc), by simp⟩
  · obtain ⟨F2, ht2, wt2, f, sh, h, _, _, K1, K2, e, e1, e2, e3⟩ := O.ex
    have eK1 : K1 = [] := List.sublist_nil.mp e1
    subst eK1
    refine ⟨F2, ht2, wt2, f, sh, h, ⟨_, _, fv, fun k hk _ => nl k hk⟩, ln, _, K2, ?_, hs, e2, e3⟩
    rw [kidsV_lst h', List.filterMap_append, fm_one, ← kidsV_one Sk hk hkl, e]
    rfl
end
end K5

namespace K5
open PySem PySem.Spec PyProof.Rows L2 StX RZ TL
abbrev sOt : Stmt := topS 51
abbrev nOt : List Str := ["_law_stream", "_law_value", "_law_some", "_law_more"]
theorem scOt : FnScope nOt ["_law_stream", "_law_value"] (defScope sOt) := ⟨rfl, rfl, rfl, by decide +kernel, rfl, by decide +kernel, by decide +kernel⟩
section
variable {K : PySem.W.Frag} {C : Addr} {Cs : Nat → Addr}
theorem othA (Sk : Kits K C Cs) {B : Addr → Prop} {n : Nat} {H H1 H2 : Hp} {p d : Addr} {k : Str} {rs : List (Str × Str × Str)} {parts ds : List V} (hB : ∀ b, B b → was H b) (s : Same H H1) (N : NewN C H1 H2 p k rs parts d ds) (row : Fld.lookup k = some rs)
    (hp : ∀ v ∈ parts, ∃ x : Str, v = .str x ∧ x.length ≤ 1000) (hc : ∀ (i : Nat) r, rs[parts.length + i]? = some r → r.1 ≠ "ctx") : (∀ old, Oth C Cs B n H H2 old (.ref p)) ∧ ∃ kv, KvAt C Cs (res B H2) (.ref p) kv ∧ isLst kv = false := by
  obtain ⟨f, sh⟩ := newA Sk N row hp hc
  have s1 : Same (res (was H1) H2) (res (was H) H2) := res_up fun b o n e => ⟨fun z => n (by
    obtain ⟨o', e'⟩ := Option.ne_none_iff_exists'.mp z
    unfold was
    rw [s _ _ e']
    simp), e⟩
  have z := fun old => Oth.node (n := n) (old := old) (B := B) Sk (f.up Sk s1) (sh.up Sk f s1) (fun c _ => (by decide : (0 : Nat) < 2)) (InF.mem (List.mem_singleton.mpr rfl)) (by decide) hB
  exact ⟨fun old => (z old).1, (z []).2.2⟩
theorem othB (Sk : Kits K C Cs) {B : Addr → Prop} {n : Nat} {H H1 H2 : Hp} {p d : Addr} {rs : List (Str × Str × Str)} {ds : List V} (hB : ∀ b, B b → was H b) (s : Same H H1) (N : NewN C H1 H2 p "Name" rs [.str "a"] d ds) (row : Fld.lookup ("Name" : Str) = some rs) :
    (∀ old, Oth C Cs B n H H2 old (.ref p)) ∧ ∃ kv, KvAt C Cs (res B H2) (.ref p) kv ∧ isLst kv = false := by
  obtain ⟨p', d', f, sh⟩ := newB Sk N row
  have s1 : Same (res (was H1) H2) (res (was H) H2) := res_up fun b o n e => ⟨fun z => n (by
    obtain ⟨o', e'⟩ := Option.ne_none_iff_exists'.mp z
    unfold was
    rw [s _ _ e']
    simp), e⟩
  have z := fun old => Oth.node (n := n) (old := old) (B := B) Sk (f.up Sk s1) (sh.up Sk f s1) (fun c _ => by show (if c = p then 1 else 0) < 2; split <;> decide) (InF.mem (List.mem_cons_self ..)) (by show (if p = p then 2 else 1) ≤ 2; rw [if_pos rfl]; decide) hB
  exact ⟨fun old => (z old).1, (z []).2.2⟩
end
/-- the list of other values, so far -/
structure LS (C : Addr) (Cs : Nat → Addr) (B : Addr → Prop) (n : Nat) (H H' : Hp) (old : List Addr) (l : Addr) (xs : List V) (N : Nat) : Prop where
  sm : Same H H'
  nl : H l = none
  at_ : H' l = some (.lst xs)
  ob : ∀ x ∈ xs, Oth C Cs B n H H' old x
  len : xs.length ≤ N
  ne : xs ≠ []
theorem LS.cat {K : PySem.W.Frag} {C : Addr} {Cs : Nat → Addr} (Sk : Kits K C Cs) {B : Addr → Prop} {n N M : Nat} {H H1 H2 : Hp} {old : List Addr} {l p : Addr} {xs ys : List V} (A : LS C Cs B n H H1 old l xs N) (s : Same H1 H2) (np : H2 p = none) (hy : ∀ y ∈ ys, Oth C Cs B n H H2 old y) (hM : ys.length ≤ M) :
    LS C Cs B n H (upd H2 p (.lst (xs ++ ys))) old p (xs ++ ys) (N + M) := by
  have s2 := same_new (o := .lst (xs ++ ys)) np
  refine ⟨(A.sm.trans s).trans s2, (A.sm.trans s).free np, upd_same, fun x hx => ?_, by rw [List.length_append]; have := A.len; omega, by simp [A.ne]⟩
  rcases List.mem_append.mp hx with h | h
  · exact (A.ob x h).up Sk (s.trans s2)
  · exact (hy x h).up Sk s2
theorem noCtx {rs : List (Str × Str × Str)} (h : (rs.all fun r => !decide (r.1 = "ctx")) = true) {m : Nat} : ∀ (i : Nat) r, rs[m + i]? = some r → r.1 ≠ "ctx" := fun i r g e => by
  have z := List.all_eq_true.mp h r (List.mem_of_getElem? g)
  rw [decide_eq_true e] at z
  cases z
theorem noCtxM : ∀ (i : Nat) r, ([("pattern", "PATTERN", "?"), ("name", "NAME", "?")] : List (Str × Str × Str))[([] : List V).length + i]? = some r → r.1 ≠ "ctx" := noCtx (by decide +kernel)
theorem noCtxG : ∀ (i : Nat) r, ([("posonlyargs", "arg", "*"), ("args", "arg", "*"), ("vararg", "arg", "?"), ("kwonlyargs", "arg", "*"), ("kw_defaults", "EXPR", "?*"), ("kwarg", "arg", "?"), ("defaults", "EXPR", "*")] : List (Str × Str × Str))[([] : List V).length + i]? = some r → r.1 ≠ "ctx" := noCtx (by decide +kernel)
def spOt (C : Addr) (Cs : Nat → Addr) (KK : PySem.W.Frag) : Sp := fun vs H Q _ => ∃ (a c : Addr) (S : Stm) (B : Addr → Prop) (n : Nat) (v : V) (kv : Kv) (ks : List Kv), vs = [.ref a, v] ∧ StmAt H a c S ∧ S.cnt < 1000000 ∧ (∀ b, B b → was H b) ∧ B a ∧ B c ∧ 9 < n ∧ n ≤ 900 ∧
  FvAt C Cs (res B H) v kv ks ∧ (∀ k ∈ ks, isLst kv = true → isLst k = false) ∧ LenV (res B H) n v ∧
  ∀ (H' : Hp) (S' : Stm) (v' : V), StmAt H' a c S' → S'.cnt ≤ S.cnt + 1 → Kept a c H H' → Oth C Cs B (n + 1) H H' (kidsV C (res B H) v) v' → Q v' H'
theorem rowsX : Fld.lookup ("Pass" : Str) = some [] ∧ Fld.lookup ("Load" : Str) = some [] ∧ Fld.lookup ("Add" : Str) = some [] ∧ Fld.lookup ("Name" : Str) = some ([("id", "NAME", ""), ("ctx", "CONTEXT", "")] : List (Str × Str × Str)) ∧
    Fld.lookup ("MatchAs" : Str) = some ([("pattern", "PATTERN", "?"), ("name", "NAME", "?")] : List (Str × Str × Str)) ∧ Fld.lookup ("arguments" : Str) = some ([("posonlyargs", "arg", "*"), ("args", "arg", "*"), ("vararg", "arg", "?"), ("kwonlyargs", "arg", "*"), ("kw_defaults", "EXPR", "?*"), ("kwarg", "arg", "?"), ("defaults", "EXPR", "*")] : List (Str × Str × Str)) := by decide +kernel
section
variable {P : Program} {w : World} {K : PySem.W.Frag} {mg : Str → Option Value} {base : Heap} {C fIn fGt fSt fP : Addr} {Cs fI : Nat → Addr} {fdI : Nat → FuncData} {sd gd dP : FuncData}
theorem ok_ot {f : Addr} {fd : FuncData} {kI : Nat} (F : Fun K "_law_other" "_law_other" sOt f fd) (Z : Blt mg) (Sk : Kits K C Cs) (N : NDefs P w K mg base C fIn fGt fSt gd sd kI) (M : Mks P w K mg base Cs fI fdI)
    (O : FnOk P w K mg base CX0 2 fP dP ["_law_stream", "_law_some"] (spPick K)) (bO : Binds K dP ["_law_stream", "_law_some"] []) (kO : PySem.W.keepIn K (.ref fP) = true) (mO : mg "_law_pick" = some (.ref fP)) {k : Nat} (hk : kI + 1 ≤ k) (hk2 : 2 ≤ k) :
    FnOk P w K mg base CX0 (k + 1) f fd ["_law_stream", "_law_value"] (spOt C Cs K) := by
  refine F.ok scOt (fun vs H Q E h => ?_) (fun cdv A outer s H vs Q E hr h => ?_)
  · obtain ⟨a, c, S, B, n, v, kv, ks, rfl, _⟩ := h
    rfl
  obtain ⟨a, c, S, B, n, v, kv, ks, rfl, hS, hcnt, hB, hBa, hBc, hn9, hn, hf, hnl, hln, q⟩ := h
  have hr2 := hr.mono hk2
  have hrI := hr.mono hk
  refine ⟨_, C8.pss_cut (ps_set (i := 2) scOt.nd rfl (.inl rfl) (pe_lst (pa_cons pe_non (pa_cons pe_bl (pa_cons pe_bl (pa_cons pe_int (pa_cons pe_int (pa_cons (pe_un un_neg pe_int) (pa_cons pe_int (pa_cons pe_int (pa_cons pe_str (pa_cons pe_str (pa_cons pe_str (pa_cons pe_str (pa_cons pe_str (pa_cons pe_str (pa_cons pe_str (pa_cons pe_str
      (pa_cons (pe_tup pa_nil) (pa_cons (pe_lst pa_nil) (pa_cons (pe_lst (pa_cons pe_str pa_nil)) (pa_cons (pe_lst (pa_cons pe_non pa_nil)) pa_nil))))))))))))))))))))))
    (C8.pss_cut (ps_set (i := 2) scOt.nd rfl (.inl rfl) (pe_op op_cat (pv 2) (pe_lst (pa_cons pe_str (pa_cons pe_str (pa_cons pe_str (pa_cons pe_str pa_nil)))))))
    (C8.pss_cut (ps_set (i := 2) scOt.nd rfl (.inl rfl) (pe_op op_cat (pv 2) (pe_lst (pa_cons (pe_node N.M N.I hrI rfl N.mC (pa_cons pe_str (pa_cons pe_str pa_nil))) (pa_cons (pe_node N.M N.I hrI rfl N.mC (pa_cons pe_str pa_nil)) (pa_cons (pe_node N.M N.I hrI rfl N.mC (pa_cons pe_str pa_nil))
      (pa_cons (pe_node N.M N.I hrI rfl N.mC (pa_cons pe_str pa_nil)) (pa_cons (pe_node N.M N.I hrI rfl N.mC (pa_cons pe_str pa_nil)) (pa_cons (pe_node N.M N.I hrI rfl N.mC (pa_cons pe_str pa_nil)) pa_nil)))))))))
    (C8.pss_cut (ps_set (i := 2) scOt.nd rfl (.inl rfl) (pe_op op_cat (pv 2) (pe_lst (pa_cons (pe_node N.M N.I hrI rfl N.mC (pa_cons pe_str (pa_cons pe_str (pa_cons pe_str pa_nil)))) (pa_cons (pe_lst (pa_cons (pe_node N.M N.I hrI rfl N.mC (pa_cons pe_str pa_nil)) pa_nil))
      (pa_cons (pe_lst (pa_cons (pe_node N.M N.I hrI rfl N.mC (pa_cons pe_str (pa_cons pe_str pa_nil))) pa_nil)) (pa_cons (pe_tup (pa_cons (pe_node N.M N.I hrI rfl N.mC (pa_cons pe_str (pa_cons pe_str pa_nil))) pa_nil)) pa_nil)))))))
    (C8.pss_cut (ps_set (i := 2) scOt.nd rfl (.inl rfl) (pe_op op_cat (pv 2) (pe_lst (pa_cons (pe_make M.mk3 M.f3 hr2 rfl M.g3 M.b3 .nil pass0 (pa_cons pe_int pa_nil)) (pa_cons (pe_make M.mk1 M.f1 hr2 rfl M.g1 M.b1 .nil pass0 (pa_cons pe_int (pa_cons pe_int pa_nil))) pa_nil)))))
    (C8.pss_cut (ps_if (pt_val (pe_callB call_isi (by rfl) Z.isI (by decide +kernel) (pa_cons (pv 1) (pa_cons (pe_bltn (v := .ty "list") (by rfl) Z.ls (by decide +kernel) rfl) pa_nil))))
      (pss_cons (ps_set (i := 3) scOt.nd rfl (.inl rfl) (pe_lst (pa_cons (pe_op op_cat (pv 1) (pe_lst (pa_cons pe_non pa_nil))) (pa_cons (pe_op op_cat (pv 1) (pe_lst (pa_cons pe_str pa_nil))) (pa_cons (pe_op op_cat (pv 1) (pe_lst (pa_cons (pe_node N.M N.I hrI rfl N.mC (pa_cons pe_str (pa_cons pe_str pa_nil))) pa_nil))) pa_nil)))))
      (pss_one (ps_set (i := 2) scOt.nd rfl (.inl rfl) (pe_op op_cat (pe_op op_cat (pe_lst (pa_cons (pe_callTy call_tuple_of (by rfl) Z.tp (by decide +kernel) (pa_cons (pv 1) pa_nil)) (pa_cons (pe_slice sl_list (pv 1) (po_some pe_int) po_none) (pa_cons (pe_slice sl_list (pv 1) po_none (po_some (pe_un un_neg pe_int))) pa_nil)))) (pv 3)) (pe_slice sl_list (pv 2) po_none (po_some pe_int)))))) pss_nil)
    (pss_one (ps_ret (pe_call O hr2 rfl mO kO bO .nil pass0 (pa_cons (pv 0) (pa_cons (pv 2) pa_nil)))))))))), ?_⟩
  obtain ⟨rP, rL, rA, rN, rM, rG⟩ := rowsX
  have nB : ∀ {l : Addr} {Hx : Hp}, Same H Hx → Hx l = none → ¬ B l := fun s nl z => hB _ z (s.free nl)
  have hn2 : n + 1 ≤ 1000 := by omega
  refine ⟨fun σ H1 => ∃ l xs, σ = [some (.ref a), some v, some (.ref l), none] ∧ LS C Cs B (n + 1) H H1 (kidsV C (res B H) v) l xs 20, ?_, ?_⟩
  · refine ⟨_, rfl, by show 0 ≤ sizeLine; decide, fun t1 nt1 => ⟨by show 0 ≤ sizeLine; decide, fun l2 nl2 => ⟨by show 1 ≤ sizeLine; decide, fun l3 nl3 => ⟨by show 1 ≤ sizeLine; decide, fun l4 nl4 => ⟨by show 20 ≤ sizeLine; decide, fun l nl => ⟨l, [.non, .bl true, .bl false, .int 0, .int 1, .int (-1), .int 2, .int 97, .str "", .str "a", .str "1a", .str "a.b", .str "a..b", .str "*", .str "if", .str "a b", .ref t1, .ref l2, .ref l3, .ref l4], rfl, ?_⟩⟩⟩⟩⟩⟩
    have s1 := same_new (o := .tup []) nt1
    have s2 := same_new (o := .lst []) nl2
    have s3 := same_new (o := .lst [.str "a"]) nl3
    have s4 := same_new (o := .lst [.non]) nl4
    have s5 := same_new (o := .lst [.non, .bl true, .bl false, .int 0, .int 1, .int (-1), .int 2, .int 97, .str "", .str "a", .str "1a", .str "a.b", .str "a..b", .str "*", .str "if", .str "a b", .ref t1, .ref l2, .ref l3, .ref l4]) nl
    have hs1 := s5 _ _ (s4 _ _ (s3 _ _ (s2 _ _ (upd_same (H := H) (a := t1) (o := .tup [])))))
    have hs2 := s5 _ _ (s4 _ _ (s3 _ _ (upd_same (H := upd H t1 (.tup [])) (a := l2) (o := .lst []))))
    have hs3 := s5 _ _ (s4 _ _ (upd_same (H := upd (upd H t1 (.tup [])) l2 (.lst [])) (a := l3) (o := .lst [.str "a"])))
    have hs4 := s5 _ _ (upd_same (H := upd (upd (upd H t1 (.tup [])) l2 (.lst [])) l3 (.lst [.str "a"])) (a := l4) (o := .lst [.non]))
    refine ⟨(((s1.trans s2).trans s3).trans s4).trans s5, (((s1.trans s2).trans s3).trans s4).free nl, upd_same, fun x hx => ?_, by show 20 ≤ 20; decide, by simp⟩
    simp only [List.mem_cons, List.not_mem_nil, or_false] at hx
    rcases hx with rfl | rfl | rfl | rfl | rfl | rfl | rfl | rfl | rfl | rfl | rfl | rfl | rfl | rfl | rfl | rfl | rfl | rfl | rfl | rfl
    · exact Oth.plain Sk .non rfl rfl
    · exact Oth.plain Sk (.bl _) rfl rfl
    · exact Oth.plain Sk (.bl _) rfl rfl
    · exact Oth.plain Sk (.int _) rfl rfl
    · exact Oth.plain Sk (.int _) rfl rfl
    · exact Oth.plain Sk (.int _) rfl rfl
    · exact Oth.plain Sk (.int _) rfl rfl
    · exact Oth.plain Sk (.int _) rfl rfl
    · exact Oth.plain Sk (.str _ (by decide +kernel)) rfl rfl
    · exact Oth.plain Sk (.str _ (by decide +kernel)) rfl rfl
    · exact Oth.plain Sk (.str _ (by decide +kernel)) rfl rfl
    · exact Oth.plain Sk (.str _ (by decide +kernel)) rfl rfl
    · exact Oth.plain Sk (.str _ (by decide +kernel)) rfl rfl
    · exact Oth.plain Sk (.str _ (by decide +kernel)) rfl rfl
    · exact Oth.plain Sk (.str _ (by decide +kernel)) rfl rfl
    · exact Oth.plain Sk (.str _ (by decide +kernel)) rfl rfl
    · exact Oth.plain Sk (.tup (res_in (nB (Same.refl H) nt1) hs1)) rfl rfl
    · exact Oth.list Sk (nB s1 nl2) hs2 (Nat.zero_le _) hn2 fun x hx => by cases hx
    · exact Oth.list Sk (nB (s1.trans s2) nl3) hs3 (by show 1 ≤ n + 1; omega) hn2 fun x hx => by rw [List.mem_singleton.mp hx]; exact ⟨_, .str _ (by decide +kernel), rfl, rfl⟩
    · exact Oth.list Sk (nB ((s1.trans s2).trans s3) nl4) hs4 (by show 1 ≤ n + 1; omega) hn2 fun x hx => by rw [List.mem_singleton.mp hx]; exact ⟨_, .non, rfl, rfl⟩
  rintro σ H1 ⟨l1, xs1, rfl, A1⟩
  have zL : (1000 : Nat) < sizeLine := by decide
  refine ⟨fun σ H1 => ∃ l xs, σ = [some (.ref a), some v, some (.ref l), none] ∧ LS C Cs B (n + 1) H H1 (kidsV C (res B H) v) l xs 24, ?_, ?_⟩
  · refine ⟨_, rfl, by show 4 ≤ sizeLine; decide, fun l2 nl2 => ⟨l1, l2, xs1, _, rfl, rfl, same_new nl2 _ _ A1.at_, upd_same, by have := A1.len; show _ + 4 ≤ _; omega, fun p np => ⟨p, _, rfl, A1.cat (ys := [.str "a\n", .str "\na", .str "a.b\n", .str "a\t"]) (M := 4) Sk (same_new nl2) np (fun y hy => ?_) (by show 4 ≤ 4; decide)⟩⟩⟩
    simp only [List.mem_cons, List.not_mem_nil, or_false] at hy
    rcases hy with rfl | rfl | rfl | rfl <;> exact Oth.plain Sk (.str _ (by decide +kernel)) rfl rfl
  rintro σ H2 ⟨l2, xs2, rfl, A2⟩
  refine ⟨fun σ H1 => ∃ l xs, σ = [some (.ref a), some v, some (.ref l), none] ∧ LS C Cs B (n + 1) H H1 (kidsV C (res B H) v) l xs 30, ?_, ?_⟩
  · refine ⟨_, rfl, ⟨"Name", _, [.str "a"], rfl, rN, by decide, .inl rfl, fun Ha p1 d1 ds1 N1 => ?_⟩⟩
    refine ⟨"Pass", _, [], rfl, rP, by decide, .inl rfl, fun Hb p2 d2 ds2 N2 => ?_⟩
    refine ⟨"Load", _, [], rfl, rL, by decide, .inl rfl, fun Hc p3 d3 ds3 N3 => ?_⟩
    refine ⟨"Add", _, [], rfl, rA, by decide, .inl rfl, fun Hd p4 d4 ds4 N4 => ?_⟩
    refine ⟨"MatchAs", _, [], rfl, rM, by decide, .inl rfl, fun He p5 d5 ds5 N5 => ?_⟩
    refine ⟨"arguments", _, [], rfl, rG, by decide, .inl rfl, fun Hf p6 d6 ds6 N6 => ?_⟩
    have b1 := A2.sm
    have c1 := b1.trans N1.sm
    have c2 := c1.trans N2.sm
    have c3 := c2.trans N3.sm
    have c4 := c3.trans N4.sm
    have c5 := c4.trans N5.sm
    refine ⟨by show 6 ≤ sizeLine; decide, fun l nl => ⟨l2, l, xs2, _, rfl, rfl, same_new nl _ _ ((((((N1.sm.trans N2.sm).trans N3.sm).trans N4.sm).trans N5.sm).trans N6.sm) _ _ A2.at_), upd_same, by have := A2.len; show _ + 6 ≤ _; omega, fun p np => ⟨p, _, rfl, A2.cat (ys := [.ref p1, .ref p2, .ref p3, .ref p4, .ref p5, .ref p6]) (M := 6) Sk (((((((N1.sm.trans N2.sm).trans N3.sm).trans N4.sm).trans N5.sm).trans N6.sm)).trans (same_new nl)) np (fun y hy => ?_) (by show 6 ≤ 6; decide)⟩⟩⟩
    have e6 := same_new (o := .lst [.ref p1, .ref p2, .ref p3, .ref p4, .ref p5, .ref p6]) nl
    have no : ∀ v ∈ ([] : List V), ∃ x : Str, v = .str x ∧ x.length ≤ 1000 := fun v hv => by cases hv
    simp only [List.mem_cons, List.not_mem_nil, or_false] at hy
    rcases hy with rfl | rfl | rfl | rfl | rfl | rfl
    · exact ((othB Sk hB b1 N1 rN).1 _).up Sk (((((N2.sm.trans N3.sm).trans N4.sm).trans N5.sm).trans N6.sm).trans e6)
    · exact ((othA Sk hB c1 N2 rP no (fun i r h => by simp at h)).1 _).up Sk ((((N3.sm.trans N4.sm).trans N5.sm).trans N6.sm).trans e6)
    · exact ((othA Sk hB c2 N3 rL no (fun i r h => by simp at h)).1 _).up Sk (((N4.sm.trans N5.sm).trans N6.sm).trans e6)
    · exact ((othA Sk hB c3 N4 rA no (fun i r h => by simp at h)).1 _).up Sk ((N5.sm.trans N6.sm).trans e6)
    · exact ((othA Sk hB c4 N5 rM no noCtxM).1 _).up Sk (N6.sm.trans e6)
    · exact ((othA Sk hB c5 N6 rG no noCtxG).1 _).up Sk e6
  rintro σ H3 ⟨l3, xs3, rfl, A3⟩
  have no : ∀ v ∈ ([] : List V), ∃ x : Str, v = .str x ∧ x.length ≤ 1000 := fun v hv => by cases hv
  refine ⟨fun σ H1 => ∃ l xs, σ = [some (.ref a), some v, some (.ref l), none] ∧ LS C Cs B (n + 1) H H1 (kidsV C (res B H) v) l xs 34, ?_, ?_⟩
  · refine ⟨_, rfl, ⟨"Name", _, [.str "a", .str "b"], rfl, rN, by decide, .inl rfl, fun Ha p1 d1 ds1 N1 => ?_⟩⟩
    refine ⟨"Pass", _, [], rfl, rP, by decide, .inl rfl, fun Hb p2 d2 ds2 N2 => ?_⟩
    refine ⟨by show 1 ≤ sizeLine; decide, fun q2 nq2 => ?_⟩
    have w2 := same_new (o := .lst [.ref p2]) nq2
    have hq2 : (upd Hb q2 (.lst [.ref p2])) q2 = some (.lst [.ref p2]) := upd_same
    generalize upd Hb q2 (.lst [.ref p2]) = Hb' at w2 hq2 ⊢
    refine ⟨"Name", _, [.str "a"], rfl, rN, by decide, .inl rfl, fun Hc p3 d3 ds3 N3 => ?_⟩
    refine ⟨by show 1 ≤ sizeLine; decide, fun q3 nq3 => ?_⟩
    have w3 := same_new (o := .lst [.ref p3]) nq3
    have hq3 : (upd Hc q3 (.lst [.ref p3])) q3 = some (.lst [.ref p3]) := upd_same
    generalize upd Hc q3 (.lst [.ref p3]) = Hc' at w3 hq3 ⊢
    refine ⟨"Name", _, [.str "a"], rfl, rN, by decide, .inl rfl, fun Hd p4 d4 ds4 N4 => ?_⟩
    refine ⟨by show 1 ≤ sizeLine; decide, fun q4 nq4 => ?_⟩
    have w4 := same_new (o := .tup [.ref p4]) nq4
    have hq4 : (upd Hd q4 (.tup [.ref p4])) q4 = some (.tup [.ref p4]) := upd_same
    generalize upd Hd q4 (.tup [.ref p4]) = Hd' at w4 hq4 ⊢
    have b1 := A3.sm
    have c1 := b1.trans N1.sm
    have c2 := c1.trans N2.sm
    have c2' := c2.trans w2
    have c3 := c2'.trans N3.sm
    have c3' := c3.trans w3
    have c4 := c3'.trans N4.sm
    have t : Same H3 Hd' := ((((((N1.sm.trans N2.sm).trans w2).trans N3.sm).trans w3).trans N4.sm).trans w4)
    refine ⟨by show 4 ≤ sizeLine; decide, fun l nl => ⟨l3, l, xs3, _, rfl, rfl, same_new nl _ _ (t _ _ A3.at_), upd_same, by have := A3.len; show _ + 4 ≤ _; omega, fun p np => ⟨p, _, rfl, A3.cat (ys := [.ref p1, .ref q2, .ref q3, .ref q4]) (M := 4) Sk (t.trans (same_new nl)) np (fun y hy => ?_) (by show 4 ≤ 4; decide)⟩⟩⟩
    have e6 := same_new (o := .lst [.ref p1, .ref q2, .ref q3, .ref q4]) nl
    simp only [List.mem_cons, List.not_mem_nil, or_false] at hy
    rcases hy with rfl | rfl | rfl | rfl
    · refine ((othA Sk hB b1 N1 rN (fun v hv => ?_) (fun i r h => by rw [List.getElem?_eq_none (by simp)] at h; cases h)).1 _).up Sk ((((((N2.sm.trans w2).trans N3.sm).trans w3).trans N4.sm).trans w4).trans e6)
      simp only [List.mem_cons, List.not_mem_nil, or_false] at hv
      rcases hv with rfl | rfl <;> exact ⟨_, rfl, by decide +kernel⟩
    · obtain ⟨o1, kv1, o2, o3⟩ := othA (n := n + 1) Sk hB c1 N2 rP no (fun i r h => by simp at h)
      have s2 : Same (res B Hb) (res B Hb') := res_up fun b o n e => ⟨n, w2 _ _ e⟩
      exact (Oth.items (xs := []) Sk (nB c2 nq2) hq2 (by show 1 ≤ n + 1; omega) hn2 (fun x hx => by cases hx) (List.nil_sublist _) (.inr ⟨_, rfl, (o1 []).up Sk w2, kv1, o2.up s2, o3⟩)).up Sk ((((N3.sm.trans w3).trans N4.sm).trans w4).trans e6)
    · obtain ⟨o1, kv1, o2, o3⟩ := othB (n := n + 1) Sk hB c2' N3 rN
      have s2 : Same (res B Hc) (res B Hc') := res_up fun b o n e => ⟨n, w3 _ _ e⟩
      exact (Oth.items (xs := []) Sk (nB c3 nq3) hq3 (by show 1 ≤ n + 1; omega) hn2 (fun x hx => by cases hx) (List.nil_sublist _) (.inr ⟨_, rfl, (o1 []).up Sk w3, kv1, o2.up s2, o3⟩)).up Sk ((N4.sm.trans w4).trans e6)
    · exact (Oth.plain Sk (.tup (res_in (nB c4 nq4) hq4)) rfl rfl).up Sk e6
  rintro σ H4 ⟨l4, xs4, rfl, A4⟩
  refine ⟨fun σ H1 => ∃ l xs, σ = [some (.ref a), some v, some (.ref l), none] ∧ LS C Cs B (n + 1) H H1 (kidsV C (res B H) v) l xs 36, ?_, ?_⟩
  · refine ⟨_, rfl, fun x1 dx1 n1 nd1 ne1 => ⟨x1, dx1, [.int 5], rfl, rfl, upd_same, fun Ha fs1 hx1 ho1 => ⟨rfl, ?_⟩⟩⟩
    have w1 : Same H4 Ha := mk_same (C' := Cs 3) n1 nd1 ho1
    refine fun x2 dx2 n2 nd2 ne2 => ⟨x2, dx2, [.int 0, .int 0], rfl, rfl, upd_same, fun Hb fs2 hx2 ho2 => ⟨rfl, ?_⟩⟩
    have w2 : Same Ha Hb := mk_same (C' := Cs 1) n2 nd2 ho2
    have t := w1.trans w2
    refine ⟨by show 2 ≤ sizeLine; decide, fun l nl => ⟨l4, l, xs4, _, rfl, rfl, same_new nl _ _ (t _ _ A4.at_), upd_same, by have := A4.len; show _ + 2 ≤ _; omega, fun p np => ⟨p, _, rfl, A4.cat (ys := [.ref x1, .ref x2]) (M := 2) Sk (t.trans (same_new nl)) np (fun y hy => ?_) (by show 2 ≤ 2; decide)⟩⟩⟩
    have e6 := same_new (o := .lst [.ref x1, .ref x2]) nl
    simp only [List.mem_cons, List.not_mem_nil, or_false] at hy
    rcases hy with rfl | rfl
    · exact (Oth.plain Sk (.val (j := 3) (by decide) (res_in (nB A4.sm n1) hx1)) rfl rfl).up Sk (w2.trans e6)
    · exact (Oth.plain Sk (.val (j := 1) (by decide) (res_in (nB (A4.sm.trans w1) n2) hx2)) rfl rfl).up Sk e6
  rintro σ H5 ⟨l5, xs5, rfl, A5⟩
  refine ⟨fun σ H1 => ∃ l xs x3, σ = [some (.ref a), some v, some (.ref l), x3] ∧ LS C Cs B (n + 1) H H1 (kidsV C (res B H) v) l xs 60, ?_, ?_⟩
  · have f5 := hf.1.up (res_up (B := B) (B' := B) fun b o n e => ⟨n, A5.sm _ _ e⟩ : Same (res B H) (res B H5))
    refine ⟨_, rfl, v, .ty "list", _, _, _, rfl, .ty _, (f5.up res_out).ty Sk, kit_list Sk f5, _, rfl, ?_⟩
    cases hi : isLst kv with
    | false => exact iteF ⟨l5, xs5, none, rfl, A5.sm, A5.nl, A5.at_, A5.ob, Nat.le_trans A5.len (by decide), A5.ne⟩
    | true =>
      refine iteT ?_
      obtain ⟨hv, hit⟩ := hf
      cases hv with
      | lst hv0 hvl =>
        rename_i lv ys
        obtain ⟨el, hit⟩ := hit ys rfl
        have hyl : ys.length ≤ n := hln lv ys rfl hv0
        have e0 : kidsV C (res B H) (.ref lv) = ys.filterMap (nodeOf C (res B H)) := kidsV_lst hv0
        have it0 : ∀ x ∈ ys, ∃ k, KvAt C Cs (res B H) x k ∧ isLst k = false := fun x hx => by
          obtain ⟨i, hi⟩ := List.mem_iff_getElem?.mp hx
          have hl : i < ys.length := by
            rcases Nat.lt_or_ge i ys.length with z | z
            · exact z
            · rw [List.getElem?_eq_none z] at hi; cases hi
          have hk := List.getElem?_eq_getElem (l := ks) (i := i) (by omega)
          exact ⟨_, hit i x _ hi hk, hnl _ (List.mem_of_getElem? hk) rfl⟩
        have its : ∀ {H' : Hp} {zs : List V}, Same H H' → zs.Sublist ys → (∀ x ∈ zs, ∃ k, KvAt C Cs (res B H') x k ∧ isLst k = false) ∧ (zs.filterMap (nodeOf C (res B H'))).Sublist (kidsV C (res B H) (.ref lv)) := fun {H' zs} s hz => by
          have s2 : Same (res B H) (res B H') := res_up fun b o n e => ⟨n, s _ _ e⟩
          refine ⟨fun x hx => let ⟨k, h1, h2⟩ := it0 x (hz.subset hx); ⟨k, h1.up s2, h2⟩, ?_⟩
          rw [e0, fm_same (g := nodeOf C (res B H)) fun x hx => let ⟨k, h1, _⟩ := it0 x (hz.subset hx); nodeOf_up Sk h1 s2]
          exact hz.filterMap _
        have hlv5 : H5 lv = some (.lst ys) := A5.sm _ _ (res_at hv0).2
        have b5 := A5.sm
        refine ⟨_, rfl, by show 1 ≤ sizeLine; decide, fun q1 nq1 => ?_⟩
        have t1 := same_new (o := .lst [.non]) nq1
        have hq1 : (upd H5 q1 (.lst [.non])) q1 = some (.lst [.non]) := upd_same
        generalize upd H5 q1 (.lst [.non]) = Ha at t1 hq1 ⊢
        refine ⟨lv, q1, ys, _, rfl, rfl, t1 _ _ hlv5, hq1, by show ys.length + 1 ≤ sizeLine; omega, fun m1 nm1 => ?_⟩
        have t2 := same_new (o := .lst (ys ++ [.non])) nm1
        have hm1 : (upd Ha m1 (.lst (ys ++ [.non]))) m1 = some (.lst (ys ++ [.non])) := upd_same
        generalize upd Ha m1 (.lst (ys ++ [.non])) = Hb at t2 hm1 ⊢
        refine ⟨_, rfl, by show 1 ≤ sizeLine; decide, fun q2 nq2 => ?_⟩
        have t3 := same_new (o := .lst [.str "a"]) nq2
        have hq2 : (upd Hb q2 (.lst [.str "a"])) q2 = some (.lst [.str "a"]) := upd_same
        generalize upd Hb q2 (.lst [.str "a"]) = Hc at t3 hq2 ⊢
        have v3 := (t1.trans t2).trans t3
        refine ⟨lv, q2, ys, _, rfl, rfl, v3 _ _ hlv5, hq2, by show ys.length + 1 ≤ sizeLine; omega, fun m2 nm2 => ?_⟩
        have t4 := same_new (o := .lst (ys ++ [.str "a"])) nm2
        have hm2 : (upd Hc m2 (.lst (ys ++ [.str "a"]))) m2 = some (.lst (ys ++ [.str "a"])) := upd_same
        generalize upd Hc m2 (.lst (ys ++ [.str "a"])) = Hd at t4 hm2 ⊢
        refine ⟨_, rfl, ⟨"Name", _, [.str "a"], rfl, rN, by decide, .inl rfl, fun He p3 d3 ds3 N3 => ?_⟩⟩
        refine ⟨by show 1 ≤ sizeLine; decide, fun q3 nq3 => ?_⟩
        have t6 := same_new (o := .lst [.ref p3]) nq3
        have hq3 : (upd He q3 (.lst [.ref p3])) q3 = some (.lst [.ref p3]) := upd_same
        generalize upd He q3 (.lst [.ref p3]) = Hf at t6 hq3 ⊢
        have v6 := ((v3.trans t4).trans N3.sm).trans t6
        refine ⟨lv, q3, ys, _, rfl, rfl, v6 _ _ hlv5, hq3, by show ys.length + 1 ≤ sizeLine; omega, fun m3 nm3 => ?_⟩
        have t7 := same_new (o := .lst (ys ++ [.ref p3])) nm3
        have hm3 : (upd Hf m3 (.lst (ys ++ [.ref p3]))) m3 = some (.lst (ys ++ [.ref p3])) := upd_same
        generalize upd Hf m3 (.lst (ys ++ [.ref p3])) = Hg at t7 hm3 ⊢
        have v7 := v6.trans t7
        refine ⟨by show 3 ≤ sizeLine; decide, fun lm nlm => ?_⟩
        have t8 := same_new (o := .lst [.ref m1, .ref m2, .ref m3]) nlm
        have hlm : (upd Hg lm (.lst [.ref m1, .ref m2, .ref m3])) lm = some (.lst [.ref m1, .ref m2, .ref m3]) := upd_same
        generalize upd Hg lm (.lst [.ref m1, .ref m2, .ref m3]) = Hh at t8 hlm ⊢
        have v8 := v7.trans t8
        refine ⟨_, rfl, lv, ys, rfl, .inl ⟨SqL.of (v8 _ _ hlv5), fun tp ntp => ?_⟩⟩
        have t9 := same_new (o := .tup ys) ntp
        have htp : (upd Hh tp (.tup ys)) tp = some (.tup ys) := upd_same
        generalize upd Hh tp (.tup ys) = Hi at t9 htp ⊢
        have v9 := v8.trans t9
        refine ⟨_, rfl, _, rfl, lv, ys, rfl, SqL.of (v9 _ _ hlv5), fun s1 ns1 => ?_⟩
        have t10 := same_new (o := .lst (cutV ys (some 1) none)) ns1
        have hs1 : (upd Hi s1 (.lst (cutV ys (some 1) none))) s1 = some (.lst (cutV ys (some 1) none)) := upd_same
        generalize upd Hi s1 (.lst (cutV ys (some 1) none)) = Hj at t10 hs1 ⊢
        have v10 := v9.trans t10
        refine ⟨_, rfl, _, rfl, _, rfl, lv, ys, rfl, SqL.of (v10 _ _ hlv5), fun s2 ns2 => ?_⟩
        have t11 := same_new (o := .lst (cutV ys none (some (-1)))) ns2
        have hs2 : (upd Hj s2 (.lst (cutV ys none (some (-1))))) s2 = some (.lst (cutV ys none (some (-1)))) := upd_same
        generalize upd Hj s2 (.lst (cutV ys none (some (-1)))) = Hk at t11 hs2 ⊢
        have v11 := v10.trans t11
        refine ⟨by show 3 ≤ sizeLine; decide, fun lt nlt => ?_⟩
        have t12 := same_new (o := .lst [.ref tp, .ref s1, .ref s2]) nlt
        have hlt : (upd Hk lt (.lst [.ref tp, .ref s1, .ref s2])) lt = some (.lst [.ref tp, .ref s1, .ref s2]) := upd_same
        generalize upd Hk lt (.lst [.ref tp, .ref s1, .ref s2]) = Hl at t12 hlt ⊢
        have v12 := v11.trans t12
        have hlm12 := (((t9.trans t10).trans t11).trans t12) _ _ hlm
        refine ⟨_, rfl, lt, lm, _, _, rfl, rfl, hlt, hlm12, by show 3 + 3 ≤ sizeLine; decide, fun lu nlu => ?_⟩
        have t13 := same_new (o := .lst ([.ref tp, .ref s1, .ref s2] ++ [.ref m1, .ref m2, .ref m3])) nlu
        have hlu : (upd Hl lu (.lst ([.ref tp, .ref s1, .ref s2] ++ [.ref m1, .ref m2, .ref m3]))) lu = some (.lst ([.ref tp, .ref s1, .ref s2] ++ [.ref m1, .ref m2, .ref m3])) := upd_same
        generalize upd Hl lu (.lst ([.ref tp, .ref s1, .ref s2] ++ [.ref m1, .ref m2, .ref m3])) = Hm at t13 hlu ⊢
        have v13 := v12.trans t13
        refine ⟨_, rfl, _, rfl, l5, xs5, rfl, SqL.of (v13 _ _ A5.at_), fun s9 ns9 => ?_⟩
        have t14 := same_new (o := .lst (cutV xs5 none (some 9))) ns9
        have hs9 : (upd Hm s9 (.lst (cutV xs5 none (some 9)))) s9 = some (.lst (cutV xs5 none (some 9))) := upd_same
        generalize upd Hm s9 (.lst (cutV xs5 none (some 9))) = Hn at t14 hs9 ⊢
        have v14 := v13.trans t14
        have hlu14 := t14 _ _ hlu
        have hl5 := A5.len
        have hc9 := cutV_length xs5 none (some 9)
        refine ⟨lu, s9, _, _, rfl, rfl, hlu14, hs9, by show 6 + _ ≤ sizeLine; omega, fun lz nlz => ?_⟩
        have cs : ∀ (xs : List V) (lo hi : Option Int), (cutV xs lo hi).Sublist xs := fun xs lo hi => by
          unfold cutV
          exact (List.take_sublist _ _).trans (List.drop_sublist _ _)
        have L6 : LS C Cs B (n + 1) H Hn (kidsV C (res B H) (.ref lv)) lu ([.ref tp, .ref s1, .ref s2] ++ [.ref m1, .ref m2, .ref m3]) 6 := by
          refine ⟨b5.trans v14, (b5.trans v12).free nlu, hlu14, fun x hx => ?_, by show 6 ≤ 6; decide, by simp⟩
          have i1 := its (b5.trans v10) (cs ys (some 1) none)
          have i2 := its (b5.trans v11) (cs ys none (some (-1)))
          have c1 := cutV_length ys (some 1) none
          have c2 := cutV_length ys none (some (-1))
          have lz1 : ∀ z : V, (ys ++ [z]).length ≤ n + 1 := fun z => by rw [List.length_append]; show ys.length + 1 ≤ n + 1; omega
          simp only [List.mem_cons, List.mem_append, List.not_mem_nil, or_false] at hx
          rcases hx with (rfl | rfl | rfl) | (rfl | rfl | rfl)
          · exact (Oth.plain Sk (.tup (res_in (nB (b5.trans v8) ntp) htp)) rfl rfl).up Sk ((((t10.trans t11).trans t12).trans t13).trans t14)
          · exact (Oth.items (ys := []) Sk (nB (b5.trans v9) ns1) (by rw [List.append_nil]; exact hs1) (by rw [List.append_nil]; omega) hn2 i1.1 i1.2 (.inl rfl)).up Sk (((t11.trans t12).trans t13).trans t14)
          · exact (Oth.items (ys := []) Sk (nB (b5.trans v10) ns2) (by rw [List.append_nil]; exact hs2) (by rw [List.append_nil]; omega) hn2 i2.1 i2.2 (.inl rfl)).up Sk ((t12.trans t13).trans t14)
          · have i3 := its (b5.trans (t1.trans t2)) (List.Sublist.refl ys)
            exact (Oth.items Sk (nB (b5.trans t1) nm1) hm1 (lz1 _) hn2 i3.1 i3.2 (.inr ⟨_, rfl, Oth.plain Sk .non rfl rfl, _, .non, rfl⟩)).up Sk (((((((((((t3.trans t4).trans N3.sm).trans t6).trans t7).trans t8).trans t9).trans t10).trans t11).trans t12).trans t13).trans t14)
          · have i3 := its (b5.trans (v3.trans t4)) (List.Sublist.refl ys)
            exact (Oth.items Sk (nB (b5.trans v3) nm2) hm2 (lz1 _) hn2 i3.1 i3.2 (.inr ⟨_, rfl, Oth.plain Sk (.str _ (by decide +kernel)) rfl rfl, _, .str _ (by decide +kernel), rfl⟩)).up Sk (((((((((N3.sm.trans t6).trans t7).trans t8).trans t9).trans t10).trans t11).trans t12).trans t13).trans t14)
          · have i3 := its (b5.trans v7) (List.Sublist.refl ys)
            obtain ⟨o1, kv1, o2, o3⟩ := othB (n := n + 1) Sk hB (b5.trans (v3.trans t4)) N3 rN
            have w6 := t6.trans t7
            have s2' : Same (res B He) (res B Hg) := res_up fun b o n e => ⟨n, w6 _ _ e⟩
            exact (Oth.items Sk (nB (b5.trans v6) nm3) hm3 (lz1 _) hn2 i3.1 i3.2 (.inr ⟨_, rfl, (o1 []).up Sk w6, kv1, o2.up s2', o3⟩)).up Sk ((((((t8.trans t9).trans t10).trans t11).trans t12).trans t13).trans t14)
        have hob : ∀ y ∈ cutV xs5 none (some 9), Oth C Cs B (n + 1) H Hn (kidsV C (res B H) (.ref lv)) y := fun y hy => (A5.ob y ((cs xs5 none (some 9)).subset hy)).up Sk v14
        have L7 := L6.cat (M := 36) Sk (Same.refl Hn) nlz hob (by omega)
        exact ⟨lz, _, _, rfl, L7.sm, L7.nl, L7.at_, L7.ob, Nat.le_trans L7.len (by decide), L7.ne⟩
      | _ => cases hi
  rintro σ H6 ⟨l6, xs6, x3, rfl, A6⟩
  have la : l6 ≠ a := fun z => hS.a0 (z ▸ A6.nl)
  have lc : l6 ≠ c := fun z => hS.c0 (z ▸ A6.nl)
  have hl6 := A6.len
  refine ⟨_, rfl, _, rfl, a, c, l6, S, xs6, rfl, hS.keep A6.sm, hcnt, A6.at_, la, lc, List.length_pos_iff.mpr A6.ne, by omega, fun H7 S7 x h7 hc7 k7 hx => q H7 S7 x h7 hc7 ((Kept.same A6.sm).trans k7) ((A6.ob x hx).upR Sk (res_up fun b o n e => ⟨n, k7 b o (fun z => n (z ▸ hS.a0)) (fun z => n (z ▸ hS.c0)) e⟩) (res_up fun b o n e => ⟨n, k7 b o (fun z => n (z ▸ hBa)) (fun z => n (z ▸ hBc)) e⟩))⟩
end
end K5

namespace K5
open PySem PySem.Spec PyProof.Rows L2 StX RZ TL
/-! ### a world with another value in a field -/
theorem LenV.mono {R : Hp} {n m : Nat} {v : V} (h : LenV R n v) (hm : n ≤ m) : LenV R m v := fun a xs e h' => Nat.le_trans (h a xs e h') hm
section
variable {K : PySem.W.Frag} {C : Addr} {Cs : Nat → Addr} {R R' R3 : Hp} {F : List (Addr × Addr)} {ht wt : Addr → Nat}
theorem LenV.off {n : Nat} {v : V} {kv : Kv} {d : Addr} {kvs : List (Key × V)} (h : LenV R n v) (k : KvAt C Cs R v kv) (hd : R d = some (.dK kvs)) (s : Same (res (fun b => b = d) R) R3) : LenV R3 n v :=
  LenV.up (fun a xs e h' => h a xs e (res_out _ _ h')) (k.off hd) s
theorem flat_set {α β : Type} (f : α → List β) : ∀ {l : List α} {i : Nat} {x : α}, i < l.length → (l.set i x).flatMap f = (l.take i).flatMap f ++ (f x ++ (l.drop (i + 1)).flatMap f)
  | [], i, x, h => by cases h
  | y :: r, 0, x, h => rfl
  | y :: r, i + 1, x, h => by
    rw [List.set_cons_succ, List.flatMap_cons, flat_set f (Nat.lt_of_succ_lt_succ h), List.take_succ_cons, List.flatMap_cons, List.append_assoc]
    rfl
theorem flat_at {α β : Type} (f : α → List β) {l : List α} {i : Nat} {x : α} (h : l[i]? = some x) : l.flatMap f = (l.take i).flatMap f ++ (f x ++ (l.drop (i + 1)).flatMap f) := by
  have hi : i < l.length := by
    rcases Nat.lt_or_ge i l.length with z | z
    · exact z
    · rw [List.getElem?_eq_none z] at h; cases h
  have e : l.set i x = l := by
    rw [List.getElem?_eq_getElem hi] at h
    cases h
    exact List.set_getElem_self hi
  rw [← flat_set f hi, e]
theorem sub_sum (w : Addr → Nat) : ∀ {l m : List Addr}, l.Sublist m → (l.map w).sum ≤ (m.map w).sum
  | _, _, .slnil => Nat.le_refl _
  | _, _, .cons a h => by
    have := sub_sum w h
    simp only [List.map_cons, List.sum_cons]
    omega
  | _, _, .cons₂ a h => by
    have := sub_sum w h
    simp only [List.map_cons, List.sum_cons]
    omega
theorem mem_set {α : Type} {l : List α} {i : Nat} {x y : α} (h : y ∈ l.set i x) : y ∈ l ∨ y = x := List.mem_or_eq_of_mem_set h
/-- Fo.put with the lengths -/
theorem Fo.putS (Sk : Kits K C Cs) (A : Fo C Cs R F ht wt) {n : Nat} (sh : Sh C Cs R n F) {x : Addr × Addr} (hx : x ∈ F) {S : Addr → Prop} {k : Str} {rs : List (Str × Str × Str)} {vs vs' : List V} (N : NodeOk C Cs R S x.1 k x.2 rs vs) (hl : vs'.length = vs.length)
    (hv : ∀ v ∈ vs', ∃ kv ks, FvAt C Cs R v kv ks ∧ ∀ k ∈ ks, isLst kv = true → isLst k = false) (hk : ∀ c ∈ vs'.flatMap (kidsV C R), InF F c ∧ ht c < ht x.1) (hw : 1 + ((vs'.flatMap (kidsV C R)).map wt).sum ≤ wt x.1) (hn : ∀ v ∈ vs', LenV R n v)
    (ho : ∀ b o, b ≠ x.2 → R b = some o → R' b = some o) (hd : R' x.2 = some (.dK (fkv (namesOf rs) vs'))) :
    Fo C Cs R' F ht wt ∧ Sh C Cs R' n F ∧ NodeOk C Cs R' (InF F) x.1 k x.2 rs vs' ∧ vs'.flatMap (kidsV C R') = vs'.flatMap (kidsV C R) := by
  obtain ⟨B, N2, e⟩ := A.put Sk hx N hl hv hk hw ho hd
  have s : Same (res (fun b => b = x.2) R) R' := fun b o e => by
    obtain ⟨n, e⟩ := res_at e
    exact ho b o n e
  refine ⟨B, fun y hy v hv' => ?_, N2, e⟩
  by_cases e : y = x
  · subst e
    rw [N2.vp] at hv'
    obtain ⟨kv, ks, f, _⟩ := hv v hv'
    exact (hn v hv').off f.1 N.dk s
  · have ne : y.2 ≠ x.2 := fun z => e (snd_inj A.dn y hy x hx z)
    obtain ⟨k2, rs2, vs2, N3, _⟩ := A.get hy
    have z := sh y hy
    rw [N3.vp] at z
    have N4 := ((N3.off Sk N.dk ne).1.up Sk s).1
    rw [N4.vp] at hv'
    obtain ⟨kv, ks, f, _⟩ := N3.vals v hv'
    exact (z v hv').off f.1 N.dk s
/-- another value, with new nodes -/
theorem mutW (Sk : Kits K C Cs) {B : Addr → Prop} {H H' : Hp} {a c : Addr} (A : Fo C Cs (res B H) F ht wt) {n : Nat} (hn : 10 ≤ n) (sh : Sh C Cs (res B H) n F) (hB : ∀ b, B b → was H b) (ba : B a) (bc : B c) (k : Kept a c H H') {x : Addr × Addr} (hx : x ∈ F)
    {kd : Str} {rs : List (Str × Str × Str)} {vs : List V} (N : NodeOk C Cs (res B H) (InF F) x.1 kd x.2 rs vs) (hh : ∀ c ∈ vs.flatMap (kidsV C (res B H)), ht c < ht x.1) (hw : 1 + ((vs.flatMap (kidsV C (res B H))).map wt).sum ≤ wt x.1) {i : Nat} {v v' : V} {nm : Str} (hv : vs[i]? = some v) (hnm : (namesOf rs)[i]? = some nm)
    (O : Oth C Cs B (n + 1) H H' (kidsV C (res B H) v) v') :
    ∃ F' ht' wt', Fo C Cs (res B (upd H' x.2 (.dK (putK (fkv (namesOf rs) vs) (.inr nm) v')))) F' ht' wt' ∧ Sh C Cs (res B (upd H' x.2 (.dK (putK (fkv (namesOf rs) vs) (.inr nm) v')))) (n + 1) F' ∧ ∀ c, InF F c → InF F' c ∧ ht' c = ht c + 2 ∧ wt' c = 3 * wt c := by
  have s : Same (res B H) (res B H') := res_up fun b o n e => ⟨n, k b o (fun z => n (z ▸ ba)) (fun z => n (z ▸ bc)) e⟩
  obtain ⟨F2, ht2, wt2, f2, sh2, h2, ⟨kv', ks', fv', nl'⟩, ln', K1, K2, eK, eK1, eK2, eK3⟩ := O.ex
  have s2 : Same (res (was H) H') (res B H') := res_up fun b o n e => ⟨fun z => n (hB b z), e⟩
  have A1 := (A.up Sk s).scale
  have shA := sh.up Sk A s
  have shB := sh2.up Sk f2 s2
  obtain ⟨htm, wtm, W, e1, e2⟩ := A1.add (f2.up Sk s2) (A.apart f2)
  have shW : Sh C Cs (res B H') (n + 1) (F ++ F2) := fun y hy v hv => by
    rcases List.mem_append.mp hy with h | h
    · exact (shA y h v hv).mono (by omega)
    · exact (shB y h v hv).mono (by omega)
  obtain ⟨N2, ek⟩ := N.up Sk s
  have hi : i < vs.length := by
    rcases Nat.lt_or_ge i vs.length with z | z
    · exact z
    · rw [List.getElem?_eq_none z] at hv; cases hv
  have hkv : ∀ u ∈ vs, kidsV C (res B H') u = kidsV C (res B H) u := fun u hu => by
    obtain ⟨kv, ks, f, _⟩ := N.vals u hu
    exact kidsV_up Sk f s
  rw [fkv_set (rows_nodup N.row) (by unfold namesOf; rw [List.length_map, N.len]) hnm]
  have hx1 := InF.mem hx
  have nbd : ¬ B x.2 := (res_at N.dk).1
  have mem1 : ∀ c ∈ vs.flatMap (kidsV C (res B H)), InF (F ++ F2) c ∧ htm c < htm x.1 := fun c hc => by
    have z := N.kids c hc
    rw [(e1 c z).1, (e1 _ hx1).1]
    have := hh c hc
    exact ⟨InF.app.mpr (.inl z), by omega⟩
  have kset : (vs.set i v').flatMap (kidsV C (res B H')) = (vs.take i).flatMap (kidsV C (res B H)) ++ (kidsV C (res B H') v' ++ (vs.drop (i + 1)).flatMap (kidsV C (res B H))) := by
    rw [flat_set _ hi]
    rw [flat_same (f := kidsV C (res B H')) (g := kidsV C (res B H)) fun u hu => hkv u (List.mem_of_mem_take hu), flat_same (xs := vs.drop (i + 1)) (f := kidsV C (res B H')) (g := kidsV C (res B H)) fun u hu => hkv u (List.mem_of_mem_drop hu)]
  have kold := flat_at (kidsV C (res B H)) hv
  have hvm := List.mem_of_getElem? hv
  have put := W.putS (R' := res B (upd H' x.2 (.dK (fkv (namesOf rs) (vs.set i v'))))) Sk shW (x := x) (List.mem_append_left _ hx) N2 (vs' := vs.set i v') (List.length_set ..)
    (fun u hu => by
      rcases mem_set hu with h | h
      · exact N2.vals u h
      · rw [h]; exact ⟨kv', ks', fv', nl'⟩)
    (fun c hc => by
      rw [kset] at hc
      rcases List.mem_append.mp hc with h | h
      · exact mem1 c (by rw [kold]; exact List.mem_append_left _ h)
      rcases List.mem_append.mp h with h | h
      · rw [eK] at h
        rcases List.mem_append.mp h with h | h
        · exact mem1 c (by rw [kold]; exact List.mem_append_right _ (List.mem_append_left _ (eK1.subset h)))
        · have z := eK2 c h
          rw [(e2 c z).1, (e1 _ hx1).1]
          have := h2 c z
          exact ⟨InF.app.mpr (.inr z), by omega⟩
      · exact mem1 c (by rw [kold]; exact List.mem_append_right _ (List.mem_append_right _ h)))
    (by
      have sc : ∀ l : List Addr, (∀ c ∈ l, InF F c) → (l.map wtm).sum = 3 * (l.map wt).sum := fun l hl => by
        rw [List.map_congr_left fun c hc => (e1 c (hl c hc)).2]
        clear hl
        induction l with
        | nil => rfl
        | cons y r ih => simp only [List.map_cons, List.sum_cons, ih]; omega
      have i1 : ∀ c ∈ (vs.take i).flatMap (kidsV C (res B H)), InF F c := fun c hc => N.kids c (by rw [kold]; exact List.mem_append_left _ hc)
      have i2 : ∀ c ∈ kidsV C (res B H) v, InF F c := fun c hc => N.kids c (by rw [kold]; exact List.mem_append_right _ (List.mem_append_left _ hc))
      have i3 : ∀ c ∈ (vs.drop (i + 1)).flatMap (kidsV C (res B H)), InF F c := fun c hc => N.kids c (by rw [kold]; exact List.mem_append_right _ (List.mem_append_right _ hc))
      have w1 := sc _ i1
      have w2 := sc K1 (fun c hc => i2 c (eK1.subset hc))
      have w3 := sc _ i3
      have w4 : (K2.map wtm).sum = (K2.map wt2).sum := by rw [List.map_congr_left fun c hc => (e2 c (eK2 c hc)).2]
      have w5 : (K1.map wt).sum ≤ ((kidsV C (res B H) v).map wt).sum := sub_sum wt eK1
      rw [kold, List.map_append, List.map_append, List.sum_append, List.sum_append] at hw
      rw [kset, eK, List.map_append, List.map_append, List.map_append, List.sum_append, List.sum_append, List.sum_append, w1, w2, w3, w4, (e1 _ hx1).2]
      omega)
    (fun u hu => by
      rcases mem_set hu with h | h
      · have z := shW x (List.mem_append_left _ hx)
        rw [N2.vp] at z
        exact z u h
      · rw [h]; exact ln')
    (fun b o nb e => by
      obtain ⟨z1, z2⟩ := res_at e
      exact res_in z1 (by rw [upd_ne nb]; exact z2))
    (res_in nbd upd_same)
  exact ⟨F ++ F2, htm, wtm, put.1, put.2.1, fun c hc => ⟨InF.app.mpr (.inl hc), e1 c hc⟩⟩
end
end K5

namespace K5
open PySem PySem.Spec PyProof.Rows L2 StX RZ TL
/-! ### each kind's small tree, with other values -/
abbrev sEr : Stmt := topS 52
abbrev nEr : List Str := ["_law_stream", "_law_table_here", "_law_kind", "_law_tree_here", "_law_name", "_law_held_here", "_law_kept", "_law_thing"]
theorem scEr : FnScope nEr ["_law_stream", "_law_table_here"] (defScope sEr) := ⟨rfl, rfl, rfl, by decide +kernel, rfl, by decide +kernel, by decide +kernel⟩
def allKinds : List Str := allEnts.map Prod.fst
theorem allKinds_ok : (allKinds.all fun k => (Fld.lookup k).isSome && decide (k ≠ "groups")) = true := by
  have h : (((rowsTo 5).map Prod.fst).all fun k => (Fld.lookup k).isSome && decide (k ≠ "groups")) = true := by decide +kernel
  have e : allKinds = (rowsTo 5).map Prod.fst := by
    unfold allKinds allEnts
    rw [List.map_map]
    rfl
  rw [e]
  exact h
structure WDefs (P : Program) (w : World) (K : PySem.W.Frag) (mg : Str → Option Value) (base : Heap) (C : Addr) (Cs : Nat → Addr) (fTr fIs fDu : Addr) (dTr dIs dDu : FuncData) (k1 k2 k3 : Nat) : Prop where
  T : ∀ j, j ≤ 6 → FnOk P w K mg base CX0 k1 fTr dTr pTr (spTr j C Cs)
  bT : Binds K dTr pTr []
  kT : PySem.W.keepIn K (.ref fTr) = true
  mT : mg "_law_tree" = some (.ref fTr)
  I : FnOk P w K mg base CX0 k2 fIs dIs ["thing"] (spTree C Cs)
  bI : Binds K dIs ["thing"] []
  kI : PySem.W.keepIn K (.ref fIs) = true
  mI : mg "is_tree" = some (.ref fIs)
  D : ∀ n, n ≤ 30 → FnOk P w K mg base CX0 k3 fDu dDu ["_law_table_here", "_law_thing"] (spDue n C Cs)
  bD : Binds K dDu ["_law_table_here", "_law_thing"] []
  kD : PySem.W.keepIn K (.ref fDu) = true
  mD : mg "_law_is_due" = some (.ref fDu)
/-- a drawn tree of which the topmost node's fields change -/
structure Wk (C : Addr) (Cs : Nat → Addr) (a c : Addr) (H4 H5 : Hp) (p5 d5 : Addr) (F : List (Addr × Addr)) (ht wt : Addr → Nat) (kd : Str) (rs : List (Str × Str × Str)) (S5 : Stm) (pl : Addr) (yl : List V) (us : List V) (H7 : Hp) : Prop where
  st : StmAt H7 a c S5
  kp : Kept a c H4 H7
  pl_ : H7 pl = some (.lst yl)
  sm : Same (res (fun b => b = d5) (res (was H4) H5)) (res (was H4) H7)
  fo : Fo C Cs (res (was H4) H7) F ht wt
  sh : Sh C Cs (res (was H4) H7) 10 F
  nd : NodeOk C Cs (res (was H4) H7) (InF F) p5 kd d5 rs us
section
variable {K : PySem.W.Frag} {C : Addr} {Cs : Nat → Addr} {a c : Addr} {H4 H5 H7 H8 : Hp} {p5 d5 : Addr} {F : List (Addr × Addr)} {ht wt : Addr → Nat} {kd : Str} {rs : List (Str × Str × Str)} {S5 : Stm} {pl : Addr} {yl us vs : List V}
theorem Wk.same (Sk : Kits K C Cs) (A : Wk C Cs a c H4 H5 p5 d5 F ht wt kd rs S5 pl yl us H7) (s : Same H7 H8) : Wk C Cs a c H4 H5 p5 d5 F ht wt kd rs S5 pl yl us H8 := by
  have s2 : Same (res (was H4) H7) (res (was H4) H8) := res_up fun b o n e => ⟨n, s _ _ e⟩
  exact ⟨A.st.keep s, A.kp.trans (Kept.same s), s _ _ A.pl_, A.sm.trans s2, A.fo.up Sk s2, A.sh.up Sk A.fo s2, (A.nd.up Sk s2).1⟩
theorem Wk.set (Sk : Kits K C Cs) (A : Wk C Cs a c H4 H5 p5 d5 F ht wt kd rs S5 pl yl us H7) (W : Drn C Cs (res (was H4) H5) F ht wt) (hx : (p5, d5) ∈ F) (N0 : NodeOk C Cs (res (was H4) H5) (InF F) p5 kd d5 rs vs) (hh : ∀ c ∈ vs.flatMap (kidsV C (res (was H4) H5)), ht c < ht p5)
    (hw : 1 + ((vs.flatMap (kidsV C (res (was H4) H5))).map wt).sum ≤ wt p5) {i : Nat} {nm : Str} {u y z : V} (hu : vs[i]? = some u) (hnm : (namesOf rs)[i]? = some nm) (eu : us = vs.set i y) (hz : z = u ∨ ∃ kv ks, FvAt C Cs (res (was H4) H7) z kv ks ∧ (∀ k ∈ ks, isLst kv = true → isLst k = false) ∧ kidsV C (res (was H4) H7) z = [] ∧ LenV (res (was H4) H7) 10 z) (da : d5 ≠ a) (dc : d5 ≠ c) :
    Wk C Cs a c H4 H5 p5 d5 F ht wt kd rs S5 pl yl (vs.set i z) (upd H7 d5 (.dK (putK (fkv (namesOf rs) us) (.inr nm) z))) := by
  have hi : i < vs.length := by
    rcases Nat.lt_or_ge i vs.length with q | q
    · exact q
    · rw [List.getElem?_eq_none q] at hu; cases hu
  have hum := List.mem_of_getElem? hu
  have orig : ∀ v ∈ vs, ∃ kv ks, FvAt C Cs (res (was H4) H7) v kv ks ∧ (∀ k ∈ ks, isLst kv = true → isLst k = false) ∧ kidsV C (res (was H4) H7) v = kidsV C (res (was H4) H5) v ∧ LenV (res (was H4) H7) 10 v := fun v hv => by
    obtain ⟨kv, ks, f, nl⟩ := N0.vals v hv
    have f1 := f.off N0.dk
    have z := W.2.2 _ hx
    rw [N0.vp] at z
    exact ⟨kv, ks, f1.up A.sm, nl, by rw [kidsV_up Sk f1 A.sm, kidsV_up Sk f1 res_out], (z v hv).off f.1 N0.dk A.sm⟩
  have hzz : ∃ kv ks, FvAt C Cs (res (was H4) H7) z kv ks ∧ (∀ k ∈ ks, isLst kv = true → isLst k = false) ∧ (kidsV C (res (was H4) H7) z).Sublist (kidsV C (res (was H4) H5) u) ∧ LenV (res (was H4) H7) 10 z := by
    rcases hz with rfl | ⟨kv, ks, f, nl, e, ln⟩
    · obtain ⟨kv, ks, f, nl, e, ln⟩ := orig z hum
      exact ⟨kv, ks, f, nl, by rw [e]; exact List.Sublist.refl _, ln⟩
    · exact ⟨kv, ks, f, nl, by rw [e]; exact List.nil_sublist _, ln⟩
  obtain ⟨kz, ksz, fz, nlz, subz, lnz⟩ := hzz
  have kset : ((vs.set i z).flatMap (kidsV C (res (was H4) H7))).Sublist (vs.flatMap (kidsV C (res (was H4) H5))) := by
    rw [flat_set _ hi, flat_at (kidsV C (res (was H4) H5)) hu]
    rw [flat_same (f := kidsV C (res (was H4) H7)) (g := kidsV C (res (was H4) H5)) fun v hv => (let ⟨_, _, _, _, e, _⟩ := orig v (List.mem_of_mem_take hv); e), flat_same (xs := vs.drop (i + 1)) (f := kidsV C (res (was H4) H7)) (g := kidsV C (res (was H4) H5)) fun v hv => (let ⟨_, _, _, _, e, _⟩ := orig v (List.mem_of_mem_drop hv); e)]
    exact (List.Sublist.refl _).append (subz.append (List.Sublist.refl _))
  have lus : us.length = (namesOf rs).length := by unfold namesOf; rw [List.length_map, A.nd.len]
  have eset : us.set i z = vs.set i z := by rw [eu, List.set_set]
  rw [fkv_set (rows_nodup N0.row) lus hnm, eset]
  have nB : ¬ was H4 d5 := (res_at N0.dk).1
  obtain ⟨f2, sh2, n2, _⟩ := A.fo.putS (R' := res (was H4) (upd H7 d5 (.dK (fkv (namesOf rs) (vs.set i z))))) Sk A.sh (x := (p5, d5)) hx A.nd (vs' := vs.set i z) (by rw [eu, List.length_set, List.length_set])
    (fun v hv => by
      rcases mem_set hv with h | h
      · obtain ⟨kv, ks, f, nl, _⟩ := orig v h
        exact ⟨kv, ks, f, nl⟩
      · rw [h]; exact ⟨kz, ksz, fz, nlz⟩)
    (fun q hq => ⟨N0.kids q (kset.subset hq), hh q (kset.subset hq)⟩)
    (Nat.le_trans (Nat.add_le_add_left (sub_sum wt kset) 1) hw)
    (fun v hv => by
      rcases mem_set hv with h | h
      · obtain ⟨_, _, _, _, _, ln⟩ := orig v h
        exact ln
      · rw [h]; exact lnz)
    (fun b o nb e => by
      obtain ⟨z1, z2⟩ := res_at e
      exact res_in z1 (by rw [upd_ne nb]; exact z2))
    (res_in nB upd_same)
  have hd7 : H7 d5 = some (.dK (fkv (namesOf rs) us)) := (res_at A.nd.dk).2
  refine ⟨⟨by rw [upd_ne da.symm]; exact A.st.lst, by rw [upd_ne dc.symm]; exact A.st.cel, A.st.ne, A.st.len, A.st.cur0, A.st.cnt0, A.st.mix0, A.st.mix1⟩, fun b o n1 n2 e => ?_, ?_, fun b o e => ?_, f2, sh2, n2⟩
  · rw [upd_ne fun z => nB (by rw [← z]; unfold was; rw [e]; simp)]
    exact A.kp b o n1 n2 e
  · rw [upd_ne fun z => by have e := A.pl_; rw [z, hd7] at e; cases e]
    exact A.pl_
  · obtain ⟨q1, q2⟩ := res_at e
    obtain ⟨q3, q4⟩ := res_at (A.sm b o e)
    exact res_in q3 (by rw [upd_ne q1]; exact q4)
/-- both answers are the same -/
theorem agree (Sk : Kits K C Cs) {R : Hp} (A : Fo C Cs R F ht wt) (s1 : Same R H7) (s2 : Same H7 H8) {p : Addr} (hp : InF F p) {kv : Kv} {b1 b2 : Bool} (e1 : b1 = true ↔ ∃ p', V.ref p = .ref p' ∧ isNode kv = true ∧ Tr C Cs H7 p') (e2 : b2 = true ↔ ∃ p', V.ref p = .ref p' ∧ isNode kv = true ∧ Tr C Cs H8 p') : b1 = b2 := by
  have hS : ∀ q, InF F q → NodeH C Cs R (InF F) ht q := fun q hq => (A.nds q hq).h
  have i1 := Tr.up Sk hS s1 (ht p + 1) p (Nat.lt_succ_self _) hp
  have i2 := Tr.up Sk hS (s1.trans s2) (ht p + 1) p (Nat.lt_succ_self _) hp
  have iff : b1 = true ↔ b2 = true := by
    rw [e1, e2]
    constructor
    · rintro ⟨p', e, h, t⟩
      cases e
      exact ⟨p, rfl, h, i2.mpr (i1.mp t)⟩
    · rintro ⟨p', e, h, t⟩
      cases e
      exact ⟨p, rfl, h, i1.mpr (i2.mp t)⟩
  cases b1 <;> cases b2 <;> simp_all
end
def spEr (C : Addr) (Cs : Nat → Addr) : Sp := fun vs H Q _ => ∃ (a c t : Addr) (S : Stm), vs = [.ref a, .ref t] ∧ StmAt H a c S ∧ TbX H a c t ∧ S.cnt + 70000 < 1000000 ∧ ∀ H', Q (.bl true) H'
section
variable {P : Program} {w : World} {K : PySem.W.Frag} {mg : Str → Option Value} {base : Heap} {C fIn fGt fSt : Addr} {Cs : Nat → Addr} {sd gd : FuncData} {fTr fIs fDu : Addr} {dTr dIs dDu : FuncData} {k1 k2 k3 kI : Nat}
theorem ok_er {f : Addr} {fd : FuncData} (F : Fun K "_law_each_right" "_law_each_right" sEr f fd) (Z : Blt mg) (Sk : Kits K C Cs) (N : NDefs P w K mg base C fIn fGt fSt gd sd kI) (Y : WDefs P w K mg base C Cs fTr fIs fDu dTr dIs dDu k1 k2 k3) {k : Nat} (h1 : k1 ≤ k) (h2 : k2 ≤ k) (h3 : k3 ≤ k) (hk : 2 ≤ k) :
    FnOk P w K mg base CX0 (k + 1) f fd ["_law_stream", "_law_table_here"] (spEr C Cs) := by
  refine F.ok scEr (fun vs H Q E h => ?_) (fun cdv A outer s H vs Q E hr h => ?_)
  · obtain ⟨a, c, t, S, rfl, _⟩ := h
    rfl
  obtain ⟨a, c, t, S, rfl, hS, hT, hcnt, q⟩ := h
  have hr1 := hr.mono h1
  have hr2 := hr.mono h2
  have hr3 := hr.mono h3
  have hrm := hr.mono hk
  have hrs := hr.mono (show 1 ≤ k by omega)
  refine ⟨_, pss_cons (ps_for PassesOwn.never rfl (pi_list (pe_callB cr_sortSA (by rfl) Z.so (by decide +kernel) (pa_cons (pe_lock (pe_lc (own := [("_law_kind", 2)]) (g := gName 2) (tt := tB (tOp rNe (tVar 2) (tC (.str "groups")))) rfl scEr.nd (pi_keys (pv 1))
        (blkOk_by (own := [("_law_kind", 2)]) (N := nEr) (sc := defScope sEr) (by decide +kernel)) (fun _ _ _ _ _ => pg_name (i := 2) scEr.nd rfl (.inl rfl)) (fun _ _ _ _ _ => pts_one (pt_cmpR op_ne (pv 2) pe_str (nomark _))) (fun _ _ _ _ _ => pv 2))) pa_nil))) (pg_name (i := 2) scEr.nd rfl (.inl rfl))
      (C8.pss_cut (ps_set (i := 3) scEr.nd rfl (.inl rfl) (pe_call (Y.T 4 (by decide)) hr1 rfl Y.mT Y.kT Y.bT .nil pass0 (pa_cons (pv 0) (pa_cons (pv 1) (pa_cons (pv 2) (pa_cons pe_int pa_nil))))))
      (pss_one (ps_for PassesOwn.never rfl (pi_list (pe_dget (hu_of hr) (pv 1) (pv 2) (fun _ _ => rfl))) (pg_unl rfl (pgs_cons (pg_name (i := 4) scEr.nd rfl (.inl rfl)) (pgs_cons (pg_name (i := 5) scEr.nd rfl (.inl rfl)) pgs_nil)))
        (pss_cons (ps_set (i := 6) scEr.nd rfl (.inl rfl) (pe_ixN N.Nc N.G N.bG hrm (pv 3) (pv 4)))
        (pss_one (ps_for PassesOwn.never rfl (pi_tup (pe_tup (pa_cons pe_non (pa_cons (pe_lst pa_nil) (pa_cons (pe_lst (pa_cons pe_non pa_nil)) (pa_cons (pv 6) pa_nil)))))) (pg_name (i := 7) scEr.nd rfl (.inl rfl))
          (pss_cons (ps_asg (pv 7) (pg_sub (pv 3) (pv 4) (set_node N.Nc N.S N.bS hrs)))
          (pss_one (ps_if (pt_cmpR op_ne (pe_call Y.I hr2 rfl Y.mI Y.kI Y.bI .nil pass0 (pa_cons (pv 3) pa_nil)) (pe_call (Y.D 9 (by decide)) hr3 rfl Y.mD Y.kD Y.bD .nil pass0 (pa_cons (pv 1) (pa_cons (pv 3) pa_nil))) (nomark _)) (pss_one (ps_ret pe_bl)) pss_nil))))))))))
    (pss_one (ps_ret pe_bl)), ?_⟩
  have hT0 := hT
  obtain ⟨gX, eX, sX, qX, tvX, TX⟩ := hT
  have TH := TX.up (res_out)
  have hat := TH.at_
  have hlk : allKinds.length ≤ 200 := by unfold allKinds; rw [List.length_map]; exact allLen
  have zL : (1000 : Nat) < sizeLine := by decide
  have hlen : tvX.length = allEnts.length := TX.len
  have hkl : (mkT allEnts tvX ++ [((Sum.inr "groups" : Key), V.ref gX)]).length = allKinds.length + 1 := by
    rw [List.length_append, mkT_len hlen]
    unfold allKinds
    rw [List.length_map]
    rfl
  refine ⟨t, _, hat, trivial, fun od => ⟨_, rfl, t, od, rfl, .inl ⟨_, upd_same, fun D nD => ?_⟩⟩⟩
  have nDt : D ≠ t := fun z => by rw [z, upd_same] at nD; cases nD
  have nDH : H D = none := by rw [upd_ne nDt] at nD; exact nD
  refine lc_it walk_keys (fun i H3 => H3 t = some (.frz od (.dK (mkT allEnts tvX ++ [((Sum.inr "groups" : Key), V.ref gX)]))) ∧ H3 D = some (.lst ((allKinds.take i).map V.str)) ∧ ∀ b o, b ≠ t → H b = some o → H3 b = some o)
    ⟨by rw [upd_ne nDt.symm]; exact upd_same, upd_same, fun b o n e => by rw [upd_ne (ne_of_none e nDH), upd_ne n]; exact e⟩ (fun i H3 _ ⟨h, _⟩ => h) ?_ ?_
  · rintro i x H2 H3 hi ⟨ht3, hD3, ho3⟩ ⟨rfl, kk, vv, hkv, rfl⟩
    rw [hkl] at hi
    by_cases hin : i < allKinds.length
    · have hke : kk = Sum.inr allKinds[i] := by
        have z : ((mkT allEnts tvX ++ [((Sum.inr "groups" : Key), V.ref gX)]).map Prod.fst)[i]? = some kk := by rw [List.getElem?_map, hkv]; rfl
        rw [List.map_append, mkT_keys hlen, List.getElem?_append_left (by rw [List.length_map]; exact hin), List.getElem?_map] at z
        have z2 : (allEnts.map Prod.fst)[i]? = some allKinds[i] := List.getElem?_eq_getElem hin
        rw [z2] at z
        exact (Option.some.inj z).symm
      subst hke
      have hne := List.all_eq_true.mp allKinds_ok _ (List.getElem_mem hin)
      have hne2 : allKinds[i] ≠ "groups" := of_decide_eq_true (Bool.and_eq_true_iff.mp hne).2
      refine ⟨rfl, ?_⟩
      refine ⟨_, rfl, rfl, _, rfl, ?_⟩
      refine ite2 (fun cd => ?_) (fun cd => ?_)
      · refine ⟨_, rfl, _, hD3, by rw [List.length_map, List.length_take]; omega, by rw [upd_ne nDt.symm]; exact ht3, ?_, fun b o n e => by rw [upd_ne (ne_of_none e nDH)]; exact ho3 b o n e⟩
        rw [upd_same, List.take_succ, List.getElem?_eq_getElem hin, List.map_append]
        rfl
      · exact absurd (show _ = true by first | exact decide_eq_true (fun z => hne2 (V.str.inj z)) | simpa [kV] using hne2) cd
    · have hie : i = allKinds.length := by omega
      have hke : kk = (Sum.inr ("groups" : Str) : Key) := by
        have e : allKinds.length = (mkT allEnts tvX).length := by rw [mkT_len hlen]; unfold allKinds; rw [List.length_map]
        rw [hie, e, List.getElem?_append_right (Nat.le_refl _), Nat.sub_self] at hkv
        exact (congrArg Prod.fst (Option.some.inj hkv)).symm
      subst hke
      refine ⟨rfl, ?_⟩
      refine ⟨_, rfl, rfl, _, rfl, ?_⟩
      refine ite2 (fun cd => ?_) (fun cd => ?_)
      · exact absurd cd (by simp [kV])
      · refine ⟨ht3, ?_, ho3⟩
        rw [hD3, List.take_of_length_le (by omega), List.take_of_length_le (by omega)]
  · rintro H3 ⟨ht3, hD3, ho3⟩
    refine ⟨ht3, ?_⟩
    rw [hkl, List.take_of_length_le (by omega)] at hD3
    have hD4 : (upd H3 t (.dK (mkT allEnts tvX ++ [((Sum.inr "groups" : Key), V.ref gX)]))) D = some (.lst (allKinds.map V.str)) := by rw [upd_ne nDt]; exact hD3
    have s4 : Same H (upd H3 t (.dK (mkT allEnts tvX ++ [((Sum.inr "groups" : Key), V.ref gX)]))) := fun b o e => by
      by_cases eb : b = t
      · rw [eb, hat] at e
        rw [eb, upd_same]
        exact e
      · rw [upd_ne eb]
        exact ho3 b o eb e
    generalize upd H3 t (.dK (mkT allEnts tvX ++ [((Sum.inr "groups" : Key), V.ref gX)])) = H4 at hD4 s4 ⊢
    refine ⟨D, allKinds, rfl, SqL.of hD4, fun ys pl hp npl => ?_⟩
    have s5 := same_new (o := .lst (ys.map V.str)) npl
    have s45 := s4.trans s5
    have hpl0 : H pl = none := s4.free npl
    have hpl : (upd H4 pl (.lst (ys.map V.str))) pl = some (.lst (ys.map V.str)) := upd_same
    generalize upd H4 pl (.lst (ys.map V.str)) = H5 at s5 s45 hpl ⊢
    have hyl : ys.length ≤ 200 := by rw [hp.length_eq]; exact hlk
    have pa : pl ≠ a := fun z => hS.a0 (z ▸ hpl0)
    have pc : pl ≠ c := fun z => hS.c0 (z ▸ hpl0)
    refine ⟨pl, rfl, ⟨_, SqL.of hpl⟩, ?_⟩
    refine for_list (K := K) (a := pl) (xs := ys.map V.str) (fun i σ H6 => ∃ (S6 : Stm) (x2 x3 x4 x5 x6 x7 : Option V), σ = [some (.ref a), some (.ref t), x2, x3, x4, x5, x6, x7] ∧ StmAt H6 a c S6 ∧ S6.cnt ≤ S.cnt + ((i * 310 : Nat) : Int) ∧ Kept a c H H6 ∧ H6 pl = some (.lst (ys.map V.str)))
      ⟨S, none, none, none, none, none, none, rfl, hS.keep s45, by simp, Kept.same s45, hpl⟩ (fun i σ H6 _ ⟨_, _, _, _, _, _, _, _, _, _, _, h⟩ => SqL.of h) ?_ ?_
    · rintro i x σ H6 hx ⟨S6, x2, x3, x4, x5, x6, x7, rfl, h6, hc6, k6, hpl6⟩
      rw [List.getElem?_map] at hx
      obtain ⟨kd, hkd, rfl⟩ : ∃ kd, ys[i]? = some kd ∧ x = .str kd := by
        cases z : ys[i]? with
        | none => rw [z] at hx; cases hx
        | some b => rw [z] at hx; cases hx; exact ⟨b, rfl, rfl⟩
      have hil : i < ys.length := by
        rcases Nat.lt_or_ge i ys.length with z | z
        · exact z
        · rw [List.getElem?_eq_none z] at hkd; cases hkd
      have hkm : kd ∈ allKinds := hp.mem_iff.mp (List.mem_of_getElem? hkd)
      obtain ⟨rs, row⟩ : ∃ rs, Fld.lookup kd = some rs := by
        have z := (Bool.and_eq_true_iff.mp (List.all_eq_true.mp allKinds_ok _ hkm)).1
        cases e : Fld.lookup kd with
        | none => rw [e] at z; cases z
        | some rs => exact ⟨rs, rfl⟩
      have c4 : cT 4 = 310 := rfl
      have hi3 : i * 310 ≤ 200 * 310 := Nat.mul_le_mul_right _ (by omega)
      have hi4 : (i + 1) * 310 = i * 310 + 310 := Nat.succ_mul _ _
      refine ⟨fun σ H7 => ∃ (S7 : Stm) (p5 d5 : Addr) (F : List (Addr × Addr)) (ht wt : Addr → Nat) (vs : List V), σ = [some (.ref a), some (.ref t), some (.str kd), some (.ref p5), x4, x5, x6, x7] ∧ S7.cnt ≤ S.cnt + (((i + 1) * 310 : Nat) : Int) ∧ Drn C Cs (res (was H6) H7) F ht wt ∧ (p5, d5) ∈ F ∧ ht p5 = 4 ∧ wt p5 ≤ 40 ∧
        Wk C Cs a c H6 H7 p5 d5 F ht wt kd rs S7 pl (ys.map V.str) vs H7 ∧ (∀ c ∈ vs.flatMap (kidsV C (res (was H6) H7)), ht c < ht p5) ∧ 1 + ((vs.flatMap (kidsV C (res (was H6) H7))).map wt).sum ≤ wt p5, ?_, ?_⟩
      · refine ⟨_, rfl, _, rfl, _, rfl, a, c, t, S6, kd, 0, rfl, h6, hT0.kept k6, G_up row 0, rfl, by decide, by decide, by rw [c4]; omega, fun H7 S7 p5 d5 F ht wt h7 hc7 k7 W hpd hpi hht hwt => ?_⟩
        rw [c4] at hc7
        obtain ⟨k', rs', vs, N, a1, a2⟩ := W.1.get hpd
        have ek : k' = kd := by
          obtain ⟨dx, e⟩ := hpi
          obtain ⟨dx', e'⟩ := N.at_
          have e : res (was H6) H7 p5 = _ := e
          have e' : res (was H6) H7 p5 = _ := e'
          rw [e] at e'
          injection e' with e'
          injection e' with _ _ e'
          simp [nodeFs] at e'
          exact e'.symm
        subst ek
        have er : rs' = rs := by
          have z := N.row
          rw [row] at z
          exact (Option.some.inj z).symm
        subst er
        exact ⟨S7, p5, d5, F, ht, wt, vs, rfl, by omega, W, hpd, hht, hwt, ⟨h7, k7, k7 _ _ pa pc hpl6, res_out, W.1, W.2.2, N⟩, a1, a2⟩
      rintro σ H7 ⟨S7, p5, d5, F, ht, wt, vs, rfl, hc7, W, hpd, hht, hwt, A7, hh, hw⟩
      have k7 : Kept a c H H7 := k6.trans A7.kp
      have nR := (A7.nd)
      have row' := A7.nd.row
      have N0 := A7.nd
      have hlv := N0.len
      have hnd2 := rows_nodup row'
      have hs7 := rows_small row'
      have da : d5 ≠ a := fun z => (res_at N0.dk).1 (z ▸ h6.a0)
      have dc : d5 ≠ c := fun z => (res_at N0.dk).1 (z ▸ h6.c0)
      obtain ⟨ar, ps, dg, ⟨as, ha, hal, hap⟩, hpl', hpr⟩ := TX.rowU row'
      refine ⟨_, rfl, _, rfl, t, .ref ar, rfl, dg _ (ac_up k7), ar, rfl, ⟨_, SqL.of (ac_up k7 _ _ ha)⟩, ?_⟩
      have kk : ∀ {H8 : Hp} {us : List V}, Wk C Cs a c H6 H7 p5 d5 F ht wt kd rs S7 pl (ys.map V.str) us H8 → Kept a c H H8 := fun A => k6.trans A.kp
      refine for_list (K := K) (a := ar) (xs := as.map V.ref) (fun n σ H8 => ∃ (x4 x5 x6 x7 : Option V), σ = [some (.ref a), some (.ref t), some (.str kd), some (.ref p5), x4, x5, x6, x7] ∧ Wk C Cs a c H6 H7 p5 d5 F ht wt kd rs S7 pl (ys.map V.str) vs H8)
        ⟨x4, x5, x6, x7, rfl, A7⟩ (fun n σ H8 _ ⟨_, _, _, _, _, A⟩ => SqL.of (ac_up (kk A) _ _ ha)) ?_ ?_
      · rintro n x σ H8 hx ⟨y4, y5, y6, y7, rfl, A8⟩
        rw [List.getElem?_map] at hx
        obtain ⟨b, hb, rfl⟩ : ∃ b, as[n]? = some b ∧ x = .ref b := by
          cases z : as[n]? with
          | none => rw [z] at hx; cases hx
          | some b => rw [z] at hx; cases hx; exact ⟨b, rfl, rfl⟩
        have hn : n < rs.length := by
          rcases Nat.lt_or_ge n as.length with z | z
          · omega
          · rw [List.getElem?_eq_none z] at hb; cases hb
        obtain ⟨r, hr'⟩ : ∃ r, rs[n]? = some r := ⟨_, List.getElem?_eq_getElem hn⟩
        obtain ⟨wd, hpw, hww⟩ := hpr n r hr'
        have hbw := ac_up (kk A8) _ _ (hap n b _ hb hpw)
        have hnm : (namesOf rs)[n]? = some r.1 := by unfold namesOf; rw [List.getElem?_map, hr']; rfl
        obtain ⟨u, hu⟩ : ∃ u, vs[n]? = some u := ⟨_, List.getElem?_eq_getElem (by omega)⟩
        obtain ⟨dx8, hp8⟩ := A8.nd.at_
        have hp8' := (res_at hp8).2
        have hd8 := (res_at A8.nd.dk).2
        refine ⟨b, [.str r.1, .str wd], rfl, SqL.of hbw, rfl, _, _, rfl, _, _, rfl, rfl, ?_⟩
        refine ⟨_, rfl, _, rfl, p5, dx8, d5, r.1, nodeFs kd d5, _, u, rfl, rfl, hp8', rfl, hd8, valV_fkv hnd2 hnm hu, ?_⟩
        refine ⟨Nat.zero_le _, fun l1 nl1 => ⟨by show 1 ≤ sizeLine; decide, fun l2 nl2 => ⟨_, rfl, by show 4 ≤ sizeLine; decide, fun tq ntq => ?_⟩⟩⟩
        have t1 := same_new (o := .lst []) nl1
        have t2 := same_new (o := .lst [.non]) nl2
        have t3 := same_new (o := .tup [.non, .ref l1, .ref l2, u]) ntq
        have q1 := t3 _ _ (t2 _ _ (upd_same (H := H8) (a := l1) (o := .lst [])))
        have q2 := t3 _ _ (upd_same (H := upd H8 l1 (.lst [])) (a := l2) (o := .lst [.non]))
        have q3 : (upd (upd (upd H8 l1 (.lst [])) l2 (.lst [.non])) tq (.tup [.non, .ref l1, .ref l2, u])) tq = some (.tup [.non, .ref l1, .ref l2, u]) := upd_same
        have t4 := (t1.trans t2).trans t3
        have m1 : ¬ was H6 l1 := fun z => z (A8.kp.free A8.st.a0 A8.st.c0 nl1)
        have m2 : ¬ was H6 l2 := fun z => z (A8.kp.free A8.st.a0 A8.st.c0 (t1.free nl2))
        generalize upd (upd (upd H8 l1 (.lst [])) l2 (.lst [.non])) tq (.tup [.non, .ref l1, .ref l2, u]) = H9 at t4 q1 q2 q3 ⊢
        have A9 := A8.same Sk t4
        have eu : vs = vs.set n u := by
          have hnv : n < vs.length := by omega
          rw [List.getElem?_eq_getElem hnv] at hu
          cases hu
          exact (List.set_getElem_self hnv).symm
        refine ⟨tq, rfl, ⟨_, SqT.of q3⟩, ?_⟩
        refine for_tup (K := K) (a := tq) (xs := [.non, .ref l1, .ref l2, u]) (fun m σ H10 => ∃ (x7 : Option V) (y : V), σ = [some (.ref a), some (.ref t), some (.str kd), some (.ref p5), some (.str r.1), some (.str wd), some u, x7] ∧ Wk C Cs a c H6 H7 p5 d5 F ht wt kd rs S7 pl (ys.map V.str) (vs.set n y) H10 ∧ (m = 4 → y = u) ∧
            H10 l1 = some (.lst []) ∧ H10 l2 = some (.lst [.non]) ∧ H10 tq = some (.tup [.non, .ref l1, .ref l2, u]))
          ⟨y7, u, rfl, eu ▸ A9, fun _ => rfl, q1, q2, q3⟩ (fun m σ H10 _ ⟨_, _, _, _, _, _, _, h⟩ => SqT.of h) ?_ ?_
        · rintro m x σ H10 hx ⟨x7, y, rfl, A10, _, e1, e2, e3⟩
          have hxz : (m = 3 → x = u) ∧ (x = u ∨ ∃ kv ks, FvAt C Cs (res (was H6) H10) x kv ks ∧ (∀ k ∈ ks, isLst kv = true → isLst k = false) ∧ kidsV C (res (was H6) H10) x = [] ∧ LenV (res (was H6) H10) 10 x) := by
            have g1 : res (was H6) H10 l1 = some (.lst []) := res_in m1 e1
            have g2 : res (was H6) H10 l2 = some (.lst [.non]) := res_in m2 e2
            rcases m with _ | _ | _ | _ | m
            · cases hx
              exact ⟨fun z => by omega, .inr ⟨.non, [], ⟨.non, fun xs e => by cases e⟩, fun k hk => (by cases hk), rfl, fun a xs e => by cases e⟩⟩
            · cases hx
              exact ⟨fun z => by omega, .inr ⟨.lst [], [], ⟨.lst g1 (by decide), fun xs e => by cases e; exact ⟨rfl, fun i x k g => by simp at g⟩⟩, fun k hk => (by cases hk), kidsV_lst g1, fun a xs e h' => by cases e; rw [g1] at h'; cases h'; decide⟩⟩
            · cases hx
              have ita : ∀ xs, Kv.lst [V.non] = .lst xs → ItemsAt C Cs (res (was H6) H10) xs [.non] := fun xs e => by
                cases e
                refine ⟨rfl, fun i x k h1 h2 => ?_⟩
                have z1 := List.mem_singleton.mp (List.mem_of_getElem? h1)
                have z2 := List.mem_singleton.mp (List.mem_of_getElem? h2)
                rw [z1, z2]
                exact .non
              exact ⟨fun z => by omega, .inr ⟨.lst [.non], [.non], ⟨.lst g2 (by decide), ita⟩, fun k hk _ => by rw [List.mem_singleton.mp hk]; rfl, kidsV_lst g2, fun a xs e h' => by cases e; rw [g2] at h'; cases h'; decide⟩⟩
            · cases hx
              exact ⟨fun _ => rfl, .inl rfl⟩
            · simp at hx
          obtain ⟨dx, hp10⟩ := A10.nd.at_
          have hp10' := (res_at hp10).2
          have hd10 := (res_at A10.nd.dk).2
          have hyn : (vs.set n y)[n]? = some y := List.getElem?_set_self (by omega)
          have A11 := A10.set Sk W hpd N0 hh hw hu hnm rfl hxz.2 da dc
          have hlen7 : (vs.set n y).length = (namesOf rs).length := by unfold namesOf; rw [List.length_map, List.length_set]; omega
          refine ⟨_, rfl, _, rfl, _, rfl, p5, dx, d5, r.1, nodeFs kd d5, _, y, rfl, rfl, hp10', rfl, hd10, valV_fkv hnd2 hnm hyn, ?_, ?_⟩
          · rw [fkv_len (by omega), List.length_set]
            omega
          obtain ⟨dx11, hp11⟩ := A11.nd.at_
          have kv11 : KvAt C Cs _ (.ref p5) (.node kd d5) := .node (res_at hp11).2
          have nR : d5 ≠ l1 ∧ d5 ≠ l2 ∧ d5 ≠ tq := ⟨fun z => (by rw [z, e1] at hd10; cases hd10), fun z => (by rw [z, e2] at hd10; cases hd10), fun z => (by rw [z, e3] at hd10; cases hd10)⟩
          refine ⟨_, rfl, .ref p5, .node kd d5, InF F, wt, rfl, kv11, fun p e _ => by cases e; exact ⟨InF.mem hpd, by omega⟩, fun q hq => ((A11.fo.nds q hq).up Sk res_out).w, fun H12 b1 s12 hb1 => ?_⟩
          have A12 := A11.same Sk s12
          obtain ⟨g2, e2', s2, q2, tv2, T2⟩ := (hT0.kept (kk A12)).out
          refine ⟨_, rfl, _, rfl, t, g2, e2', s2, q2, tv2, .ref p5, .node kd d5, InF F, ht, rfl, by decide, T2, kv11.up s12, fun p e _ => by cases e; exact ⟨InF.mem hpd, by omega⟩, fun q hq => ((A12.fo.nds q hq).up Sk res_out).h, fun H13 b2 s13 hb2 => ?_⟩
          have eb := agree Sk A11.fo res_out s12 (InF.mem hpd) hb1 hb2
          subst eb
          refine ⟨rfl, _, rfl, ?_⟩
          refine ite2 (fun cd => ?_) (fun cd => ?_)
          · exact absurd cd (by simp)
          · refine ⟨_, x, rfl, A12.same Sk s13, fun z => hxz.1 (by omega), ?_, ?_, ?_⟩
            · exact s13 _ _ (s12 _ _ (by rw [upd_ne nR.1.symm]; exact e1))
            · exact s13 _ _ (s12 _ _ (by rw [upd_ne nR.2.1.symm]; exact e2))
            · exact s13 _ _ (s12 _ _ (by rw [upd_ne nR.2.2.symm]; exact e3))
        · rintro σ H10 ⟨x7, y, rfl, A10, hy, _, _, _⟩
          rw [hy rfl, ← eu] at A10
          exact ⟨_, _, _, _, rfl, A10⟩
      · rintro σ H8 ⟨y4, y5, y6, y7, rfl, A8⟩
        exact ⟨S7, _, _, _, _, _, _, rfl, A8.st, hc7, kk A8, A8.pl_⟩
    · rintro σ H6 ⟨S6, x2, x3, x4, x5, x6, x7, rfl, h6, hc6, k6, hpl6⟩
      exact q H6
end
end K5

namespace K5
open PySem PySem.Spec PyProof.Rows L2 StX RZ TL
/-! ### repr of a list of two truths; a list != [] -/
def bTxt (b : Bool) : Str := if b then "True" else "False"
def rRep2 : List V → Hp → VK → Prop := fun xs H Q => ∃ (l : Addr) (b1 b2 : Bool), xs = [.ref l] ∧ H l = some (.lst [.bl b1, .bl b2]) ∧ Q (.str (PySem.listText [bTxt b1, bTxt b2])) H
theorem cr_rep2 {X : Cx} (hg : X.A.guards = some []) (hu : X.A.units + 2 < cLine) : CallR X (.builtin "repr") rRep2 := by
  intro pins s σ H xs us Q I r h
  obtain ⟨l, b1, b2, rfl, hl, q⟩ := h
  obtain ⟨u, rfl, rx⟩ := vals1 r
  cases rx
  obtain ⟨_, its, k, rr, g⟩ := I.hok l _ hl
  cases rr with
  | cons r1 rr =>
  cases rr with
  | cons r2 rr =>
  cases rr
  cases (show _ = Value.bool b1 from r1)
  cases (show _ = Value.bool b2 from r2)
  refine Calls.call_function_entry PySem.F.kind_repr PySem.F.plain_repr PySem.F.entry_repr (PySem.F.args_repr1 _) ?_
  unfold Builtin.«repr»
  refine wpAny_bind (m := oneArg "repr" _) (wpAny_pure ?_)
  have hTy : s.TypeIs (.ref l) "list" := ⟨_, g, rfl⟩
  refine wpAny_bind (wpAny_cRoomFor (show X.A.units + 1 < cLine by omega) ?_)
  refine wpAny_bind (wpAny_specialOf (name := Str.ofString "__repr__") hTy PySem.F.slot_list_repr.lookup ?_)
  refine wpAny_bind (m := callSpecialIfBound? (.ref l) (Str.ofString "__repr__")) (wpAny_callSpecialIfBound?_slot (name := Str.ofString "__repr__") hTy PySem.F.slot_list_repr
    (PySem.call_list_repr (ts := [bTxt b1, bTxt b2]) (x := .bool b1) (l := [.bool b2]) (g := []) hTy hg (fun v rest kw h => nomatch h) g rfl rfl (fun i y hy => ?_) (fun h' u tk hk => ?_) ?_))
  · rcases i with _ | _ | i
    · cases hy
      exact ⟨_, rfl, PySem.ReprIs.bool b1⟩
    · cases hy
      exact ⟨_, rfl, PySem.ReprIs.bool b2⟩
    · simp at hy
  · exact wpAny_bind (wpAny_isInstance (T := "str") (b := true) rfl isSubtype_str_str (wpAny_pure ⟨_, rfl, .str _, H, I.kept hk, ⟨_, rfl⟩, q⟩))
  · cases b1 <;> cases b2 <;> decide +kernel
def rNeE : R2 := fun x y H Q => ∃ (a b : Addr) (xs : List V), x = .ref a ∧ y = .ref b ∧ H a = some (.lst xs) ∧ H b = some (.lst []) ∧ Q (.bl (!xs.isEmpty)) H
theorem op_neE {X : Cx} (hu : X.A.units + 64 < cLine) : OpR X (compareOp .NotEq) rNeE := by
  intro pins s σ H x y v u Q I rx ry h
  obtain ⟨a, b, xs, rfl, rfl, ha, hb, q⟩ := h
  cases xs with
  | nil => exact op_neD hu pins s σ H _ _ v u Q I rx ry ⟨.list [], .list [], .lst (SqL.of ha) .nil, .lst (SqL.of hb) .nil, rfl, rfl, q⟩
  | cons z r =>
    cases rx
    cases ry
    obtain ⟨_, its, k, rr, g⟩ := I.hok a _ ha
    obtain ⟨_, its2, k2, rr2, g2⟩ := I.hok b _ hb
    show wpAny (model X.prog X.w) X.A (richCompare .NotEq _ _) (EP X pins σ Q) X.xe s
    refine SeqAt.RcNeAt.lists_lengths (items := its.toArray) (items2 := its2.toArray) ⟨_, g, rfl, k, rfl⟩ ⟨_, g2, rfl, k2, rfl⟩ ?_ (by omega) X.prog X.w X.xe _ ⟨.bl true, H, I, rfl, q⟩
    rw [List.size_toArray, List.size_toArray, ← rr.length, ← rr2.length]
    simp
def rIsNB : R2 := fun x y H Q => ∃ a b, x = .bl a ∧ y = .bl b ∧ Q (.bl (!decide (a = b))) H
theorem op_isNB {X : Cx} : OpR X (compareOp .IsNot) rIsNB := by
  intro pins s σ H x y v u Q I rx ry h
  obtain ⟨a, b, rfl, rfl, q⟩ := h
  cases (show v = Value.bool a from rx)
  cases (show u = Value.bool b from ry)
  by_cases e : a = b
  · subst e
    exact wpAny_isNot_self rfl ⟨.bl false, H, I, rfl, by simpa using q⟩
  · exact wpAny_isNot_other rfl (fun z => e (Value.bool.inj z)) ⟨.bl true, H, I, rfl, by simpa [e] using q⟩
end K5

namespace K5
open PySem PySem.Spec PyProof.Rows L2 StX RZ TL
/-! ### the law -/
abbrev sLaw : Stmt := topS 53
abbrev nLaw : List Str := ["_law_script", "_law_stream", "_law_table_here", "_law_turn", "_law_kinds", "_law_tree_here", "_law_k", "_law_node", "_law_name", "_law_held_here", "_law_due", "_law_thing", "_law_kind"]
theorem scLaw : FnScope nLaw ["_law_script"] (defScope sLaw) := ⟨rfl, rfl, rfl, by decide +kernel, rfl, by decide +kernel, by decide +kernel⟩
def spLaw (K : PySem.W.Frag) : Sp := fun vs H Q _ => ∃ (a : Addr) (ns : List Int), vs = [.ref a] ∧ SqL K H a (ns.map V.int) ∧ ns.length ≤ 63 ∧ ∀ H', Q (.bl true) H'
/-- a promise for all of some numbers -/
theorem FnOk.ex {P : Program} {w : World} {K : PySem.W.Frag} {mg : Str → Option Value} {base : Heap} {CX : CXT} {k m : Nat} {f : Addr} {fd : FuncData} {ps : List Str} {sp : Nat → Sp} (h : ∀ j, j ≤ m → FnOk P w K mg base CX k f fd ps (sp j)) : FnOk P w K mg base CX k f fd ps (fun vs H Q E => ∃ j, j ≤ m ∧ sp j vs H Q E) :=
  ⟨fun vs H Q E ⟨j, hj, z⟩ => (h j hj).len vs H Q E z, fun A outer s H args us vs Q E hr e0 hb r ⟨j, hj, z⟩ => (h j hj).run A outer s H args us vs Q E hr e0 hb r z⟩
def spTrs (C : Addr) (Cs : Nat → Addr) : Sp := fun vs H Q E => ∃ j, j ≤ 6 ∧ spTr j C Cs vs H Q E
structure LawD (P : Program) (w : World) (K : PySem.W.Frag) (mg : Str → Option Value) (base : Heap) (C : Addr) (Cs : Nat → Addr) (fTb fNo fOt fEr fD fP : Addr) (dTb dNo dOt dEr dD dP : FuncData) : Prop where
  B : FnOk P w K mg base CX0 2 fTb dTb [] spTbl
  bB : Binds K dTb [] []
  kB : PySem.W.keepIn K (.ref fTb) = true
  mB : mg "_law_table" = some (.ref fTb)
  N : FnOk P w K mg base CX0 40 fNo dNo ["_law_table_here", "_law_node"] (spNds 30 C Cs)
  bN : Binds K dNo ["_law_table_here", "_law_node"] []
  kN : PySem.W.keepIn K (.ref fNo) = true
  mN : mg "_law_nodes" = some (.ref fNo)
  O : FnOk P w K mg base CX0 40 fOt dOt ["_law_stream", "_law_value"] (spOt C Cs K)
  bO : Binds K dOt ["_law_stream", "_law_value"] []
  kO : PySem.W.keepIn K (.ref fOt) = true
  mO : mg "_law_other" = some (.ref fOt)
  R : FnOk P w K mg base CX0 130 fEr dEr ["_law_stream", "_law_table_here"] (spEr C Cs)
  bR : Binds K dEr ["_law_stream", "_law_table_here"] []
  kR : PySem.W.keepIn K (.ref fEr) = true
  mR : mg "_law_each_right" = some (.ref fEr)
  D : FnOk P w K mg base CX0 1 fD dD ["_law_stream", "_law_many"] spDraw
  bD : Binds K dD ["_law_stream", "_law_many"] []
  kD : PySem.W.keepIn K (.ref fD) = true
  mD : mg "_law_draw" = some (.ref fD)
  P' : FnOk P w K mg base CX0 2 fP dP ["_law_stream", "_law_some"] (spPick K)
  bP : Binds K dP ["_law_stream", "_law_some"] []
  kP : PySem.W.keepIn K (.ref fP) = true
  mP : mg "_law_pick" = some (.ref fP)
/-- the world of a turn -/
structure MW (C : Addr) (Cs : Nat → Addr) (a c : Addr) (H : Hp) (p : Addr) (m : Nat) (H7 : Hp) (F : List (Addr × Addr)) (ht wt : Addr → Nat) : Prop where
  kp : Kept a c H H7
  fo : Fo C Cs (res (was H) H7) F ht wt
  sh : Sh C Cs (res (was H) H7) (10 + m) F
  pf : InF F p
  hh : ht p < 7 + 2 * m
  ww : wt p ≤ 5773 * 3 ^ m
theorem MW.kept {K : PySem.W.Frag} {C : Addr} {Cs : Nat → Addr} {a c : Addr} {H H7 H8 : Hp} {p : Addr} {m : Nat} {F : List (Addr × Addr)} {ht wt : Addr → Nat} (Sk : Kits K C Cs) (ha : was H a) (hc : was H c) (A : MW C Cs a c H p m H7 F ht wt) (k : Kept a c H7 H8) : MW C Cs a c H p m H8 F ht wt := by
  have s : Same (res (was H) H7) (res (was H) H8) := res_up fun b o n e => ⟨n, k b o (fun z => n (z ▸ ha)) (fun z => n (z ▸ hc)) e⟩
  exact ⟨A.kp.trans k, A.fo.up Sk s, A.sh.up Sk A.fo s, A.pf, A.hh, A.ww⟩
theorem MW.mono {C : Addr} {Cs : Nat → Addr} {a c : Addr} {H H7 : Hp} {p : Addr} {m : Nat} {F : List (Addr × Addr)} {ht wt : Addr → Nat} (A : MW C Cs a c H p m H7 F ht wt) : MW C Cs a c H p (m + 1) H7 F ht wt := by
  have e : (3 : Nat) ^ (m + 1) = 3 ^ m * 3 := Nat.pow_succ ..
  have ww := A.ww
  have hh := A.hh
  exact ⟨A.kp, A.fo, fun x hx v hv => (A.sh x hx v hv).mono (by omega), A.pf, by omega, by rw [e]; omega⟩
theorem parts_ne : (allEnts.all fun e => e.2.all fun p => !p.isEmpty) = true := by decide +kernel
/-- the new table has nothing in common with the stream -/
theorem TbX.new {H0 H1 : Hp} {a c t g e s q : Addr} {tv : List Addr} {S : Stm} (h0 : StmAt H0 a c S) (s1 : Same H0 H1) (T : TblOk H1 t tv g e s q) (nw : ∀ v ∈ tv, H0 v = none) : TbX H1 a c t := by
  have ha := s1 _ _ h0.lst
  have hc := s1 _ _ h0.cel
  have dk : ∀ {b : Addr} {kv : List (Key × V)}, H1 b = some (.dK kv) → res (fun b => b = a ∨ b = c) H1 b = some (.dK kv) := fun {b kv} h => res_in (fun z => z.elim (fun z => by rw [z, ha] at h; cases h) (fun z => by rw [z, hc] at h; cases h)) h
  refine ⟨g, e, s, q, tv, T.len, dk T.at_, fun i v p g1 g2 => ?_, dk T.gr, dk T.ge, dk T.gs, dk T.gq⟩
  obtain ⟨as, p1, p2, p3⟩ := T.pts i v p g1 g2
  have nv := nw v (List.mem_of_getElem? g1)
  refine ⟨as, res_in (fun z => z.elim (fun z => h0.a0 (z ▸ nv)) (fun z => h0.c0 (z ▸ nv))) p1, p2, fun n b w k1 k2 => ?_⟩
  have h := p3 n b w k1 k2
  have ne : w ≠ [] := fun z => by
    have y := List.all_eq_true.mp (List.all_eq_true.mp parts_ne p (List.mem_of_getElem? g2)) w (List.mem_of_getElem? k2)
    rw [z] at y
    cases y
  refine res_in (fun z => ?_) h
  cases w with
  | nil => exact ne rfl
  | cons x r =>
    rcases z with z | z
    · rw [z, ha] at h
      cases h
    · rw [z, hc] at h
      have h := HO.lst.inj (Option.some.inj h)
      cases hS : S.cells with
      | nil => rw [hS] at h; cases h
      | cons y ys => rw [hS] at h; cases h
section
variable {P : Program} {w : World} {K : PySem.W.Frag} {mg : Str → Option Value} {base : Heap} {C fIn fGt fSt : Addr} {Cs fI : Nat → Addr} {fdI : Nat → FuncData} {sd gd : FuncData} {fTr fIs fDu : Addr} {dTr dIs dDu : FuncData} {k1 k2 k3 kI : Nat}
  {fTb fNo fOt fEr fD fP : Addr} {dTb dNo dOt dEr dD dP : FuncData}
theorem law_body {f : Addr} {cdv : Value} {A : Around} {outer : List Env} {s : Shared} {H : Hp} {vs : List V} {Q : VK} {E : XK} (hg : A.guards = some []) (Z : Blt mg) (Sk : Kits K C Cs) (Nf : NodeF K C) (N : NDefs P w K mg base C fIn fGt fSt gd sd kI) (M : Mks P w K mg base Cs fI fdI)
    (Y : WDefs P w K mg base C Cs fTr fIs fDu dTr dIs dDu 40 40 129) (L : LawD P w K mg base C Cs fTb fNo fOt fEr fD fP dTb dNo dOt dEr dD dP) (hr : Room 130 (A.deeper (envOfC "law" (defScope sLaw) s.heap.objs.size f cdv))) (h : spLaw K vs H Q E) :
    ∃ t, PSs (cxOf CX0 P w K mg base nLaw "law" (defScope sLaw) f cdv A outer s H E).nox (defBody sLaw) t ∧ t { nx := fun _ H' => Q .non H', rt := Q } (start nLaw vs) H := by
  obtain ⟨sc, ns, rfl, hsc, h63, q⟩ := h
  have hr1 := hr.mono (show 1 ≤ 130 by omega)
  have hr2 := hr.mono (show 2 ≤ 130 by omega)
  have hr40 := hr.mono (show 40 ≤ 130 by omega)
  have hrd := hr.mono (show 129 ≤ 130 by omega)
  have hu : (A.deeper (envOfC "law" (defScope sLaw) s.heap.objs.size f cdv)).units + 2 < cLine := by have := hr.un; omega
  have TT : FnOk P w K mg base CX0 40 fTr dTr pTr (spTrs C Cs) := FnOk.ex Y.T
  refine ⟨_, pss_cons (ps_par (i := 1) (j := 2) (by rfl) scLaw.nd rfl rfl (by decide) rfl rfl (pa_cons (pe_lst (pa_cons (pe_callTy call_list_of (by rfl) Z.ls (by decide +kernel) (pa_cons (pv 0) pa_nil)) (pa_cons pe_int (pa_cons pe_int (pa_cons pe_int pa_nil))))) (pa_cons (pe_call0 L.B hr2 (by rfl) L.mB L.kB L.bB .nil pass0) pa_nil)) (by rfl))
    (pss_cons (ps_for PassesOwn.never rfl (pi_range1 rfl Z.rg (pa_cons pe_int pa_nil)) (pg_name (i := 3) scLaw.nd rfl (.inl rfl))
      (pss_cons (ps_set (i := 4) scLaw.nd rfl (.inl rfl) (pe_callB cr_sortSA (by rfl) Z.so (by decide +kernel) (pa_cons (pe_lock (pe_lc (own := [("_law_kind", 12)]) (g := gName 12) (tt := tB (tOp rNe (tVar 12) (tC (.str "groups")))) rfl scLaw.nd (pi_keys (pv 2))
          (blkOk_by (own := [("_law_kind", 12)]) (N := nLaw) (sc := defScope sLaw) (by decide +kernel)) (fun _ _ _ _ _ => pg_name (i := 12) scLaw.nd rfl (.inl rfl)) (fun _ _ _ _ _ => pts_one (pt_cmpR op_ne (pv 12) pe_str (nomark _))) (fun _ _ _ _ _ => pv 12))) pa_nil)))
      (C8.pss_cut (ps_set (i := 5) scLaw.nd rfl (.inl rfl) (pe_call TT hr40 rfl Y.mT Y.kT Y.bT .nil pass0 (pa_cons (pv 1) (pa_cons (pv 2) (pa_cons (pe_call L.P' hr2 rfl L.mP L.kP L.bP .nil pass0 (pa_cons (pv 1) (pa_cons (pv 4) pa_nil)))
          (pa_cons (pe_op op_add pe_int (pe_call L.D hr1 rfl L.mD L.kD L.bD .nil pass0 (pa_cons (pv 1) (pa_cons pe_int pa_nil)))) pa_nil))))))
      (C8.pss_cut (ps_if (pt_cmpR op_isNB (pe_call Y.I hr40 rfl Y.mI Y.kI Y.bI .nil pass0 (pa_cons (pv 5) pa_nil)) pe_bl (by rfl)) (pss_one (ps_ret pe_bl)) pss_nil)
      (C8.pss_cut (ps_for PassesOwn.never rfl (pi_range1 rfl Z.rg (pa_cons (pe_call L.D hr1 rfl L.mD L.kD L.bD .nil pass0 (pa_cons (pv 1) (pa_cons pe_int pa_nil))) pa_nil)) (pg_name (i := 6) scLaw.nd rfl (.inl rfl))
        (pss_cons (ps_set (i := 7) scLaw.nd rfl (.inl rfl) (pe_call L.P' hr2 rfl L.mP L.kP L.bP .nil pass0 (pa_cons (pv 1) (pa_cons (pe_call L.N hr40 rfl L.mN L.kN L.bN .nil pass0 (pa_cons (pv 2) (pa_cons (pv 5) pa_nil))) pa_nil))))
        (C8.pss_cut (ps_if (pt_cmpR (op_neE hr.units) (pe_dget (hu_of hr) (pv 2) (pe_fld (pv 7) rfl) (fun _ _ => rfl)) (pe_lst pa_nil) (nomark _))
          (pss_cons (ps_asg (pe_call L.P' hr2 rfl L.mP L.kP L.bP .nil pass0 (pa_cons (pv 1) (pa_cons (pe_dget (hu_of hr) (pv 2) (pe_fld (pv 7) rfl) (fun _ _ => rfl)) pa_nil))) (pg_unl rfl (pgs_cons (pg_name (i := 8) scLaw.nd rfl (.inl rfl)) (pgs_cons (pg_name (i := 9) scLaw.nd rfl (.inl rfl)) pgs_nil))))
          (pss_one (ps_asg (pe_call L.O hr40 rfl L.mO L.kO L.bO .nil pass0 (pa_cons (pv 1) (pa_cons (pe_ixN N.Nc N.G N.bG hr2 (pv 7) (pv 8)) pa_nil))) (pg_sub (pv 7) (pv 8) (set_node N.Nc N.S N.bS hr1))))) pss_nil)
        (pss_cons (ps_set (i := 10) scLaw.nd rfl (.inl rfl) (pe_call (Y.D 30 (by decide)) hrd rfl Y.mD Y.kD Y.bD .nil pass0 (pa_cons (pv 2) (pa_cons (pv 5) pa_nil))))
        (pss_one (ps_if (pt_cmpR op_ne (pe_callB (cr_rep2 hg hu) (by rfl) Z.rp (by decide +kernel) (pa_cons (pe_lst (pa_cons (pe_call Y.I hr40 rfl Y.mI Y.kI Y.bI .nil pass0 (pa_cons (pv 5) pa_nil)) (pa_cons (pe_call Y.I hr40 rfl Y.mI Y.kI Y.bI .nil pass0 (pa_cons (pv 5) pa_nil)) pa_nil))) pa_nil))
          (pe_callB (cr_rep2 hg hu) (by rfl) Z.rp (by decide +kernel) (pa_cons (pe_lst (pa_cons (pv 10) (pa_cons (pv 10) pa_nil))) pa_nil)) (nomark _)) (pss_one (ps_ret pe_bl)) pss_nil))))))
      (pss_cons (ps_set (i := 11) scLaw.nd rfl (.inl rfl) (pe_call L.P' hr2 rfl L.mP L.kP L.bP .nil pass0 (pa_cons (pv 1) (pa_cons (pe_lst (pa_cons pe_non (pa_cons pe_int (pa_cons pe_str (pa_cons (pe_lst (pa_cons (pv 5) pa_nil)) (pa_cons (pe_tup (pa_cons (pv 5) pa_nil)) (pa_cons pe_bl (pa_cons pe_str
          (pa_cons (pe_makeE M.mk0 M.i0 M.o0 M.k0 rfl M.g0) (pa_cons (pe_make M.mk3 M.f3 hr2 rfl M.g3 M.b3 .nil pass0 (pa_cons (pe_tup (pa_cons pe_int pa_nil)) pa_nil)) pa_nil)))))))))) pa_nil))))
      (pss_one (ps_if (pt_cmpR op_isNB (pe_call Y.I hr40 rfl Y.mI Y.kI Y.bI .nil pass0 (pa_cons (pv 11) pa_nil)) pe_bl (by rfl)) (pss_one (ps_ret pe_bl)) pss_nil))))))))
    (pss_one (ps_ret (pe_call L.R hr rfl L.mR L.kR L.bR .nil pass0 (pa_cons (pv 1) (pa_cons (pv 2) pa_nil)))))), ?_⟩
  refine ⟨_, rfl, sc, _, rfl, .inl hsc, fun c0 nc0 => ⟨by show 4 ≤ sizeLine; decide, fun a0 na0 => ?_⟩⟩
  have ac : a0 ≠ c0 := fun z => by rw [z, upd_same] at na0; cases na0
  have h0 : StmAt (upd (upd H c0 (.lst (ns.map V.int))) a0 (.lst [.ref c0, .int 0, .int 0, .int 0])) a0 c0 ⟨ns, 0, 0, 0⟩ :=
    ⟨upd_same, by rw [upd_ne ac.symm, upd_same], ac, h63, Int.le_refl 0, Int.le_refl 0, Int.le_refl 0, by show (0 : Int) < 2147483647; decide⟩
  generalize upd (upd H c0 (.lst (ns.map V.int))) a0 (.lst [.ref c0, .int 0, .int 0, .int 0]) = H0 at h0 ⊢
  refine ⟨rfl, fun H1 t tv g0 e0 s0 q0 nt s1 T1 nw => ?_⟩
  have hT1 : TbX H1 a0 c0 t := TbX.new h0 s1 T1 nw
  refine ⟨_, _, rfl, 4, rfl, by decide, by decide, for_range (lo := 0) (n := 4) (fun i σ H1 => ∃ (S : Stm) (x3 x4 x5 x6 x7 x8 x9 x10 x11 x12 : Option V), σ = [some (.ref sc), some (.ref a0), some (.ref t), x3, x4, x5, x6, x7, x8, x9, x10, x11, x12] ∧ StmAt H1 a0 c0 S ∧ S.cnt ≤ (i : Int) * 46000 ∧ TbX H1 a0 c0 t) ?_ ?_ ?_⟩
  · exact ⟨⟨ns, 0, 0, 0⟩, none, none, none, none, none, none, none, none, none, none, rfl, h0.keep s1, by show (0 : Int) ≤ _; omega, hT1⟩
  · clear hT1 T1 s1 h0 hsc
    rintro i σ H hi ⟨S, x3, x4, x5, x6, x7, x8, x9, x10, x11, x12, rfl, hS, hc0, hT⟩
    have hcnt : S.cnt + 60000 < 1000000 := by omega
    have hT0 := hT
    obtain ⟨gX, eX, sX, qX, tvX, TX⟩ := hT
    have TH := TX.up (res_out)
    have hat := TH.at_
    have hlk : allKinds.length ≤ 200 := by unfold allKinds; rw [List.length_map]; exact allLen
    have zL : (1000 : Nat) < sizeLine := by decide
    have hlen : tvX.length = allEnts.length := TX.len
    have hkl : (mkT allEnts tvX ++ [((Sum.inr "groups" : Key), V.ref gX)]).length = allKinds.length + 1 := by
      rw [List.length_append, mkT_len hlen]
      unfold allKinds
      rw [List.length_map]
      rfl
    refine ⟨t, _, hat, trivial, fun od => ⟨_, rfl, t, od, rfl, .inl ⟨_, upd_same, fun D nD => ?_⟩⟩⟩
    have nDt : D ≠ t := fun z => by rw [z, upd_same] at nD; cases nD
    have nDH : H D = none := by rw [upd_ne nDt] at nD; exact nD
    refine lc_it walk_keys (fun i H3 => H3 t = some (.frz od (.dK (mkT allEnts tvX ++ [((Sum.inr "groups" : Key), V.ref gX)]))) ∧ H3 D = some (.lst ((allKinds.take i).map V.str)) ∧ ∀ b o, b ≠ t → H b = some o → H3 b = some o)
      ⟨by rw [upd_ne nDt.symm]; exact upd_same, upd_same, fun b o n e => by rw [upd_ne (ne_of_none e nDH), upd_ne n]; exact e⟩ (fun i H3 _ ⟨h, _⟩ => h) ?_ ?_
    · rintro i x H2 H3 hi ⟨ht3, hD3, ho3⟩ ⟨rfl, kk, vv, hkv, rfl⟩
      rw [hkl] at hi
      by_cases hin : i < allKinds.length
      · have hke : kk = Sum.inr allKinds[i] := by
          have z : ((mkT allEnts tvX ++ [((Sum.inr "groups" : Key), V.ref gX)]).map Prod.fst)[i]? = some kk := by rw [List.getElem?_map, hkv]; rfl
          rw [List.map_append, mkT_keys hlen, List.getElem?_append_left (by rw [List.length_map]; exact hin), List.getElem?_map] at z
          have z2 : (allEnts.map Prod.fst)[i]? = some allKinds[i] := List.getElem?_eq_getElem hin
          rw [z2] at z
          exact (Option.some.inj z).symm
        subst hke
        have hne := List.all_eq_true.mp allKinds_ok _ (List.getElem_mem hin)
        have hne2 : allKinds[i] ≠ "groups" := of_decide_eq_true (Bool.and_eq_true_iff.mp hne).2
        refine ⟨rfl, ?_⟩
        refine ⟨_, rfl, rfl, _, rfl, ?_⟩
        refine ite2 (fun cd => ?_) (fun cd => ?_)
        · refine ⟨_, rfl, _, hD3, by rw [List.length_map, List.length_take]; omega, by rw [upd_ne nDt.symm]; exact ht3, ?_, fun b o n e => by rw [upd_ne (ne_of_none e nDH)]; exact ho3 b o n e⟩
          rw [upd_same, List.take_succ, List.getElem?_eq_getElem hin, List.map_append]
          rfl
        · exact absurd (show _ = true by first | exact decide_eq_true (fun z => hne2 (V.str.inj z)) | simpa [kV] using hne2) cd
      · have hie : i = allKinds.length := by omega
        have hke : kk = (Sum.inr ("groups" : Str) : Key) := by
          have e : allKinds.length = (mkT allEnts tvX).length := by rw [mkT_len hlen]; unfold allKinds; rw [List.length_map]
          rw [hie, e, List.getElem?_append_right (Nat.le_refl _), Nat.sub_self] at hkv
          exact (congrArg Prod.fst (Option.some.inj hkv)).symm
        subst hke
        refine ⟨rfl, ?_⟩
        refine ⟨_, rfl, rfl, _, rfl, ?_⟩
        refine ite2 (fun cd => ?_) (fun cd => ?_)
        · exact absurd cd (by simp [kV])
        · refine ⟨ht3, ?_, ho3⟩
          rw [hD3, List.take_of_length_le (by omega), List.take_of_length_le (by omega)]
    · rintro H3 ⟨ht3, hD3, ho3⟩
      refine ⟨ht3, ?_⟩
      rw [hkl, List.take_of_length_le (by omega)] at hD3
      have hD4 : (upd H3 t (.dK (mkT allEnts tvX ++ [((Sum.inr "groups" : Key), V.ref gX)]))) D = some (.lst (allKinds.map V.str)) := by rw [upd_ne nDt]; exact hD3
      have s4 : Same H (upd H3 t (.dK (mkT allEnts tvX ++ [((Sum.inr "groups" : Key), V.ref gX)]))) := fun b o e => by
        by_cases eb : b = t
        · rw [eb, hat] at e
          rw [eb, upd_same]
          exact e
        · rw [upd_ne eb]
          exact ho3 b o eb e
      generalize upd H3 t (.dK (mkT allEnts tvX ++ [((Sum.inr "groups" : Key), V.ref gX)])) = H4 at hD4 s4 ⊢
      refine ⟨D, allKinds, rfl, SqL.of hD4, fun ys pl hp npl => ?_⟩
      have s5 := same_new (o := .lst (ys.map V.str)) npl
      have s45 := s4.trans s5
      have hpl0 : H pl = none := s4.free npl
      have hpl : (upd H4 pl (.lst (ys.map V.str))) pl = some (.lst (ys.map V.str)) := upd_same
      generalize upd H4 pl (.lst (ys.map V.str)) = H5 at s5 s45 hpl ⊢
      have hyl : ys.length ≤ 200 := by rw [hp.length_eq]; exact hlk
      have hyl0 : 0 < ys.length := by
        rw [hp.length_eq]
        have z : 0 < ((rowsTo 5).map Prod.fst).length := by decide +kernel
        unfold allKinds allEnts
        rw [List.map_map]
        exact z
      have pa : pl ≠ a0 := fun z => hS.a0 (z ▸ hpl0)
      have pc : pl ≠ c0 := fun z => hS.c0 (z ▸ hpl0)
      have wa : was H a0 := hS.a0
      have wc : was H c0 := hS.c0
      refine ⟨fun σ H6 => ∃ (S6 : Stm) (p5 d5 : Addr) (F : List (Addr × Addr)) (ht wt : Addr → Nat), σ = [some (.ref sc), some (.ref a0), some (.ref t), some (.int (0 + i)), some (.ref pl), some (.ref p5), x6, x7, x8, x9, x10, x11, x12] ∧ StmAt H6 a0 c0 S6 ∧ S6.cnt ≤ S.cnt + 45200 ∧ (∃ k, KvAt C Cs H6 (.ref p5) (.node k d5)) ∧ (∀ x ∈ F, Tr C Cs (res (was H) H6) x.1) ∧ (p5, d5) ∈ F ∧ MW C Cs a0 c0 H p5 0 H6 F ht wt, ?_, ?_⟩
      · refine ⟨_, rfl, _, rfl, _, rfl, _, rfl, a0, c0, pl, S, ys.map V.str, rfl, hS.keep s45, by omega, hpl, pa, pc, by rw [List.length_map]; exact hyl0, by rw [List.length_map]; omega, fun H6 S6 x h6 hc6 k6 hx => ?_⟩
        obtain ⟨kd, hkd, rfl⟩ := List.mem_map.mp hx
        have hkm : kd ∈ allKinds := hp.mem_iff.mp hkd
        obtain ⟨rs, row⟩ : ∃ rs, Fld.lookup kd = some rs := by
          have z := (Bool.and_eq_true_iff.mp (List.all_eq_true.mp allKinds_ok _ hkm)).1
          cases e : Fld.lookup kd with
          | none => rw [e] at z; cases z
          | some rs => exact ⟨rs, rfl⟩
        refine ⟨_, rfl, a0, c0, S6, 2, rfl, h6, by omega, by decide, by decide, fun H7 S7 y h7 hc7 k7 y0 y1 => ⟨_, _, rfl, rfl, ?_⟩⟩
        have k07 : Kept a0 c0 H H7 := ((Kept.same s45).trans k6).trans k7
        have hT7 := hT0.kept k07
        have done : ∀ (j : Nat), j ≤ 6 → cT j ≤ 45173 → mT j ≤ 5773 → ∀ (H8 : Hp) (S8 : Stm) (p d : Addr) (F : List (Addr × Addr)) (ht wt : Addr → Nat), StmAt H8 a0 c0 S8 → S8.cnt ≤ S7.cnt + (cT j : Nat) → Kept a0 c0 H7 H8 → Drn C Cs (res (was H7) H8) F ht wt → (p, d) ∈ F → (∃ dx, res (was H7) H8 p = some (.ins C dx (nodeFs kd d))) → ht p = j → wt p ≤ mT j →
            StmAt H8 a0 c0 S8 ∧ S8.cnt ≤ S.cnt + 45200 ∧ (∃ k, KvAt C Cs H8 (.ref p) (.node k d)) ∧ (∀ x ∈ F, Tr C Cs (res (was H) H8) x.1) ∧ (p, d) ∈ F ∧ MW C Cs a0 c0 H p 0 H8 F ht wt := fun j hj h1 h2 H8 S8 p d F ht wt h8 hc8 k8 W hpd hpi hht hwt => by
          have s : Same (res (was H7) H8) (res (was H) H8) := res_up fun b o n e => ⟨fun z => n (k07.has h7.a0 h7.c0 z), e⟩
          have W' := W.up Sk s
          obtain ⟨dx, e⟩ := hpi
          exact ⟨h8, by omega, ⟨kd, .node (res_at e).2⟩, W'.2.1, hpd, k07.trans k8, W'.1, W'.2.2, InF.mem hpd, by omega, by omega⟩
        have y01 : y = 0 ∨ y = 1 := by omega
        rcases y01 with rfl | rfl
        · exact ⟨5, by decide, a0, c0, t, S7, kd, 1 + 0, rfl, h7, hT7, G_up row 1, rfl, by decide, by decide, by show S7.cnt + (3761 : Nat) < 1000000; omega, fun H8 S8 p d F ht wt h8 hc8 k8 W hpd hpi hht hwt => ⟨S8, p, d, F, ht, wt, rfl, done 5 (by decide) (by decide) (by decide) H8 S8 p d F ht wt h8 hc8 k8 W hpd hpi hht hwt⟩⟩
        · exact ⟨6, by decide, a0, c0, t, S7, kd, 1 + 1, rfl, h7, hT7, G_up row 2, rfl, by decide, by decide, by show S7.cnt + (45173 : Nat) < 1000000; omega, fun H8 S8 p d F ht wt h8 hc8 k8 W hpd hpi hht hwt => ⟨S8, p, d, F, ht, wt, rfl, done 6 (by decide) (by decide) (by decide) H8 S8 p d F ht wt h8 hc8 k8 W hpd hpi hht hwt⟩⟩
      rintro σ H6 ⟨S6, p5, d5, F, ht, wt, rfl, h6, hc6, ⟨kd, hkv⟩, hTr, hpd, W6⟩
      refine ⟨fun σ H7 => σ = [some (.ref sc), some (.ref a0), some (.ref t), some (.int (0 + i)), some (.ref pl), some (.ref p5), x6, x7, x8, x9, x10, x11, x12] ∧ StmAt H7 a0 c0 S6 ∧ KvAt C Cs H7 (.ref p5) (.node kd d5) ∧ MW C Cs a0 c0 H p5 0 H7 F ht wt, ?_, ?_⟩
      · refine ⟨_, rfl, .ref p5, .node kd d5, InF F, wt, rfl, hkv, fun p e _ => by cases e; exact ⟨W6.pf, Nat.le_trans W6.ww (by decide)⟩, fun q hq => ((W6.fo.nds q hq).up Sk res_out).w, fun H7 b s7 hb => ?_⟩
        have eb : b = true := hb.mpr ⟨p5, rfl, rfl, (Tr.up Sk (fun q hq => (W6.fo.nds q hq).h) res_out (ht p5 + 1) p5 (Nat.lt_succ_self _) W6.pf).mpr (hTr _ hpd)⟩
        subst eb
        exact ⟨true, true, rfl, rfl, _, rfl, iteF ⟨rfl, h6.keep s7, hkv.up s7, W6.kept Sk wa wc (Kept.same s7)⟩⟩
      rintro σ H7 ⟨rfl, h7, hkv7, W7⟩
      refine ⟨fun σ H8 => ∃ (S8 : Stm) (x6 x7 x8 x9 x10 : Option V), σ = [some (.ref sc), some (.ref a0), some (.ref t), some (.int (0 + i)), some (.ref pl), some (.ref p5), x6, x7, x8, x9, x10, x11, x12] ∧ StmAt H8 a0 c0 S8 ∧ S8.cnt ≤ S.cnt + 45300 ∧ Kept a0 c0 H H8 ∧ (∃ o, H8 p5 = some o), ?_, ?_⟩
      · refine ⟨_, rfl, a0, c0, S6, 4, rfl, h7, by omega, by decide, by decide, fun H8 S8 r h8 hc8 k8 r0 r1 => ⟨r, rfl, by omega, by omega, ?_⟩⟩
        refine for_range (lo := 0) (n := r.toNat) (fun m σ H9 => ∃ (S9 : Stm) (F : List (Addr × Addr)) (ht wt : Addr → Nat) (x6 x7 x8 x9 x10 : Option V), σ = [some (.ref sc), some (.ref a0), some (.ref t), some (.int (0 + i)), some (.ref pl), some (.ref p5), x6, x7, x8, x9, x10, x11, x12] ∧ StmAt H9 a0 c0 S9 ∧ S9.cnt ≤ S.cnt + 45210 + ((m * 10 : Nat) : Int) ∧ MW C Cs a0 c0 H p5 m H9 F ht wt)
          ⟨S8, F, ht, wt, x6, x7, x8, x9, x10, rfl, h8, by omega, W7.kept Sk wa wc k8⟩ ?_ ?_
        · rintro m σ H9 hm ⟨S9, F, ht, wt, y6, y7, y8, y9, y10, rfl, h9, hc9, W9⟩
          have hm3 : m < 3 := by omega
          have h3m : 5773 * 3 ^ m ≤ 1000000 := by
            rcases m with _ | _ | _ | m
            · decide
            · decide
            · decide
            · omega
          have hw9 := W9.ww
          have hh9 := W9.hh
          obtain ⟨g9, e9, s9, q9, tv9, T9⟩ := (hT0.kept W9.kp).out
          refine ⟨_, rfl, _, rfl, _, rfl, t, g9, e9, s9, q9, tv9, p5, InF F, ht, wt, rfl, T9, W9.pf, by omega, by omega, fun q hq => (W9.fo.nds q hq).up Sk res_out, fun H10 l qs s10 nl hl hne hqS hql => ?_⟩
          have la : l ≠ a0 := fun z => h9.a0 (z ▸ nl)
          have lc : l ≠ c0 := fun z => h9.c0 (z ▸ nl)
          refine ⟨a0, c0, l, S9, qs.map V.ref, rfl, h9.keep s10, by omega, hl, la, lc, by rw [List.length_map]; exact List.length_pos_iff.mpr hne, by rw [List.length_map]; omega, fun H11 S11 x h11 hc11 k11 hx => ?_⟩
          obtain ⟨qn, hqn, rfl⟩ := List.mem_map.mp hx
          obtain ⟨dq, hqd⟩ := (hqS qn hqn).ex
          have k9 : Kept a0 c0 H9 H11 := (Kept.same s10).trans k11
          have W11 := W9.kept Sk wa wc k9
          refine ⟨fun σ H12 => ∃ (S12 : Stm) (F : List (Addr × Addr)) (ht wt : Addr → Nat) (x7 x8 x9 x10 : Option V), σ = [some (.ref sc), some (.ref a0), some (.ref t), some (.int (0 + i)), some (.ref pl), some (.ref p5), some (.int (0 + m)), x7, x8, x9, x10, x11, x12] ∧ StmAt H12 a0 c0 S12 ∧ S12.cnt ≤ S.cnt + 45210 + (((m + 1) * 10 : Nat) : Int) ∧ MW C Cs a0 c0 H p5 (m + 1) H12 F ht wt, ?_, ?_⟩
          · obtain ⟨k2, rs, vs, N2, hh2, hw2⟩ := W11.fo.get hqd
            obtain ⟨dx, hq2⟩ := N2.at_
            have hq2' := (res_at hq2).2
            have hd2' := (res_at N2.dk).2
            have hT11 := hT0.kept W11.kp
            obtain ⟨gT, eT, sT, qT, tvT, TT'⟩ := hT11
            obtain ⟨ar, ps, dg, ⟨as, ha, hal, hap⟩, hpl', hpr⟩ := TT'.rowU N2.row
            have hlv := N2.len
            have hnd2 := rows_nodup N2.row
            have hs7 := rows_small N2.row
            have har := res_out _ _ ha
            have ara : ar ≠ a0 := fun z => (res_at ha).1 (.inl z)
            have arc : ar ≠ c0 := fun z => (res_at ha).1 (.inr z)
            refine ⟨_, rfl, _, rfl, qn, C, dx, _, .str k2, rfl, hq2', Nf.cl, Nf.n1, rfl, t, .ref ar, rfl, dg _ res_out, ?_⟩
            refine ⟨Nat.zero_le _, fun le nle => ?_⟩
            have se := same_new (o := .lst []) nle
            refine ⟨ar, le, as.map V.ref, rfl, rfl, se _ _ har, upd_same, _, rfl, ?_⟩
            generalize upd H11 le (.lst []) = H12 at se ⊢
            have k12 : Kept a0 c0 H11 H12 := Kept.same se
            have W12 := W11.kept Sk wa wc k12
            have hce : (((m + 1) * 10 : Nat) : Int) = ((m * 10 : Nat) : Int) + 10 := by omega
            cases as with
            | nil => exact iteF ⟨S11, F, ht, wt, _, _, _, _, rfl, h11.keep se, by rw [hce]; omega, W12.mono⟩
            | cons as0 asr =>
              refine iteT ?_
              have wq : ∀ {b : Addr}, ¬ was H b → b ≠ a0 ∧ b ≠ c0 := fun n => ⟨fun z => n (z ▸ wa), fun z => n (z ▸ wc)⟩
              have nqn : ¬ was H qn := (res_at hq2).1
              have ndq : ¬ was H dq := (res_at N2.dk).1
              refine ⟨_, rfl, _, rfl, _, rfl, qn, C, dx, _, .str k2, rfl, se _ _ hq2', Nf.cl, Nf.n1, rfl, t, .ref ar, rfl, dg _ (fun b o z => se _ _ (res_out _ _ z)), a0, c0, ar, S11, (as0 :: asr).map V.ref, rfl, h11.keep se, by omega, se _ _ har, ara, arc, by simp, ?_, fun H13 S13 x h13 hc13 k13 hx => ?_⟩
              · rw [List.length_map, hal, hpl']
                omega
              obtain ⟨b, hb, rfl⟩ := List.mem_map.mp hx
              obtain ⟨n, hn⟩ := List.mem_iff_getElem?.mp hb
              have hnl : n < rs.length := by
                rcases Nat.lt_or_ge n (as0 :: asr).length with z | z
                · omega
                · rw [List.getElem?_eq_none z] at hn; cases hn
              obtain ⟨r, hr'⟩ : ∃ r, rs[n]? = some r := ⟨_, List.getElem?_eq_getElem hnl⟩
              obtain ⟨wd, hpw, hww⟩ := hpr n r hr'
              have hbR := hap n b _ hn hpw
              have hbw : H13 b = some (.lst [.str r.1, .str wd]) := k13 _ _ (fun z => (res_at hbR).1 (.inl z)) (fun z => (res_at hbR).1 (.inr z)) (se _ _ (res_out _ _ hbR))
              have hnm : (namesOf rs)[n]? = some r.1 := by unfold namesOf; rw [List.getElem?_map, hr']; rfl
              obtain ⟨u, hu⟩ : ∃ u, vs[n]? = some u := ⟨_, List.getElem?_eq_getElem (by omega)⟩
              have k113 := k12.trans k13
              have W13 := W11.kept Sk wa wc k113
              have sR : Same (res (was H) H11) (res (was H) H13) := res_up fun b o n e => ⟨n, k113 b o (fun z => n (z ▸ wa)) (fun z => n (z ▸ wc)) e⟩
              obtain ⟨N13, ek13⟩ := N2.up Sk sR
              rw [← ek13] at hh2 hw2
              obtain ⟨ku, ksu, fu, nlu⟩ := N13.vals u (List.mem_of_getElem? hu)
              have lnu : LenV (res (was H) H13) (10 + m) u := by
                have z := W13.sh _ hqd
                rw [N13.vp] at z
                exact z u (List.mem_of_getElem? hu)
              have hB : ∀ b, was H b → was H13 b := fun b z => W13.kp.has h13.a0 h13.c0 z
              obtain ⟨dx13, hq13⟩ := N13.at_
              have hq13' := (res_at hq13).2
              have hd13' := (res_at N13.dk).2
              refine ⟨b, [.str r.1, .str wd], rfl, SqL.of hbw, rfl, _, _, rfl, _, _, rfl, rfl, ?_⟩
              refine ⟨_, rfl, _, rfl, _, rfl, qn, dx13, dq, r.1, nodeFs k2 dq, _, u, rfl, rfl, hq13', rfl, hd13', valV_fkv hnd2 hnm hu, ?_⟩
              refine ⟨a0, c0, S13, was H, 10 + m, u, ku, ksu, rfl, h13, by omega, hB, wa, wc, by omega, by omega, fu, nlu, lnu, fun H14 S14 v' h14 hc14 k14 O => ?_⟩
              have hq14 := k14 _ _ (wq nqn).1 (wq nqn).2 hq13'
              have hd14 := k14 _ _ (wq ndq).1 (wq ndq).2 hd13'
              refine ⟨_, rfl, _, rfl, qn, dx13, dq, r.1, nodeFs k2 dq, _, u, rfl, rfl, hq14, rfl, hd14, valV_fkv hnd2 hnm hu, ?_, ?_⟩
              · rw [fkv_len (by unfold namesOf; rw [List.length_map]; omega)]
                omega
              obtain ⟨F', ht', wt', fo', sh', e'⟩ := mutW Sk W13.fo (by omega) W13.sh hB wa wc k14 hqd N13 hh2 hw2 hu hnm O
              have ep := e' p5 W13.pf
              have e3 : (3 : Nat) ^ (m + 1) = 3 ^ m * 3 := Nat.pow_succ ..
              have hh13 := W13.hh
              have hw13 := W13.ww
              refine ⟨S14, F', ht', wt', _, _, _, _, rfl, ⟨?_, ?_, h14.ne, h14.len, h14.cur0, h14.cnt0, h14.mix0, h14.mix1⟩, by rw [hce]; omega, ⟨fun b o n1 n2 e => ?_, fo', sh', ep.1, by rw [ep.2.1]; omega, by rw [ep.2.2, e3]; omega⟩⟩
              · rw [upd_ne (wq ndq).1.symm]; exact h14.lst
              · rw [upd_ne (wq ndq).2.symm]; exact h14.cel
              · rw [upd_ne fun z => ndq (by rw [← z]; unfold was; rw [e]; simp)]
                exact k14 b o n1 n2 (W13.kp b o n1 n2 e)
          · rintro σ H12 ⟨S12, F, ht, wt, z7, z8, z9, z10, rfl, h12, hc12, W12⟩
            have h3m1 : 5773 * 3 ^ (m + 1) ≤ 1000000 := by
              rcases m with _ | _ | _ | m
              · decide
              · decide
              · decide
              · omega
            have hw12 := W12.ww
            have hh12 := W12.hh
            obtain ⟨d12, hd12⟩ := W12.pf.ex
            obtain ⟨k12, rs12, vs12, N12, _⟩ := W12.fo.get hd12
            obtain ⟨dx12, hp12⟩ := N12.at_
            have kv12 : KvAt C Cs H12 (.ref p5) (.node k12 d12) := .node (res_at hp12).2
            obtain ⟨g2, e2, s2, q2, tv2, T2⟩ := (hT0.kept W12.kp).out
            refine ⟨_, rfl, _, rfl, t, g2, e2, s2, q2, tv2, .ref p5, .node k12 d12, InF F, ht, rfl, by decide, T2, kv12, fun p e _ => by cases e; exact ⟨W12.pf, by omega⟩, fun q hq => ((W12.fo.nds q hq).up Sk res_out).h, fun H13 b1 s13 hb1 => ?_⟩
            have W13 := W12.kept Sk wa wc (Kept.same s13)
            refine ⟨_, rfl, .ref p5, .node k12 d12, InF F, wt, rfl, kv12.up s13, fun p e _ => by cases e; exact ⟨W13.pf, by omega⟩, fun q hq => ((W13.fo.nds q hq).up Sk res_out).w, fun H14 b2 s14 hb2 => ?_⟩
            have W14 := W13.kept Sk wa wc (Kept.same s14)
            refine ⟨_, rfl, .ref p5, .node k12 d12, InF F, wt, rfl, (kv12.up s13).up s14, fun p e _ => by cases e; exact ⟨W14.pf, by omega⟩, fun q hq => ((W14.fo.nds q hq).up Sk res_out).w, fun H15 b3 s15 hb3 => ?_⟩
            have W15 := W14.kept Sk wa wc (Kept.same s15)
            have eb2 := agree Sk W12.fo res_out s13 W12.pf hb1 hb2
            have eb3 := agree Sk W13.fo res_out s14 W13.pf hb2 hb3
            subst eb2
            subst eb3
            refine ⟨by show 2 ≤ sizeLine; decide, fun l1 nl1 => ⟨l1, b1, b1, rfl, upd_same, _, rfl, _, rfl, by show 2 ≤ sizeLine; decide, fun l2 nl2 => ⟨l2, b1, b1, rfl, upd_same, rfl, _, rfl, ?_⟩⟩⟩
            refine ite2 (fun cd => ?_) (fun cd => ?_)
            · exact absurd cd (by simp)
            · have k16 := (Kept.same (a := a0) (c := c0) (same_new (o := .lst [.bl b1, .bl b1]) nl1)).trans (Kept.same (same_new (o := .lst [.bl b1, .bl b1]) nl2))
              refine ⟨S12, F, ht, wt, _, _, _, _, _, rfl, ((((h12.keep s13).keep s14).keep s15).keep (same_new nl1)).keep (same_new nl2), hc12, W15.kept Sk wa wc k16⟩
        · rintro σ H9 ⟨S9, F, ht, wt, y6, y7, y8, y9, y10, rfl, h9, hc9, W9⟩
          obtain ⟨d9, hd9⟩ := W9.pf.ex
          obtain ⟨dx9, k9, e9⟩ := W9.fo.at_ _ hd9
          exact ⟨S9, _, _, _, _, _, rfl, h9, by omega, W9.kp, _, (res_at e9).2⟩
      rintro σ H8 ⟨S8, y6, y7, y8, y9, y10, rfl, h8, hc8, k8, o5, ho5⟩
      refine ⟨_, rfl, _, rfl, by show 1 ≤ sizeLine; decide, fun l1 nl1 => ⟨_, rfl, by show 1 ≤ sizeLine; decide, fun t1 nt1 => ?_⟩⟩
      have u1 := same_new (o := .lst [.ref p5]) nl1
      have u2 := same_new (o := .tup [.ref p5]) nt1
      have g1 := u2 _ _ (upd_same (H := H8) (a := l1) (o := .lst [.ref p5]))
      have g2 : (upd (upd H8 l1 (.lst [.ref p5])) t1 (.tup [.ref p5])) t1 = some (.tup [.ref p5]) := upd_same
      have u12 := u1.trans u2
      have f1 : H8 l1 = none := nl1
      have f2 : H8 t1 = none := u1.free nt1
      generalize upd (upd H8 l1 (.lst [.ref p5])) t1 (.tup [.ref p5]) = Ha at u12 g1 g2 ⊢
      refine fun x0 dx0 n0 nd0 ne0 => ?_
      have u3 : Same Ha (upd (upd Ha dx0 (.own x0)) x0 (.ins (Cs 0) dx0 [])) := mk_same (C' := Cs 0) n0 nd0 fun b _ => rfl
      have g3 : (upd (upd Ha dx0 (.own x0)) x0 (.ins (Cs 0) dx0 [])) x0 = some (.ins (Cs 0) dx0 []) := upd_same
      have f3 : H8 x0 = none := u12.free n0
      generalize upd (upd Ha dx0 (.own x0)) x0 (.ins (Cs 0) dx0 []) = Hb at u3 g3 ⊢
      refine ⟨by show 1 ≤ sizeLine; decide, fun t2 nt2 => ?_⟩
      have u4 := same_new (o := .tup [.int 1]) nt2
      generalize upd Hb t2 (.tup [.int 1]) = Hc at u4 ⊢
      refine fun x4 dx4 n4 nd4 ne4 => ⟨x4, dx4, [.ref t2], rfl, rfl, upd_same, fun Hd fs4 hx4 ho4 => ⟨rfl, ?_⟩⟩
      have u5 : Same Hc Hd := mk_same (C' := Cs 3) n4 nd4 ho4
      have u34 := (u3.trans u4).trans u5
      have f4 : H8 x4 = none := ((u12.trans u3).trans u4).free n4
      refine ⟨by show 9 ≤ sizeLine; decide, fun l nl => ?_⟩
      have u6 := same_new (o := .lst [.non, .int 0, .str "Name", .ref l1, .ref t1, .bl true, .str "", .ref x0, .ref x4]) nl
      have u8 := (u12.trans u34).trans u6
      have fl : H8 l = none := (u12.trans u34).free nl
      have na : ∀ {b : Addr}, H8 b = none → b ≠ a0 ∧ b ≠ c0 := fun n => ⟨fun z => h8.a0 (z ▸ n), fun z => h8.c0 (z ▸ n)⟩
      refine ⟨a0, c0, l, S8, [.non, .int 0, .str "Name", .ref l1, .ref t1, .bl true, .str "", .ref x0, .ref x4], rfl, h8.keep u8, by omega, upd_same, (na fl).1, (na fl).2, by show 0 < 9; decide, by show 9 < 1000000; decide, fun H9 S9 x h9 hc9 k9 hx => ?_⟩
      have kvx : ∃ kv, KvAt C Cs H9 x kv ∧ isNode kv = false := by
        simp only [List.mem_cons, List.not_mem_nil, or_false] at hx
        rcases hx with rfl | rfl | rfl | rfl | rfl | rfl | rfl | rfl | rfl
        · exact ⟨_, .non, rfl⟩
        · exact ⟨_, .int _, rfl⟩
        · exact ⟨_, .str _ (by decide +kernel), rfl⟩
        · exact ⟨_, .lst (k9 _ _ (na f1).1 (na f1).2 (u6 _ _ (u34 _ _ g1))) (by show 1 ≤ 1000; decide), rfl⟩
        · exact ⟨_, .tup (k9 _ _ (na f2).1 (na f2).2 (u6 _ _ (u34 _ _ g2))), rfl⟩
        · exact ⟨_, .bl _, rfl⟩
        · exact ⟨_, .str _ (by decide +kernel), rfl⟩
        · exact ⟨_, .val (j := 0) (by decide) (k9 _ _ (na f3).1 (na f3).2 (u6 _ _ (u5 _ _ (u4 _ _ g3)))), rfl⟩
        · exact ⟨_, .val (j := 3) (by decide) (k9 _ _ (na f4).1 (na f4).2 (u6 _ _ hx4)), rfl⟩
      obtain ⟨kv, hkx, hnx⟩ := kvx
      refine ⟨_, rfl, x, kv, fun _ => False, fun _ => 0, rfl, hkx, fun p e z => (by rw [hnx] at z; cases z), fun q hq => hq.elim, fun H10 b s10 hb => ?_⟩
      have eb : b = false := by
        cases b with
        | false => rfl
        | true =>
          obtain ⟨_, _, z, _⟩ := hb.mp rfl
          rw [hnx] at z
          cases z
      subst eb
      have kf := ((k8.trans (Kept.same u8)).trans k9).trans (Kept.same s10)
      have hi1 : ((i + 1 : Nat) : Int) = (i : Int) + 1 := by omega
      have hc10 : S9.cnt ≤ ((i + 1 : Nat) : Int) * 46000 := by rw [hi1]; omega
      exact ⟨false, false, rfl, rfl, _, rfl, iteF ⟨S9, _, _, _, _, _, _, _, _, _, _, rfl, h9.keep s10, hc10, hT0.kept kf⟩⟩
  · rintro σ H2 ⟨S, x3, x4, x5, x6, x7, x8, x9, x10, x11, x12, rfl, hS, hc0, hT⟩
    exact ⟨_, rfl, _, rfl, a0, c0, t, S, rfl, hS, hT, by omega, fun H' => q H'⟩
end
end K5

namespace K5
open PySem PySem.Spec PyProof.Rows L2
/-! ### a def called at the very top, where no repr is under way -/
/-- the def at f keeps sp where it is called from outside -/
def TopOk (P : Program) (w : World) (K : PySem.W.Frag) (mg : Str → Option Value) (base : Heap) (f : Addr) (fd : FuncData) (ps : List Str) (sp : Sp) : Prop :=
  ∀ (s : Shared) (H : Hp) (args : Args) (us : List Value) (vs : List V) (Q : VK) (E : XK), Env0 P w K mg base callerA [] s H → BindsTo s fd args (ps.zip us) → Vals vs us → sp vs H Q E → codeAny (model P w) callerA (.call (.ref f) args) (CR CX0 [] P w H s Q E) s
theorem top_of {P : Program} {w : World} {K : PySem.W.Frag} {mg : Str → Option Value} {base : Heap} {k : Nat} {f : Addr} {x qual : Str} {st : Stmt} {fd : FuncData} {N ps : List Str} {sp : Sp} (F : Fun K x qual st f fd) (S : FnScope N ps (defScope st))
    (len : ∀ vs H Q E, sp vs H Q E → vs.length = ps.length) (hk : Room (k + 1) callerA)
    (hbody : ∀ (cdv : Value) (s : Shared) (H : Hp) (vs : List V) (Q : VK) (E : XK), sp vs H Q E →
      ∃ t, PSs (cxOf CX0 P w K mg base N qual (defScope st) f cdv callerA [] s H E).nox (defBody st) t ∧ t { nx := fun _ H' => Q .non H', rt := Q } (start N vs) H) : TopOk P w K mg base f fd ps sp := by
  obtain ⟨oc, od, kV, doc, pm, an, cdv, ct, osl, rfl, lk, hcd⟩ := F.ex
  intro s H args us vs Q E e0 hb r hsp
  have keepB : ∀ b o, base.get? b = some o → s.heap.get? b = some o := fun b o e => (e0.bs b o e).1
  have hl := len _ _ _ _ hsp
  have kinds : ∀ y ∈ ps.zip us, (defScope st).names.lookup y.1 = some .local ∨ ((defScope st).names.lookup y.1 = some .cell ∧ ((cellsFrom (s.heap.objs.size + 1) (defScope st).names []).lookup y.1).isSome = true) := by
    rintro ⟨n, v⟩ hy
    rcases S.par n (List.of_mem_zip hy).1 with z | z
    · exact Or.inl z
    · exact Or.inr ⟨z, PySem.W.cellsFrom_some _ _ _ (.inl z)⟩
  refine codeAny_call_function hk.depth ((e0.mod.kin.keeps keepB) _ _ lk) rfl S.co S.gen rfl (PySem.W.codeRec_of (e0.mod.kin.keeps keepB) hcd) (hb _ _ _ _ (wpAny_newFunctionEnv_cells S.kind kinds fun env he s1 z => ?_))
  subst he
  refine ⟨(e0.mod.nolimit.keeps keepB).keeps z.toInCall.keep, codeAny_func ?_⟩
  obtain ⟨t, ht, hq⟩ := hbody cdv s H vs Q E hsp
  have I : Inv (cxOf CX0 P w K mg base N qual (defScope st) f cdv callerA [] s H E) [] (start N vs) H s1 := inv_start S hk.hd e0 hl r z
  refine wpAny_mono (ht.nox.run [] s1 (start N vs) H _ I hq) (fun fl s' hs => ?_) fun e s' hs => hs
  cases fl with
  | ret u =>
    obtain ⟨v, σ', H', J, rv, q⟩ := hs
    exact ⟨v, H', J.os, J.bare, J.base, J.hok, rv, q⟩
  | next =>
    obtain ⟨σ', H', J, q⟩ := hs
    exact ⟨.non, H', J.os, J.bare, J.base, J.hok, rfl, q⟩
  | brk =>
    obtain ⟨_, _, _, q⟩ := hs
    exact q.elim
  | cont =>
    obtain ⟨_, _, _, q⟩ := hs
    exact q.elim
/-- one abstract heap for the script at a: nothing else is tracked -/
theorem top_one {P : Program} {w : World} {K : PySem.W.Frag} {mg mb : Str → Option Value} {fa a : Addr} {fd : FuncData} {x : Str} {sp : Sp} {s₁ : Shared} {vs : List Value} {n : Nat} {H : Hp}
    (KX : K.In s₁.heap) (hns : s₁.heap.Ns mainGlobals mg) (hb : s₁.heap.Ns builtinsNs mb) (hbb : ∀ x : Str, x ≠ "__name__" → mb x = bootBuiltins x) (hlim : s₁.heap.NoLimit) (hg : s₁.gens = #[])
    (ha : s₁.heap.get? a = some { cls := .type "list", data := .seq vs.toArray n }) (F : ∀ base : Heap, K.In base → base.Ns mainGlobals mg → TopOk P w K mg base fa fd [x] sp)
    (hbind : ∀ (s : Shared) (u : Value), BindsTo s fd ⟨[u], []⟩ [(x, u)]) (hsp : sp [.ref a] H (fun v _ => v = .bl true) fun _ _ _ => False) (hO : Only H) (hok : HOk P w H s₁.heap) (hA : ∀ b, H b ≠ none → b = a) (hK : H a ≠ none → K.lookup a = none) :
    codeAny (model P w) callerA (.call (.ref fa) ⟨[.ref a], []⟩) (fun r s' => r = .ok (.ret (.bool true)) ∧ PySem.OldK s₁.heap s'.heap ∧ s'.os = s₁.os ∧ AllBare s'.gens) s₁ := by
  have untracked : ∀ {b : Addr} {o : Obj}, s₁.heap.get? b = some o → (∀ n', o.data ≠ .seq vs.toArray n') → H b = none := fun {b o} e hd => by
    cases q : H b with
    | none => rfl
    | some u =>
      have eb : b = a := hA b (by rw [q]; simp)
      rw [eb, ha] at e
      cases e
      exact absurd rfl (hd n)
  have toNs : ∀ {b : Addr} {m : Str → Option Value}, s₁.heap.Ns b m → (hidT s₁.heap H).Ns b m := fun {b m} z => by
    obtain ⟨o, es, ep, e, d, r⟩ := z
    exact ⟨o, es, ep, hidT_get e (untracked e fun n' z => by rw [z] at d; cases d), d, r⟩
  have toK : K.In (hidT s₁.heap H) := fun b o e => hidT_get (KX b o e) (by
    cases q : H b with
    | none => rfl
    | some u =>
      have eb : b = a := hA b (by rw [q]; simp)
      rw [eb] at q e
      rw [hK (by rw [q]; simp)] at e
      cases e)
  have md : Mod K mg (hidT s₁.heap H) := by
    obtain ⟨mc, h1, h2⟩ := hlim
    exact ⟨toK, toNs hns, ⟨mb, toNs hb, hbb⟩, ⟨mc, toNs h1, h2⟩⟩
  have e0 : Env0 P w K mg (hidT s₁.heap H) callerA [] s₁ H :=
    { frames := rfl, mod := md, bs := fun b o e => of_hidT e, bsz := Nat.le_of_eq (hidT_size _ _), funs := trivial, frf := fun b z => absurd z (by simp [frs]), hok := hok, bare := .of_eq hg }
  refine codeAny_mono (F _ toK (toNs hns) s₁ H _ [.ref a] [.ref a] _ _ e0 (hbind s₁ (.ref a)) (.cons rfl .nil) hsp) fun r s' h => ?_
  cases r with
  | error e => exact (h : False).elim
  | ok fl =>
    cases fl with
    | next => exact (h : False).elim
    | brk => exact (h : False).elim
    | cont => exact (h : False).elim
    | ret u =>
      obtain ⟨v, H', os, bare, un, hok', rv, q⟩ := h
      obtain rfl : v = .bl true := q
      obtain rfl : u = Value.bool true := rv
      refine ⟨rfl, PySem.OldK.of_keep fun b o e => ?_, os, bare⟩
      cases q : H b with
      | none => exact un.keep b o e q (by simp [frs]) (by simp)
      | some u =>
        rcases hO b with z | ⟨ob, xs, z⟩
        · rw [q] at z; cases z
        · have e1 := (hok b _ z).1
          have e2 := (hok' b _ (un.frzs b ob _ z)).1
          rw [e] at e1
          cases e1
          exact e2
/-- the script handed to the law's def, whatever stands at it in the written part -/
theorem top_call {P : Program} {w : World} {K : PySem.W.Frag} {mg mb : Str → Option Value} {fa a : Addr} {fd : FuncData} {x : Str} {sp : Sp} {s₁ : Shared} {vs : List Value} {ns : List Int}
    (KX : K.In s₁.heap) (hns : s₁.heap.Ns mainGlobals mg) (hb : s₁.heap.Ns builtinsNs mb) (hbb : ∀ x : Str, x ≠ "__name__" → mb x = bootBuiltins x) (hlim : s₁.heap.NoLimit) (hg : s₁.gens = #[])
    (ha : s₁.heap.get? a = some { cls := .type "list", data := .seq vs.toArray }) (hi : IntsAre vs ns) (hl : ns.length ≤ sizeLine) (F : ∀ base : Heap, K.In base → base.Ns mainGlobals mg → TopOk P w K mg base fa fd [x] sp)
    (hbind : ∀ (s : Shared) (u : Value), BindsTo s fd ⟨[u], []⟩ [(x, u)]) (hsp : ∀ H : Hp, Only H → SqL K H a (ns.map V.int) → sp [.ref a] H (fun v _ => v = .bl true) fun _ _ _ => False) :
    codeAny (model P w) callerA (.call (.ref fa) ⟨[.ref a], []⟩) (fun r s' => r = .ok (.ret (.bool true)) ∧ PySem.OldK s₁.heap s'.heap ∧ s'.os = s₁.os ∧ AllBare s'.gens) s₁ := by
  have rv := vals_ints hi
  have len := hi.length
  cases hk : K.lookup a with
  | some o =>
    have e := KX a o hk
    rw [ha] at e
    cases e
    have O : Only fun _ => none := fun _ => .inl rfl
    exact top_one (H := fun _ => none) KX hns hb hbb hlim hg ha F hbind (hsp _ O (.inr ⟨_, vs.toArray, _, hk, rfl, rfl, rfl, by rw [List.size_toArray, len]; exact hl, by simpa using rv⟩)) O (fun b u z => nomatch z) (fun b z => absurd rfl z) fun z => absurd rfl z
  | none =>
    have atA : ∀ {b : Addr} {u : HO}, (upd (fun _ => none) a (.frz { cls := .type "list", data := .seq vs.toArray } (.lst (ns.map V.int)))) b = some u → b = a ∧ u = .frz { cls := .type "list", data := .seq vs.toArray } (.lst (ns.map V.int)) := fun {b u} z => by
      by_cases e : b = a
      · subst e
        rw [upd_same] at z
        exact ⟨rfl, (Option.some.inj z).symm⟩
      · rw [upd_ne e] at z
        cases z
    have O : Only (upd (fun _ => none) a (.frz { cls := .type "list", data := .seq vs.toArray } (.lst (ns.map V.int)))) := fun b => by
      by_cases e : b = a
      · exact .inr ⟨_, _, by rw [e]; exact upd_same⟩
      · exact .inl (by rw [upd_ne e])
    refine top_one (H := upd (fun _ => none) a (.frz { cls := .type "list", data := .seq vs.toArray } (.lst (ns.map V.int)))) KX hns hb hbb hlim hg ha F hbind (hsp _ O (.inl (.inr ⟨_, upd_same⟩))) O (fun b u z => ?_) (fun b z => ?_) fun _ => hk
    · obtain ⟨rfl, rfl⟩ := atA z
      exact ⟨ha, by rw [List.length_map]; exact hl, vs, _, rv, ha⟩
    · cases q : (upd (fun _ => none) a (.frz { cls := .type "list", data := .seq vs.toArray } (.lst (ns.map V.int)))) b with
      | none => exact absurd q z
      | some u => exact (atA q).1
/-- the goal that the head leaves -/
theorem walk_top {l : PySem.W.OpenLaw} {n : Nat} {q : Program} {loose : List Str} {XP : (Str → Option Value) → Heap → Prop} {YP : World → Heap → Prop} {d : DefRec} {K : Params → PySem.W.Frag} {sp : PySem.W.Frag → Sp} {x : Str}
    (hn : l.most = some n) (hn2 : n ≤ sizeLine) (hdf : d.params.defaults = []) (hY : ∀ (w : World) (h : Heap), YP w h → (K w.params).In h)
    (F : ∀ (w : World) (mg : Str → Option Value) (fa : Addr) (h : Heap), (K w.params).In h → h.Ns mainGlobals mg → mg d.name = some (.ref fa) →
      ∃ fd : FuncData, (∀ (s : Shared) (u : Value), BindsTo s fd ⟨[u], []⟩ [(x, u)]) ∧ ∀ base : Heap, (K w.params).In base → base.Ns mainGlobals mg → TopOk l.prog w (K w.params) mg base fa fd [x] (sp (K w.params)))
    (hsp : ∀ (K : PySem.W.Frag) (H : Hp) (a : Addr) (ns : List Int), ns.length ≤ n → Only H → SqL K H a (ns.map V.int) → sp K [.ref a] H (fun v _ => v = .bl true) fun _ _ _ => False) :
    PySem.W.WalkO q loose XP YP l.row.toRowW d [] (fun f vs => PySem.call f vs) := by
  refine Att.attach_call hn hdf fun w s₀ s₁ mg mb fa o pm cd doc a vs ns G Y ho hd hcd hmg hobj hints hlen hg => ?_
  obtain ⟨fd, hb, hF⟩ := F w mg fa _ (hY w _ Y) G.T.g hmg
  exact top_call (hY w _ Y) G.T.g G.T.b G.T.builtins G.T.nolimit hg hobj hints (Nat.le_trans hlen hn2) hF hb fun H hO hS => hsp _ H a ns hlen hO hS
theorem room_top : Room 131 callerA := ⟨rfl, by decide, by decide⟩
theorem law_top {P : Program} {w : World} {K : PySem.W.Frag} {mg : Str → Option Value} {base : Heap} {C fIn fGt fSt : Addr} {Cs fI : Nat → Addr} {fdI : Nat → FuncData} {sd gd : FuncData} {fTr fIs fDu : Addr} {dTr dIs dDu : FuncData} {kI : Nat}
    {fTb fNo fOt fEr fD fP : Addr} {dTb dNo dOt dEr dD dP : FuncData} {f : Addr} {fd : FuncData} (F : Fun K "law" "law" sLaw f fd) (Z : Blt mg) (Sk : Kits K C Cs) (Nf : NodeF K C) (N : NDefs P w K mg base C fIn fGt fSt gd sd kI) (M : Mks P w K mg base Cs fI fdI)
    (Y : WDefs P w K mg base C Cs fTr fIs fDu dTr dIs dDu 40 40 129) (L : LawD P w K mg base C Cs fTb fNo fOt fEr fD fP dTb dNo dOt dEr dD dP) : TopOk P w K mg base f fd ["_law_script"] (spLaw K) :=
  top_of F scLaw (fun vs H Q E h => by obtain ⟨a, ns, rfl, _⟩ := h; rfl) (k := 130) room_top fun cdv s H vs Q E h => law_body rfl Z Sk Nf N M Y L (room_top.deeper _) h
end K5

namespace K5
open PySem PySem.Spec PyProof.Rows L2 StX RZ TL
theorem nodup_getD {l : List Addr} (h : l.Nodup) {i j : Nat} (hi : i < l.length) (hj : j < l.length) (e : l.getD i 0 = l.getD j 0) : i = j := by
  rw [List.getD_eq_getElem?_getD, List.getD_eq_getElem?_getD, List.getElem?_eq_getElem hi, List.getElem?_eq_getElem hj] at e
  have p := List.pairwise_iff_getElem.mp h
  rcases Nat.lt_trichotomy i j with z | z | z
  · exact absurd e (p i j hi hj z)
  · exact z
  · exact absurd e.symm (p j i hj hi z)
def markIs (K : PySem.W.Frag) (a : Addr) : Bool := match tupIn K a with
  | some us => strsIs marks us
  | none => false
theorem markIs_at {K : PySem.W.Frag} {a : Addr} (h : markIs K a = true) (H : Hp) : SqT K H a (marks.map V.str) := by
  unfold markIs at h
  split at h
  · rename_i us e
    exact tupIn_sq e (strsIs_vals h)
  · cases h
set_option maxHeartbeats 64000000 in
theorem all_mk {P : Program} {w : World} {K : PySem.W.Frag} {h : Heap} {mg : Str → Option Value} {fa C0 C1 C2 C3 CN e0 e1 e2 e3 f1 f2 f3 fNI fNG fNS aF aG aC aM gI gB gC gV gN gD gS gG gA gDf gFo gIt gFt gF1 gNo gDr gPk gTs gTe gTp gTr gSg gTb gWd gCn gKf gHe gRe gIw gIn gLf gDu gNd gOt gEr gL : Addr} (X : K.In h) (G : h.Ns mainGlobals mg) (hfa : mg "law" = some (.ref fa))
    {odE0 anE0 : Option Addr} {slE0 : Array (Option Value)} {ocE0 kvE0 dcE0 pmE0 cdE0 ctE0 : Value}
    {odE1 anE1 : Option Addr} {slE1 : Array (Option Value)} {ocE1 kvE1 dcE1 pmE1 cdE1 ctE1 : Value}
    {odI1 anI1 : Option Addr} {slI1 : Array (Option Value)} {ocI1 kvI1 dcI1 pmI1 cdI1 ctI1 : Value}
    {odE2 anE2 : Option Addr} {slE2 : Array (Option Value)} {ocE2 kvE2 dcE2 pmE2 cdE2 ctE2 : Value}
    {odI2 anI2 : Option Addr} {slI2 : Array (Option Value)} {ocI2 kvI2 dcI2 pmI2 cdI2 ctI2 : Value}
    {odE3 anE3 : Option Addr} {slE3 : Array (Option Value)} {ocE3 kvE3 dcE3 pmE3 cdE3 ctE3 : Value}
    {odI3 anI3 : Option Addr} {slI3 : Array (Option Value)} {ocI3 kvI3 dcI3 pmI3 cdI3 ctI3 : Value}
    {odNI anNI : Option Addr} {slNI : Array (Option Value)} {ocNI kvNI dcNI pmNI cdNI ctNI : Value}
    {odNG anNG : Option Addr} {slNG : Array (Option Value)} {ocNG kvNG dcNG pmNG cdNG ctNG : Value}
    {odNS anNS : Option Addr} {slNS : Array (Option Value)} {ocNS kvNS dcNS pmNS cdNS ctNS : Value}
    {odI anI : Option Addr} {slI : Array (Option Value)} {ocI kvI dcI pmI cdI ctI : Value}
    {odB anB : Option Addr} {slB : Array (Option Value)} {ocB kvB dcB pmB cdB ctB : Value}
    {odC anC : Option Addr} {slC : Array (Option Value)} {ocC kvC dcC pmC cdC ctC : Value}
    {odV anV : Option Addr} {slV : Array (Option Value)} {ocV kvV dcV pmV cdV ctV : Value}
    {odN anN : Option Addr} {slN : Array (Option Value)} {ocN kvN dcN pmN cdN ctN : Value}
    {odD anD : Option Addr} {slD : Array (Option Value)} {ocD kvD dcD pmD cdD ctD : Value}
    {odS anS : Option Addr} {slS : Array (Option Value)} {ocS kvS dcS pmS cdS ctS : Value}
    {odG anG : Option Addr} {slG : Array (Option Value)} {ocG kvG dcG pmG cdG ctG : Value}
    {odA anA : Option Addr} {slA : Array (Option Value)} {ocA kvA dcA pmA cdA ctA : Value}
    {odDf anDf : Option Addr} {slDf : Array (Option Value)} {ocDf kvDf dcDf pmDf cdDf ctDf : Value}
    {odFo anFo : Option Addr} {slFo : Array (Option Value)} {ocFo kvFo dcFo pmFo cdFo ctFo : Value}
    {odIt anIt : Option Addr} {slIt : Array (Option Value)} {ocIt kvIt dcIt pmIt cdIt ctIt : Value}
    {odFt anFt : Option Addr} {slFt : Array (Option Value)} {ocFt kvFt dcFt pmFt cdFt ctFt : Value}
    {odF1 anF1 : Option Addr} {slF1 : Array (Option Value)} {ocF1 kvF1 dcF1 pmF1 cdF1 ctF1 : Value}
    {odNo anNo : Option Addr} {slNo : Array (Option Value)} {ocNo kvNo dcNo pmNo cdNo ctNo : Value}
    {odDr anDr : Option Addr} {slDr : Array (Option Value)} {ocDr kvDr dcDr pmDr cdDr ctDr : Value}
    {odPk anPk : Option Addr} {slPk : Array (Option Value)} {ocPk kvPk dcPk pmPk cdPk ctPk : Value}
    {odTs anTs : Option Addr} {slTs : Array (Option Value)} {ocTs kvTs dcTs pmTs cdTs ctTs : Value}
    {odTe anTe : Option Addr} {slTe : Array (Option Value)} {ocTe kvTe dcTe pmTe cdTe ctTe : Value}
    {odTp anTp : Option Addr} {slTp : Array (Option Value)} {ocTp kvTp dcTp pmTp cdTp ctTp : Value}
    {odTr anTr : Option Addr} {slTr : Array (Option Value)} {ocTr kvTr dcTr pmTr cdTr ctTr : Value}
    {odSg anSg : Option Addr} {slSg : Array (Option Value)} {ocSg kvSg dcSg pmSg cdSg ctSg : Value}
    {odTb anTb : Option Addr} {slTb : Array (Option Value)} {ocTb kvTb dcTb pmTb cdTb ctTb : Value}
    {odWd anWd : Option Addr} {slWd : Array (Option Value)} {ocWd kvWd dcWd pmWd cdWd ctWd : Value}
    {odCn anCn : Option Addr} {slCn : Array (Option Value)} {ocCn kvCn dcCn pmCn cdCn ctCn : Value}
    {odKf anKf : Option Addr} {slKf : Array (Option Value)} {ocKf kvKf dcKf pmKf cdKf ctKf : Value}
    {odHe anHe : Option Addr} {slHe : Array (Option Value)} {ocHe kvHe dcHe pmHe cdHe ctHe : Value}
    {odRe anRe : Option Addr} {slRe : Array (Option Value)} {ocRe kvRe dcRe pmRe cdRe ctRe : Value}
    {odIw anIw : Option Addr} {slIw : Array (Option Value)} {ocIw kvIw dcIw pmIw cdIw ctIw : Value}
    {odIn anIn : Option Addr} {slIn : Array (Option Value)} {ocIn kvIn dcIn pmIn cdIn ctIn : Value}
    {odLf anLf : Option Addr} {slLf : Array (Option Value)} {ocLf kvLf dcLf pmLf cdLf ctLf : Value}
    {odDu anDu : Option Addr} {slDu : Array (Option Value)} {ocDu kvDu dcDu pmDu cdDu ctDu : Value}
    {odNd anNd : Option Addr} {slNd : Array (Option Value)} {ocNd kvNd dcNd pmNd cdNd ctNd : Value}
    {odOt anOt : Option Addr} {slOt : Array (Option Value)} {ocOt kvOt dcOt pmOt cdOt ctOt : Value}
    {odEr anEr : Option Addr} {slEr : Array (Option Value)} {ocEr kvEr dcEr pmEr cdEr ctEr : Value}
    {odL anL : Option Addr} {slL : Array (Option Value)} {ocL kvL dcL pmL cdL ctL : Value}
    {esF : Array DictEntry} {nF : Nat}
    {esG : Array DictEntry} {nG : Nat}
    {esC : Array DictEntry} {nC : Nat}
    (a0 : PySem.W.nsIn K mainGlobals "Dots" = some (some (.ref C0)))
    (pg0 : PySem.W.plainGet K C0 Str.empty = true)
    (hx0 : PySem.W.hasDictIn K C0 = true)
    (po0 : PySem.W.plainOver K C0 = true)
    (sa0 : PySem.W.findIn K (.ref C0) "__setattr__" = some (some (.builtin "object.__setattr__")))
    (cl0 : PySem.W.findIn K (.ref C0) "__class__" = some (some (.builtin "object.__class__")))
    (mo0 : PySem.W.mroIn K C0 (.type "object") = some true)
    (mk0 : PySem.W.makesIn K C0 = true)
    (kC0 : PySem.W.keepIn K (.ref C0) = true)
    (eq0 : PySem.W.findIn K (.ref C0) "__eq__" = some (some (.ref e0)))
    (fe0 : PySem.W.isFn K (.ref e0) = true)
    (nf0 : PySem.W.notFirst K C0 (.type "str") = true)
    (lDE0 : K.lookup e0 = some ⟨ocE0, odE0, .func (PySem.W.fnOf "__eq__" "Dots.__eq__" (defArgs sEq0) (defBody sEq0) (defScope sEq0) .none kvE0 dcE0 pmE0 anE0 cdE0 ctE0), slE0⟩)
    (cDE0 : PySem.W.codeIn K cdE0 "Dots.__eq__" = true)
    (kDE0 : PySem.W.keepIn K (.ref e0) = true)
    (i0 : PySem.W.findIn K (.ref C0) "__init__" = some (some (.builtin "object.__init__")))
    (a1 : PySem.W.nsIn K mainGlobals "Float" = some (some (.ref C1)))
    (pg1 : PySem.W.plainGet K C1 Str.empty = true)
    (hx1 : PySem.W.hasDictIn K C1 = true)
    (po1 : PySem.W.plainOver K C1 = true)
    (sa1 : PySem.W.findIn K (.ref C1) "__setattr__" = some (some (.builtin "object.__setattr__")))
    (cl1 : PySem.W.findIn K (.ref C1) "__class__" = some (some (.builtin "object.__class__")))
    (mo1 : PySem.W.mroIn K C1 (.type "object") = some true)
    (mk1 : PySem.W.makesIn K C1 = true)
    (kC1 : PySem.W.keepIn K (.ref C1) = true)
    (eq1 : PySem.W.findIn K (.ref C1) "__eq__" = some (some (.ref e1)))
    (fe1 : PySem.W.isFn K (.ref e1) = true)
    (nf1 : PySem.W.notFirst K C1 (.type "str") = true)
    (lDE1 : K.lookup e1 = some ⟨ocE1, odE1, .func (PySem.W.fnOf "__eq__" "Float.__eq__" (defArgs sEq1) (defBody sEq1) (defScope sEq1) .none kvE1 dcE1 pmE1 anE1 cdE1 ctE1), slE1⟩)
    (cDE1 : PySem.W.codeIn K cdE1 "Float.__eq__" = true)
    (kDE1 : PySem.W.keepIn K (.ref e1) = true)
    (i1 : PySem.W.findIn K (.ref C1) "__init__" = some (some (.ref f1)))
    (fi1 : PySem.W.isFn K (.ref f1) = true)
    (lDI1 : K.lookup f1 = some ⟨ocI1, odI1, .func (PySem.W.fnOf "__init__" "Float.__init__" (defArgs sIn1) (defBody sIn1) (defScope sIn1) .none kvI1 dcI1 pmI1 anI1 cdI1 ctI1), slI1⟩)
    (cDI1 : PySem.W.codeIn K cdI1 "Float.__init__" = true)
    (kDI1 : PySem.W.keepIn K (.ref f1) = true)
    (n1_0 : PySem.W.findIn K (.ref C1) "mantissa" = some none)
    (n1_1 : PySem.W.findIn K (.ref C1) "exponent" = some none)
    (a2 : PySem.W.nsIn K mainGlobals "Imaginary" = some (some (.ref C2)))
    (pg2 : PySem.W.plainGet K C2 Str.empty = true)
    (hx2 : PySem.W.hasDictIn K C2 = true)
    (po2 : PySem.W.plainOver K C2 = true)
    (sa2 : PySem.W.findIn K (.ref C2) "__setattr__" = some (some (.builtin "object.__setattr__")))
    (cl2 : PySem.W.findIn K (.ref C2) "__class__" = some (some (.builtin "object.__class__")))
    (mo2 : PySem.W.mroIn K C2 (.type "object") = some true)
    (mk2 : PySem.W.makesIn K C2 = true)
    (kC2 : PySem.W.keepIn K (.ref C2) = true)
    (eq2 : PySem.W.findIn K (.ref C2) "__eq__" = some (some (.ref e2)))
    (fe2 : PySem.W.isFn K (.ref e2) = true)
    (nf2 : PySem.W.notFirst K C2 (.type "str") = true)
    (lDE2 : K.lookup e2 = some ⟨ocE2, odE2, .func (PySem.W.fnOf "__eq__" "Imaginary.__eq__" (defArgs sEq2) (defBody sEq2) (defScope sEq2) .none kvE2 dcE2 pmE2 anE2 cdE2 ctE2), slE2⟩)
    (cDE2 : PySem.W.codeIn K cdE2 "Imaginary.__eq__" = true)
    (kDE2 : PySem.W.keepIn K (.ref e2) = true)
    (i2 : PySem.W.findIn K (.ref C2) "__init__" = some (some (.ref f2)))
    (fi2 : PySem.W.isFn K (.ref f2) = true)
    (lDI2 : K.lookup f2 = some ⟨ocI2, odI2, .func (PySem.W.fnOf "__init__" "Imaginary.__init__" (defArgs sIn2) (defBody sIn2) (defScope sIn2) .none kvI2 dcI2 pmI2 anI2 cdI2 ctI2), slI2⟩)
    (cDI2 : PySem.W.codeIn K cdI2 "Imaginary.__init__" = true)
    (kDI2 : PySem.W.keepIn K (.ref f2) = true)
    (n2_0 : PySem.W.findIn K (.ref C2) "number" = some none)
    (a3 : PySem.W.nsIn K mainGlobals "Octets" = some (some (.ref C3)))
    (pg3 : PySem.W.plainGet K C3 Str.empty = true)
    (hx3 : PySem.W.hasDictIn K C3 = true)
    (po3 : PySem.W.plainOver K C3 = true)
    (sa3 : PySem.W.findIn K (.ref C3) "__setattr__" = some (some (.builtin "object.__setattr__")))
    (cl3 : PySem.W.findIn K (.ref C3) "__class__" = some (some (.builtin "object.__class__")))
    (mo3 : PySem.W.mroIn K C3 (.type "object") = some true)
    (mk3 : PySem.W.makesIn K C3 = true)
    (kC3 : PySem.W.keepIn K (.ref C3) = true)
    (eq3 : PySem.W.findIn K (.ref C3) "__eq__" = some (some (.ref e3)))
    (fe3 : PySem.W.isFn K (.ref e3) = true)
    (nf3 : PySem.W.notFirst K C3 (.type "str") = true)
    (lDE3 : K.lookup e3 = some ⟨ocE3, odE3, .func (PySem.W.fnOf "__eq__" "Octets.__eq__" (defArgs sEq3) (defBody sEq3) (defScope sEq3) .none kvE3 dcE3 pmE3 anE3 cdE3 ctE3), slE3⟩)
    (cDE3 : PySem.W.codeIn K cdE3 "Octets.__eq__" = true)
    (kDE3 : PySem.W.keepIn K (.ref e3) = true)
    (i3 : PySem.W.findIn K (.ref C3) "__init__" = some (some (.ref f3)))
    (fi3 : PySem.W.isFn K (.ref f3) = true)
    (lDI3 : K.lookup f3 = some ⟨ocI3, odI3, .func (PySem.W.fnOf "__init__" "Octets.__init__" (defArgs sIn3) (defBody sIn3) (defScope sIn3) .none kvI3 dcI3 pmI3 anI3 cdI3 ctI3), slI3⟩)
    (cDI3 : PySem.W.codeIn K cdI3 "Octets.__init__" = true)
    (kDI3 : PySem.W.keepIn K (.ref f3) = true)
    (n3_0 : PySem.W.findIn K (.ref C3) "numbers" = some none)
    (aN : PySem.W.nsIn K mainGlobals "Node" = some (some (.ref CN)))
    (pgN : PySem.W.plainGet K CN Str.empty = true)
    (hxN : PySem.W.hasDictIn K CN = true)
    (poN : PySem.W.plainOver K CN = true)
    (saN : PySem.W.findIn K (.ref CN) "__setattr__" = some (some (.builtin "object.__setattr__")))
    (clN : PySem.W.findIn K (.ref CN) "__class__" = some (some (.builtin "object.__class__")))
    (moN : PySem.W.mroIn K CN (.type "object") = some true)
    (mkN : PySem.W.makesIn K CN = true)
    (kCN : PySem.W.keepIn K (.ref CN) = true)
    (nN_0 : PySem.W.findIn K (.ref CN) "kind" = some none)
    (nN_1 : PySem.W.findIn K (.ref CN) "lineno" = some none)
    (nN_2 : PySem.W.findIn K (.ref CN) "col_offset" = some none)
    (nN_3 : PySem.W.findIn K (.ref CN) "end_lineno" = some none)
    (nN_4 : PySem.W.findIn K (.ref CN) "end_col_offset" = some none)
    (nN_5 : PySem.W.findIn K (.ref CN) "_fields" = some none)
    (iNI : PySem.W.findIn K (.ref CN) "__init__" = some (some (.ref fNI)))
    (fiNI : PySem.W.isFn K (.ref fNI) = true)
    (lDNI : K.lookup fNI = some ⟨ocNI, odNI, .func (PySem.W.fnOf "__init__" "Node.__init__" (defArgs sNI) (defBody sNI) (defScope sNI) .none kvNI dcNI pmNI anNI cdNI ctNI), slNI⟩)
    (cDNI : PySem.W.codeIn K cdNI "Node.__init__" = true)
    (kDNI : PySem.W.keepIn K (.ref fNI) = true)
    (iNG : PySem.W.findIn K (.ref CN) "__getitem__" = some (some (.ref fNG)))
    (fiNG : PySem.W.isFn K (.ref fNG) = true)
    (lDNG : K.lookup fNG = some ⟨ocNG, odNG, .func (PySem.W.fnOf "__getitem__" "Node.__getitem__" (defArgs sNG) (defBody sNG) (defScope sNG) .none kvNG dcNG pmNG anNG cdNG ctNG), slNG⟩)
    (cDNG : PySem.W.codeIn K cdNG "Node.__getitem__" = true)
    (kDNG : PySem.W.keepIn K (.ref fNG) = true)
    (iNS : PySem.W.findIn K (.ref CN) "__setitem__" = some (some (.ref fNS)))
    (fiNS : PySem.W.isFn K (.ref fNS) = true)
    (lDNS : K.lookup fNS = some ⟨ocNS, odNS, .func (PySem.W.fnOf "__setitem__" "Node.__setitem__" (defArgs sNS) (defBody sNS) (defScope sNS) .none kvNS dcNS pmNS anNS cdNS ctNS), slNS⟩)
    (cDNS : PySem.W.codeIn K cdNS "Node.__setitem__" = true)
    (kDNS : PySem.W.keepIn K (.ref fNS) = true)
    (fnNG : PySem.W.fnIn K fNG = true)
    (nsN : PySem.W.noSeq K CN = true)
    (eqN : PySem.W.findIn K (.ref CN) "__eq__" = some (some (.builtin "object.__eq__")))
    (msN : PySem.W.mroIn K CN (.type "str") = some false)
    (ssN : PySem.W.subIn K (.type "str") (.ref CN) = some false)
    (aDI : PySem.W.nsIn K mainGlobals "is_int" = some (some (.ref gI)))
    (lDI : K.lookup gI = some ⟨ocI, odI, .func (PySem.W.fnOf "is_int" "is_int" (defArgs (sC 0)) (defBody (sC 0)) (defScope (sC 0)) .none kvI dcI pmI anI cdI ctI), slI⟩)
    (cDI : PySem.W.codeIn K cdI "is_int" = true)
    (kDI : PySem.W.keepIn K (.ref gI) = true)
    (aDB : PySem.W.nsIn K mainGlobals "is_bit" = some (some (.ref gB)))
    (lDB : K.lookup gB = some ⟨ocB, odB, .func (PySem.W.fnOf "is_bit" "is_bit" (defArgs (sC 1)) (defBody (sC 1)) (defScope (sC 1)) .none kvB dcB pmB anB cdB ctB), slB⟩)
    (cDB : PySem.W.codeIn K cdB "is_bit" = true)
    (kDB : PySem.W.keepIn K (.ref gB) = true)
    (aDC : PySem.W.nsIn K mainGlobals "is_count" = some (some (.ref gC)))
    (lDC : K.lookup gC = some ⟨ocC, odC, .func (PySem.W.fnOf "is_count" "is_count" (defArgs (sC 2)) (defBody (sC 2)) (defScope (sC 2)) .none kvC dcC pmC anC cdC ctC), slC⟩)
    (cDC : PySem.W.codeIn K cdC "is_count" = true)
    (kDC : PySem.W.keepIn K (.ref gC) = true)
    (aDV : PySem.W.nsIn K mainGlobals "is_conversion" = some (some (.ref gV)))
    (lDV : K.lookup gV = some ⟨ocV, odV, .func (PySem.W.fnOf "is_conversion" "is_conversion" (defArgs (sC 3)) (defBody (sC 3)) (defScope (sC 3)) .none kvV dcV pmV anV cdV ctV), slV⟩)
    (cDV : PySem.W.codeIn K cdV "is_conversion" = true)
    (kDV : PySem.W.keepIn K (.ref gV) = true)
    (aDN : PySem.W.nsIn K mainGlobals "is_name" = some (some (.ref gN)))
    (lDN : K.lookup gN = some ⟨ocN, odN, .func (PySem.W.fnOf "is_name" "is_name" (defArgs (sC 4)) (defBody (sC 4)) (defScope (sC 4)) .none kvN dcN pmN anN cdN ctN), slN⟩)
    (cDN : PySem.W.codeIn K cdN "is_name" = true)
    (kDN : PySem.W.keepIn K (.ref gN) = true)
    (aDD : PySem.W.nsIn K mainGlobals "is_dotted" = some (some (.ref gD)))
    (lDD : K.lookup gD = some ⟨ocD, odD, .func (PySem.W.fnOf "is_dotted" "is_dotted" (defArgs (sC 5)) (defBody (sC 5)) (defScope (sC 5)) .none kvD dcD pmD anD cdD ctD), slD⟩)
    (cDD : PySem.W.codeIn K cdD "is_dotted" = true)
    (kDD : PySem.W.keepIn K (.ref gD) = true)
    (aDS : PySem.W.nsIn K mainGlobals "is_dotted_or_star" = some (some (.ref gS)))
    (lDS : K.lookup gS = some ⟨ocS, odS, .func (PySem.W.fnOf "is_dotted_or_star" "is_dotted_or_star" (defArgs (sC 6)) (defBody (sC 6)) (defScope (sC 6)) .none kvS dcS pmS anS cdS ctS), slS⟩)
    (cDS : PySem.W.codeIn K cdS "is_dotted_or_star" = true)
    (kDS : PySem.W.keepIn K (.ref gS) = true)
    (aDG : PySem.W.nsIn K mainGlobals "is_singleton" = some (some (.ref gG)))
    (lDG : K.lookup gG = some ⟨ocG, odG, .func (PySem.W.fnOf "is_singleton" "is_singleton" (defArgs (sC 7)) (defBody (sC 7)) (defScope (sC 7)) .none kvG dcG pmG anG cdG ctG), slG⟩)
    (cDG : PySem.W.codeIn K cdG "is_singleton" = true)
    (kDG : PySem.W.keepIn K (.ref gG) = true)
    (aDA : PySem.W.nsIn K mainGlobals "is_value" = some (some (.ref gA)))
    (lDA : K.lookup gA = some ⟨ocA, odA, .func (PySem.W.fnOf "is_value" "is_value" (defArgs (sC 8)) (defBody (sC 8)) (defScope (sC 8)) .none kvA dcA pmA anA cdA ctA), slA⟩)
    (cDA : PySem.W.codeIn K cdA "is_value" = true)
    (kDA : PySem.W.keepIn K (.ref gA) = true)
    (aDDf : PySem.W.nsIn K mainGlobals "_default" = some (some (.ref gDf)))
    (lDDf : K.lookup gDf = some ⟨ocDf, odDf, .func (PySem.W.fnOf "_default" "_default" (defArgs sDef) (defBody sDef) (defScope sDef) .none kvDf dcDf pmDf anDf cdDf ctDf), slDf⟩)
    (cDDf : PySem.W.codeIn K cdDf "_default" = true)
    (kDDf : PySem.W.keepIn K (.ref gDf) = true)
    (aDFo : PySem.W.nsIn K mainGlobals "fields_of" = some (some (.ref gFo)))
    (lDFo : K.lookup gFo = some ⟨ocFo, odFo, .func (PySem.W.fnOf "fields_of" "fields_of" (defArgs sFO) (defBody sFO) (defScope sFO) .none kvFo dcFo pmFo anFo cdFo ctFo), slFo⟩)
    (cDFo : PySem.W.codeIn K cdFo "fields_of" = true)
    (kDFo : PySem.W.keepIn K (.ref gFo) = true)
    (aDIt : PySem.W.nsIn K mainGlobals "is_tree" = some (some (.ref gIt)))
    (lDIt : K.lookup gIt = some ⟨ocIt, odIt, .func (PySem.W.fnOf "is_tree" "is_tree" (defArgs sTree) (defBody sTree) (defScope sTree) .none kvIt dcIt pmIt anIt cdIt ctIt), slIt⟩)
    (cDIt : PySem.W.codeIn K cdIt "is_tree" = true)
    (kDIt : PySem.W.keepIn K (.ref gIt) = true)
    (aDFt : PySem.W.nsIn K mainGlobals "_fits" = some (some (.ref gFt)))
    (lDFt : K.lookup gFt = some ⟨ocFt, odFt, .func (PySem.W.fnOf "_fits" "_fits" (defArgs sFit) (defBody sFit) (defScope sFit) .none kvFt dcFt pmFt anFt cdFt ctFt), slFt⟩)
    (cDFt : PySem.W.codeIn K cdFt "_fits" = true)
    (kDFt : PySem.W.keepIn K (.ref gFt) = true)
    (aDF1 : PySem.W.nsIn K mainGlobals "_fits_one" = some (some (.ref gF1)))
    (lDF1 : K.lookup gF1 = some ⟨ocF1, odF1, .func (PySem.W.fnOf "_fits_one" "_fits_one" (defArgs sF1) (defBody sF1) (defScope sF1) .none kvF1 dcF1 pmF1 anF1 cdF1 ctF1), slF1⟩)
    (cDF1 : PySem.W.codeIn K cdF1 "_fits_one" = true)
    (kDF1 : PySem.W.keepIn K (.ref gF1) = true)
    (aDNo : PySem.W.nsIn K mainGlobals "nodes_of" = some (some (.ref gNo)))
    (lDNo : K.lookup gNo = some ⟨ocNo, odNo, .func (PySem.W.fnOf "nodes_of" "nodes_of" (defArgs sNO) (defBody sNO) (defScope sNO) .none kvNo dcNo pmNo anNo cdNo ctNo), slNo⟩)
    (cDNo : PySem.W.codeIn K cdNo "nodes_of" = true)
    (kDNo : PySem.W.keepIn K (.ref gNo) = true)
    (aDDr : PySem.W.nsIn K mainGlobals "_law_draw" = some (some (.ref gDr)))
    (lDDr : K.lookup gDr = some ⟨ocDr, odDr, .func (PySem.W.fnOf "_law_draw" "_law_draw" (defArgs sDraw) (defBody sDraw) (defScope sDraw) .none kvDr dcDr pmDr anDr cdDr ctDr), slDr⟩)
    (cDDr : PySem.W.codeIn K cdDr "_law_draw" = true)
    (kDDr : PySem.W.keepIn K (.ref gDr) = true)
    (aDPk : PySem.W.nsIn K mainGlobals "_law_pick" = some (some (.ref gPk)))
    (lDPk : K.lookup gPk = some ⟨ocPk, odPk, .func (PySem.W.fnOf "_law_pick" "_law_pick" (defArgs sPick) (defBody sPick) (defScope sPick) .none kvPk dcPk pmPk anPk cdPk ctPk), slPk⟩)
    (cDPk : PySem.W.codeIn K cdPk "_law_pick" = true)
    (kDPk : PySem.W.keepIn K (.ref gPk) = true)
    (aDTs : PySem.W.nsIn K mainGlobals "_law_statements" = some (some (.ref gTs)))
    (lDTs : K.lookup gTs = some ⟨ocTs, odTs, .func (PySem.W.fnOf "_law_statements" "_law_statements" (defArgs sStm) (defBody sStm) (defScope sStm) .none kvTs dcTs pmTs anTs cdTs ctTs), slTs⟩)
    (cDTs : PySem.W.codeIn K cdTs "_law_statements" = true)
    (kDTs : PySem.W.keepIn K (.ref gTs) = true)
    (aDTe : PySem.W.nsIn K mainGlobals "_law_expressions" = some (some (.ref gTe)))
    (lDTe : K.lookup gTe = some ⟨ocTe, odTe, .func (PySem.W.fnOf "_law_expressions" "_law_expressions" (defArgs sExp) (defBody sExp) (defScope sExp) .none kvTe dcTe pmTe anTe cdTe ctTe), slTe⟩)
    (cDTe : PySem.W.codeIn K cdTe "_law_expressions" = true)
    (kDTe : PySem.W.keepIn K (.ref gTe) = true)
    (aDTp : PySem.W.nsIn K mainGlobals "_law_patterns" = some (some (.ref gTp)))
    (lDTp : K.lookup gTp = some ⟨ocTp, odTp, .func (PySem.W.fnOf "_law_patterns" "_law_patterns" (defArgs sPat) (defBody sPat) (defScope sPat) .none kvTp dcTp pmTp anTp cdTp ctTp), slTp⟩)
    (cDTp : PySem.W.codeIn K cdTp "_law_patterns" = true)
    (kDTp : PySem.W.keepIn K (.ref gTp) = true)
    (aDTr : PySem.W.nsIn K mainGlobals "_law_parts" = some (some (.ref gTr)))
    (lDTr : K.lookup gTr = some ⟨ocTr, odTr, .func (PySem.W.fnOf "_law_parts" "_law_parts" (defArgs sPrt) (defBody sPrt) (defScope sPrt) .none kvTr dcTr pmTr anTr cdTr ctTr), slTr⟩)
    (cDTr : PySem.W.codeIn K cdTr "_law_parts" = true)
    (kDTr : PySem.W.keepIn K (.ref gTr) = true)
    (aDSg : PySem.W.nsIn K mainGlobals "_law_signs_of" = some (some (.ref gSg)))
    (lDSg : K.lookup gSg = some ⟨ocSg, odSg, .func (PySem.W.fnOf "_law_signs_of" "_law_signs_of" (defArgs sSg) (defBody sSg) (defScope sSg) .none kvSg dcSg pmSg anSg cdSg ctSg), slSg⟩)
    (cDSg : PySem.W.codeIn K cdSg "_law_signs_of" = true)
    (kDSg : PySem.W.keepIn K (.ref gSg) = true)
    (aDTb : PySem.W.nsIn K mainGlobals "_law_table" = some (some (.ref gTb)))
    (lDTb : K.lookup gTb = some ⟨ocTb, odTb, .func (PySem.W.fnOf "_law_table" "_law_table" (defArgs sTbl) (defBody sTbl) (defScope sTbl) .none kvTb dcTb pmTb anTb cdTb ctTb), slTb⟩)
    (cDTb : PySem.W.codeIn K cdTb "_law_table" = true)
    (kDTb : PySem.W.keepIn K (.ref gTb) = true)
    (aDWd : PySem.W.nsIn K mainGlobals "_law_word" = some (some (.ref gWd)))
    (lDWd : K.lookup gWd = some ⟨ocWd, odWd, .func (PySem.W.fnOf "_law_word" "_law_word" (defArgs sWord) (defBody sWord) (defScope sWord) .none kvWd dcWd pmWd anWd cdWd ctWd), slWd⟩)
    (cDWd : PySem.W.codeIn K cdWd "_law_word" = true)
    (kDWd : PySem.W.keepIn K (.ref gWd) = true)
    (aDCn : PySem.W.nsIn K mainGlobals "_law_constant" = some (some (.ref gCn)))
    (lDCn : K.lookup gCn = some ⟨ocCn, odCn, .func (PySem.W.fnOf "_law_constant" "_law_constant" (defArgs sCon) (defBody sCon) (defScope sCon) .none kvCn dcCn pmCn anCn cdCn ctCn), slCn⟩)
    (cDCn : PySem.W.codeIn K cdCn "_law_constant" = true)
    (kDCn : PySem.W.keepIn K (.ref gCn) = true)
    (aDKf : PySem.W.nsIn K mainGlobals "_law_kind_for" = some (some (.ref gKf)))
    (lDKf : K.lookup gKf = some ⟨ocKf, odKf, .func (PySem.W.fnOf "_law_kind_for" "_law_kind_for" (defArgs sKF) (defBody sKF) (defScope sKF) .none kvKf dcKf pmKf anKf cdKf ctKf), slKf⟩)
    (cDKf : PySem.W.codeIn K cdKf "_law_kind_for" = true)
    (kDKf : PySem.W.keepIn K (.ref gKf) = true)
    (aDHe : PySem.W.nsIn K mainGlobals "_law_held" = some (some (.ref gHe)))
    (lDHe : K.lookup gHe = some ⟨ocHe, odHe, .func (PySem.W.fnOf "_law_held" "_law_held" (defArgs sHe) (defBody sHe) (defScope sHe) .none kvHe dcHe pmHe anHe cdHe ctHe), slHe⟩)
    (cDHe : PySem.W.codeIn K cdHe "_law_held" = true)
    (kDHe : PySem.W.keepIn K (.ref gHe) = true)
    (aDRe : PySem.W.nsIn K mainGlobals "_law_tree" = some (some (.ref gRe)))
    (lDRe : K.lookup gRe = some ⟨ocRe, odRe, .func (PySem.W.fnOf "_law_tree" "_law_tree" (defArgs sTr) (defBody sTr) (defScope sTr) .none kvRe dcRe pmRe anRe cdRe ctRe), slRe⟩)
    (cDRe : PySem.W.codeIn K cdRe "_law_tree" = true)
    (kDRe : PySem.W.keepIn K (.ref gRe) = true)
    (aDIw : PySem.W.nsIn K mainGlobals "_law_is_word" = some (some (.ref gIw)))
    (lDIw : K.lookup gIw = some ⟨ocIw, odIw, .func (PySem.W.fnOf "_law_is_word" "_law_is_word" (defArgs sIW) (defBody sIW) (defScope sIW) .none kvIw dcIw pmIw anIw cdIw ctIw), slIw⟩)
    (cDIw : PySem.W.codeIn K cdIw "_law_is_word" = true)
    (kDIw : PySem.W.keepIn K (.ref gIw) = true)
    (aDIn : PySem.W.nsIn K mainGlobals "_law_is_number" = some (some (.ref gIn)))
    (lDIn : K.lookup gIn = some ⟨ocIn, odIn, .func (PySem.W.fnOf "_law_is_number" "_law_is_number" (defArgs sIN) (defBody sIN) (defScope sIN) .none kvIn dcIn pmIn anIn cdIn ctIn), slIn⟩)
    (cDIn : PySem.W.codeIn K cdIn "_law_is_number" = true)
    (kDIn : PySem.W.keepIn K (.ref gIn) = true)
    (aDLf : PySem.W.nsIn K mainGlobals "_law_fits" = some (some (.ref gLf)))
    (lDLf : K.lookup gLf = some ⟨ocLf, odLf, .func (PySem.W.fnOf "_law_fits" "_law_fits" (defArgs sLF) (defBody sLF) (defScope sLF) .none kvLf dcLf pmLf anLf cdLf ctLf), slLf⟩)
    (cDLf : PySem.W.codeIn K cdLf "_law_fits" = true)
    (kDLf : PySem.W.keepIn K (.ref gLf) = true)
    (aDDu : PySem.W.nsIn K mainGlobals "_law_is_due" = some (some (.ref gDu)))
    (lDDu : K.lookup gDu = some ⟨ocDu, odDu, .func (PySem.W.fnOf "_law_is_due" "_law_is_due" (defArgs sDue) (defBody sDue) (defScope sDue) .none kvDu dcDu pmDu anDu cdDu ctDu), slDu⟩)
    (cDDu : PySem.W.codeIn K cdDu "_law_is_due" = true)
    (kDDu : PySem.W.keepIn K (.ref gDu) = true)
    (aDNd : PySem.W.nsIn K mainGlobals "_law_nodes" = some (some (.ref gNd)))
    (lDNd : K.lookup gNd = some ⟨ocNd, odNd, .func (PySem.W.fnOf "_law_nodes" "_law_nodes" (defArgs sNds) (defBody sNds) (defScope sNds) .none kvNd dcNd pmNd anNd cdNd ctNd), slNd⟩)
    (cDNd : PySem.W.codeIn K cdNd "_law_nodes" = true)
    (kDNd : PySem.W.keepIn K (.ref gNd) = true)
    (aDOt : PySem.W.nsIn K mainGlobals "_law_other" = some (some (.ref gOt)))
    (lDOt : K.lookup gOt = some ⟨ocOt, odOt, .func (PySem.W.fnOf "_law_other" "_law_other" (defArgs sOt) (defBody sOt) (defScope sOt) .none kvOt dcOt pmOt anOt cdOt ctOt), slOt⟩)
    (cDOt : PySem.W.codeIn K cdOt "_law_other" = true)
    (kDOt : PySem.W.keepIn K (.ref gOt) = true)
    (aDEr : PySem.W.nsIn K mainGlobals "_law_each_right" = some (some (.ref gEr)))
    (lDEr : K.lookup gEr = some ⟨ocEr, odEr, .func (PySem.W.fnOf "_law_each_right" "_law_each_right" (defArgs sEr) (defBody sEr) (defScope sEr) .none kvEr dcEr pmEr anEr cdEr ctEr), slEr⟩)
    (cDEr : PySem.W.codeIn K cdEr "_law_each_right" = true)
    (kDEr : PySem.W.keepIn K (.ref gEr) = true)
    (aDL : PySem.W.nsIn K mainGlobals "law" = some (some (.ref gL)))
    (lDL : K.lookup gL = some ⟨ocL, odL, .func (PySem.W.fnOf "law" "law" (defArgs sLaw) (defBody sLaw) (defScope sLaw) .none kvL dcL pmL anL cdL ctL), slL⟩)
    (cDL : PySem.W.codeIn K cdL "law" = true)
    (kDL : PySem.W.keepIn K (.ref gL) = true)
    (z_isinstance : PySem.W.nsIn K mainGlobals "isinstance" = some none)
    (z_str : PySem.W.nsIn K mainGlobals "str" = some none)
    (z_tuple : PySem.W.nsIn K mainGlobals "tuple" = some none)
    (z_list : PySem.W.nsIn K mainGlobals "list" = some none)
    (z_len : PySem.W.nsIn K mainGlobals "len" = some none)
    (z_zip : PySem.W.nsIn K mainGlobals "zip" = some none)
    (z_all : PySem.W.nsIn K mainGlobals "all" = some none)
    (z_int : PySem.W.nsIn K mainGlobals "int" = some none)
    (z_bool : PySem.W.nsIn K mainGlobals "bool" = some none)
    (z_sorted : PySem.W.nsIn K mainGlobals "sorted" = some none)
    (z_range : PySem.W.nsIn K mainGlobals "range" = some none)
    (z_max : PySem.W.nsIn K mainGlobals "max" = some none)
    (z_repr : PySem.W.nsIn K mainGlobals "repr" = some none)
    (sp : PySem.W.specialIn K (.builtin "object.__class__") "__get__" = some (some (.builtin "getset_descriptor.__get__")))
    (tk : PySem.W.takesIn K (.builtin "object.__class__") = some true)
    (aaF : PySem.W.nsIn K mainGlobals "FIELDS" = some (some (.ref aF)))
    (lkF : K.lookup aF = some ⟨.type "dict", none, .dict esF nF, #[]⟩)
    (liF : PySem.W.KeysLit w.params esF.toList)
    (loF : (aF == sysModules) = false)
    (aaG : PySem.W.nsIn K mainGlobals "GROUPS" = some (some (.ref aG)))
    (lkG : K.lookup aG = some ⟨.type "dict", none, .dict esG nG, #[]⟩)
    (liG : PySem.W.KeysLit w.params esG.toList)
    (loG : (aG == sysModules) = false)
    (aaC : PySem.W.nsIn K mainGlobals "CHECKS" = some (some (.ref aC)))
    (lkC : K.lookup aC = some ⟨.type "dict", none, .dict esC nC, #[]⟩)
    (liC : PySem.W.KeysLit w.params esC.toList)
    (loC : (aC == sysModules) = false)
    (aaM : PySem.W.nsIn K mainGlobals "LIST_MARKS" = some (some (.ref aM)))
    (tM : markIs K aM = true)
    (oF : fldIs K aF = true)
    (oG : grpIs K aG = true)
    (grNo : ((["ExceptHandler", "JoinedStr", "alias", "arg", "arguments", "comprehension", "keyword", "match_case", "withitem"] : List Str).all fun r : Str => PySem.W.nsIn K aG r == some none) = true)
    (ckB : PySem.W.nsIn K aC "BIT" = some (some (.ref gB)))
    (ckC : PySem.W.nsIn K aC "COUNT" = some (some (.ref gC)))
    (ckV : PySem.W.nsIn K aC "CONVERSION" = some (some (.ref gV)))
    (ckN : PySem.W.nsIn K aC "NAME" = some (some (.ref gN)))
    (ckD : PySem.W.nsIn K aC "DOTTED" = some (some (.ref gD)))
    (ckS : PySem.W.nsIn K aC "DOTTED_OR_STAR" = some (some (.ref gS)))
    (ckG : PySem.W.nsIn K aC "SINGLETON" = some (some (.ref gG)))
    (ckA : PySem.W.nsIn K aC "VALUE" = some (some (.ref gA)))
    (ckno : ((grpN ++ kinR).all fun r => PySem.W.nsIn K aC r == some none) = true)
    (tab : ((tys CN (fun k => ([C0, C1, C2, C3] : List Addr).getD k 0)).all fun t => (clss CN (fun k => ([C0, C1, C2, C3] : List Addr).getD k 0)).all fun c => PySem.W.kitOne K t c == some (isOf t c)) = true)
    (nd : ([C0, C1, C2, C3, CN] : List Addr).Nodup)
    (ndc : ([gB, gC, gV, gN, gD, gS, gG, gA] : List Addr).Nodup)
    : ∃ fd : FuncData, (∀ (s : Shared) (v : Value), BindsTo s fd ⟨[v], []⟩ [("_law_script", v)]) ∧ ∀ base : Heap, K.In base → base.Ns mainGlobals mg → TopOk P w K mg base fa fd ["_law_script"] (spLaw K) := by
  have e := hfa.symm.trans (PySem.W.mg_of X G aDL)
  cases e
  let Cs : Nat → Addr := fun k => ([C0, C1, C2, C3] : List Addr).getD k 0
  let fE : Nat → Addr := fun k => ([e0, e1, e2, e3] : List Addr).getD k 0
  let fI : Nat → Addr := fun k => ([e0, f1, f2, f3] : List Addr).getD k 0
  let fc : Nat → Addr := fun k => ([gB, gC, gV, gN, gD, gS, gG, gA] : List Addr).getD k 0
  have Sk : Kits K CN Cs := {
    tab := tab, cl := ⟨pgN, hxN, poN, saN⟩, ha := clN, hn := sp, htk := tk, hm := moN,
    cl4 := fun k hk => match k, hk with
      | 0, _ => ⟨pg0, hx0, po0, sa0⟩
      | 1, _ => ⟨pg1, hx1, po1, sa1⟩
      | 2, _ => ⟨pg2, hx2, po2, sa2⟩
      | 3, _ => ⟨pg3, hx3, po3, sa3⟩,
    ha4 := fun k hk => match k, hk with
      | 0, _ => cl0
      | 1, _ => cl1
      | 2, _ => cl2
      | 3, _ => cl3,
    hm4 := fun k hk => match k, hk with
      | 0, _ => mo0
      | 1, _ => mo1
      | 2, _ => mo2
      | 3, _ => mo3,
    ne := fun k hk e => by
      have z := nodup_getD nd (i := k) (j := 4) (by show k < 5; omega) (by show 4 < 5; decide) (by rcases k with _ | _ | _ | _ | k <;> first | exact e | omega)
      omega,
    inj := fun i j hi hj e => nodup_getD nd (i := i) (j := j) (by show i < 5; omega) (by show j < 5; omega) (by
      rcases i with _ | _ | _ | _ | i <;> rcases j with _ | _ | _ | _ | j <;> first | exact e | omega) }
  have Nf : NodeF K CN := ⟨⟨pgN, hxN, poN, saN⟩, nN_0, nN_1, nN_2, nN_3, nN_4, nN_5⟩
  have Nc : NodeC K CN fNG fNS := ⟨⟨pgN, hxN, poN, saN⟩, nsN, iNG, fnNG, fiNG, iNS, fiNS⟩
  have Ef : EqF K CN Cs fE := {
    n1 := eqN, n2 := msN, n3 := ssN,
    eq := fun k hk => match k, hk with
      | 0, _ => eq0
      | 1, _ => eq1
      | 2, _ => eq2
      | 3, _ => eq3,
    fn := fun k hk => match k, hk with
      | 0, _ => fe0
      | 1, _ => fe1
      | 2, _ => fe2
      | 3, _ => fe3,
    nf := fun k hk => match k, hk with
      | 0, _ => nf0
      | 1, _ => nf1
      | 2, _ => nf2
      | 3, _ => nf3 }
  have Z : Blt mg := { isI := PySem.W.mg_none_of X G z_isinstance, st := PySem.W.mg_none_of X G z_str, tp := PySem.W.mg_none_of X G z_tuple, ls := PySem.W.mg_none_of X G z_list, ln := PySem.W.mg_none_of X G z_len, zp := PySem.W.mg_none_of X G z_zip, al := PySem.W.mg_none_of X G z_all, it := PySem.W.mg_none_of X G z_int, bo := PySem.W.mg_none_of X G z_bool, so := PySem.W.mg_none_of X G z_sorted, rg := PySem.W.mg_none_of X G z_range, mx := PySem.W.mg_none_of X G z_max, rp := PySem.W.mg_none_of X G z_repr }
  have Tb : Tabs K w mg aF aG esF esG nF nG := ⟨⟨lkF, liF, loF⟩, ⟨lkG, liG, loG⟩, PySem.W.mg_of X G aaF, PySem.W.mg_of X G aaG, oF, oG, grNo⟩
  have Ck : Chks K w mg aC esC nC fc := ⟨⟨lkC, liC, loC⟩, PySem.W.mg_of X G aaC, fun i hi => match i, hi with
    | 0, _ => ckB
    | 1, _ => ckC
    | 2, _ => ckV
    | 3, _ => ckN
    | 4, _ => ckD
    | 5, _ => ckS
    | 6, _ => ckG
    | 7, _ => ckA, ckno, fun i j hi hj e => nodup_getD ndc hi hj e⟩
  have FI := fun_mk (st := (sC 0)) lDI cDI kDI
  have bI := FI.binds (ps := ["thing"]) fun _ _ _ _ _ _ us hl => match us, hl with | [_], _ => rfl
  have FB := fun_mk (st := (sC 1)) lDB cDB kDB
  have bB := FB.binds (ps := ["thing"]) fun _ _ _ _ _ _ us hl => match us, hl with | [_], _ => rfl
  have FC := fun_mk (st := (sC 2)) lDC cDC kDC
  have bC := FC.binds (ps := ["thing"]) fun _ _ _ _ _ _ us hl => match us, hl with | [_], _ => rfl
  have FV := fun_mk (st := (sC 3)) lDV cDV kDV
  have bV := FV.binds (ps := ["thing"]) fun _ _ _ _ _ _ us hl => match us, hl with | [_], _ => rfl
  have FN := fun_mk (st := (sC 4)) lDN cDN kDN
  have bN := FN.binds (ps := ["thing"]) fun _ _ _ _ _ _ us hl => match us, hl with | [_], _ => rfl
  have FD := fun_mk (st := (sC 5)) lDD cDD kDD
  have bD := FD.binds (ps := ["thing"]) fun _ _ _ _ _ _ us hl => match us, hl with | [_], _ => rfl
  have FS := fun_mk (st := (sC 6)) lDS cDS kDS
  have bS := FS.binds (ps := ["thing"]) fun _ _ _ _ _ _ us hl => match us, hl with | [_], _ => rfl
  have FG := fun_mk (st := (sC 7)) lDG cDG kDG
  have bG := FG.binds (ps := ["thing"]) fun _ _ _ _ _ _ us hl => match us, hl with | [_], _ => rfl
  have FA := fun_mk (st := (sC 8)) lDA cDA kDA
  have bA := FA.binds (ps := ["thing"]) fun _ _ _ _ _ _ us hl => match us, hl with | [_], _ => rfl
  have FDf := fun_mk (st := sDef) lDDf cDDf kDDf
  have bDf := FDf.binds (ps := ["name", "mark"]) fun _ _ _ _ _ _ us hl => match us, hl with | [_, _], _ => rfl
  have FFo := fun_mk (st := sFO) lDFo cDFo kDFo
  have bFo := FFo.binds (ps := ["kind"]) fun _ _ _ _ _ _ us hl => match us, hl with | [_], _ => rfl
  have FIt := fun_mk (st := sTree) lDIt cDIt kDIt
  have bIt := FIt.binds (ps := ["thing"]) fun _ _ _ _ _ _ us hl => match us, hl with | [_], _ => rfl
  have FFt := fun_mk (st := sFit) lDFt cDFt kDFt
  have bFt := FFt.binds (ps := ["value", "rule", "mark"]) fun _ _ _ _ _ _ us hl => match us, hl with | [_, _, _], _ => rfl
  have FF1 := fun_mk (st := sF1) lDF1 cDF1 kDF1
  have bF1 := FF1.binds (ps := ["value", "rule"]) fun _ _ _ _ _ _ us hl => match us, hl with | [_, _], _ => rfl
  have FNo := fun_mk (st := sNO) lDNo cDNo kDNo
  have bNo := FNo.binds (ps := ["value"]) fun _ _ _ _ _ _ us hl => match us, hl with | [_], _ => rfl
  have FDr := fun_mk (st := sDraw) lDDr cDDr kDDr
  have bDr := FDr.binds (ps := ["_law_stream", "_law_many"]) fun _ _ _ _ _ _ us hl => match us, hl with | [_, _], _ => rfl
  have FPk := fun_mk (st := sPick) lDPk cDPk kDPk
  have bPk := FPk.binds (ps := ["_law_stream", "_law_some"]) fun _ _ _ _ _ _ us hl => match us, hl with | [_, _], _ => rfl
  have FTs := fun_mk (st := sStm) lDTs cDTs kDTs
  have bTs := FTs.binds (ps := ([] : List Str)) fun _ _ _ _ _ _ us hl => match us, hl with | [], _ => rfl
  have FTe := fun_mk (st := sExp) lDTe cDTe kDTe
  have bTe := FTe.binds (ps := ([] : List Str)) fun _ _ _ _ _ _ us hl => match us, hl with | [], _ => rfl
  have FTp := fun_mk (st := sPat) lDTp cDTp kDTp
  have bTp := FTp.binds (ps := ([] : List Str)) fun _ _ _ _ _ _ us hl => match us, hl with | [], _ => rfl
  have FTr := fun_mk (st := sPrt) lDTr cDTr kDTr
  have bTr := FTr.binds (ps := ([] : List Str)) fun _ _ _ _ _ _ us hl => match us, hl with | [], _ => rfl
  have FSg := fun_mk (st := sSg) lDSg cDSg kDSg
  have bSg := FSg.binds (ps := ["_law_word_here"]) fun _ _ _ _ _ _ us hl => match us, hl with | [_], _ => rfl
  have FTb := fun_mk (st := sTbl) lDTb cDTb kDTb
  have bTb := FTb.binds (ps := ([] : List Str)) fun _ _ _ _ _ _ us hl => match us, hl with | [], _ => rfl
  have FWd := fun_mk (st := sWord) lDWd cDWd kDWd
  have bWd := FWd.binds (ps := ["_law_stream"]) fun _ _ _ _ _ _ us hl => match us, hl with | [_], _ => rfl
  have FCn := fun_mk (st := sCon) lDCn cDCn kDCn
  have bCn := FCn.binds (ps := ["_law_stream"]) fun _ _ _ _ _ _ us hl => match us, hl with | [_], _ => rfl
  have FKf := fun_mk (st := sKF) lDKf cDKf kDKf
  have bKf := FKf.binds (ps := ["_law_stream", "_law_held_here", "_law_deep"]) fun _ _ _ _ _ _ us hl => match us, hl with | [_, _, _], _ => rfl
  have FHe := fun_mk (st := sHe) lDHe cDHe kDHe
  have bHe := FHe.binds (ps := ["_law_stream", "_law_table_here", "_law_held_here", "_law_deep"]) fun _ _ _ _ _ _ us hl => match us, hl with | [_, _, _, _], _ => rfl
  have FRe := fun_mk (st := sTr) lDRe cDRe kDRe
  have bRe := FRe.binds (ps := ["_law_stream", "_law_table_here", "_law_kind", "_law_deep"]) fun _ _ _ _ _ _ us hl => match us, hl with | [_, _, _, _], _ => rfl
  have FIw := fun_mk (st := sIW) lDIw cDIw kDIw
  have bIw := FIw.binds (ps := ["_law_thing"]) fun _ _ _ _ _ _ us hl => match us, hl with | [_], _ => rfl
  have FIn := fun_mk (st := sIN) lDIn cDIn kDIn
  have bIn := FIn.binds (ps := ["_law_thing", "_law_some"]) fun _ _ _ _ _ _ us hl => match us, hl with | [_, _], _ => rfl
  have FLf := fun_mk (st := sLF) lDLf cDLf kDLf
  have bLf := FLf.binds (ps := ["_law_table_here", "_law_value", "_law_held_here"]) fun _ _ _ _ _ _ us hl => match us, hl with | [_, _, _], _ => rfl
  have FDu := fun_mk (st := sDue) lDDu cDDu kDDu
  have bDu := FDu.binds (ps := ["_law_table_here", "_law_thing"]) fun _ _ _ _ _ _ us hl => match us, hl with | [_, _], _ => rfl
  have FNd := fun_mk (st := sNds) lDNd cDNd kDNd
  have bNd := FNd.binds (ps := ["_law_table_here", "_law_node"]) fun _ _ _ _ _ _ us hl => match us, hl with | [_, _], _ => rfl
  have FOt := fun_mk (st := sOt) lDOt cDOt kDOt
  have bOt := FOt.binds (ps := ["_law_stream", "_law_value"]) fun _ _ _ _ _ _ us hl => match us, hl with | [_, _], _ => rfl
  have FEr := fun_mk (st := sEr) lDEr cDEr kDEr
  have bEr := FEr.binds (ps := ["_law_stream", "_law_table_here"]) fun _ _ _ _ _ _ us hl => match us, hl with | [_, _], _ => rfl
  have FL := fun_mk (st := sLaw) lDL cDL kDL
  have FE0 := fun_mk (st := sEq0) lDE0 cDE0 kDE0
  have bE0 := FE0.binds (ps := ["self", "other"]) fun _ _ _ _ _ _ us hl => match us, hl with | [_, _], _ => rfl
  have FE1 := fun_mk (st := sEq1) lDE1 cDE1 kDE1
  have bE1 := FE1.binds (ps := ["self", "other"]) fun _ _ _ _ _ _ us hl => match us, hl with | [_, _], _ => rfl
  have FI1 := fun_mk (st := sIn1) lDI1 cDI1 kDI1
  have bI1 := FI1.binds (ps := ["self", "mantissa", "exponent"]) fun _ _ _ _ _ _ us hl => match us, hl with | [_, _, _], _ => rfl
  have FE2 := fun_mk (st := sEq2) lDE2 cDE2 kDE2
  have bE2 := FE2.binds (ps := ["self", "other"]) fun _ _ _ _ _ _ us hl => match us, hl with | [_, _], _ => rfl
  have FI2 := fun_mk (st := sIn2) lDI2 cDI2 kDI2
  have bI2 := FI2.binds (ps := ["self", "number"]) fun _ _ _ _ _ _ us hl => match us, hl with | [_, _], _ => rfl
  have FE3 := fun_mk (st := sEq3) lDE3 cDE3 kDE3
  have bE3 := FE3.binds (ps := ["self", "other"]) fun _ _ _ _ _ _ us hl => match us, hl with | [_, _], _ => rfl
  have FI3 := fun_mk (st := sIn3) lDI3 cDI3 kDI3
  have bI3 := FI3.binds (ps := ["self", "numbers"]) fun _ _ _ _ _ _ us hl => match us, hl with | [_, _], _ => rfl
  have FNI := fun_mk (st := sNI) lDNI cDNI kDNI
  have FNG := fun_mk (st := sNG) lDNG cDNG kDNG
  have bNG := FNG.binds (ps := ["self", "at"]) fun _ _ _ _ _ _ us hl => match us, hl with | [_, _], _ => rfl
  have FNS := fun_mk (st := sNS) lDNS cDNS kDNS
  have bNS := FNS.binds (ps := ["self", "at", "worth"]) fun _ _ _ _ _ _ us hl => match us, hl with | [_, _, _], _ => rfl
  refine ⟨PySem.W.fnOf "law" "law" (defArgs sLaw) (defBody sLaw) (defScope sLaw) .none kvL dcL pmL anL cdL ctL, fun s v => .of_eq rfl, fun base _ _ => ?_⟩
  let fdE : Nat → FuncData := fun k => match k with
    | 0 => PySem.W.fnOf "__eq__" "Dots.__eq__" (defArgs sEq0) (defBody sEq0) (defScope sEq0) .none kvE0 dcE0 pmE0 anE0 cdE0 ctE0
    | 1 => PySem.W.fnOf "__eq__" "Float.__eq__" (defArgs sEq1) (defBody sEq1) (defScope sEq1) .none kvE1 dcE1 pmE1 anE1 cdE1 ctE1
    | 2 => PySem.W.fnOf "__eq__" "Imaginary.__eq__" (defArgs sEq2) (defBody sEq2) (defScope sEq2) .none kvE2 dcE2 pmE2 anE2 cdE2 ctE2
    | _ => PySem.W.fnOf "__eq__" "Octets.__eq__" (defArgs sEq3) (defBody sEq3) (defScope sEq3) .none kvE3 dcE3 pmE3 anE3 cdE3 ctE3
  let fdI : Nat → FuncData := fun k => match k with
    | 1 => PySem.W.fnOf "__init__" "Float.__init__" (defArgs sIn1) (defBody sIn1) (defScope sIn1) .none kvI1 dcI1 pmI1 anI1 cdI1 ctI1
    | 2 => PySem.W.fnOf "__init__" "Imaginary.__init__" (defArgs sIn2) (defBody sIn2) (defScope sIn2) .none kvI2 dcI2 pmI2 anI2 cdI2 ctI2
    | _ => PySem.W.fnOf "__init__" "Octets.__init__" (defArgs sIn3) (defBody sIn3) (defScope sIn3) .none kvI3 dcI3 pmI3 anI3 cdI3 ctI3
  have g0 := PySem.W.mg_of X G a0
  have g1 := PySem.W.mg_of X G a1
  have g2 := PySem.W.mg_of X G a2
  have g3 := PySem.W.mg_of X G a3
  have mC := PySem.W.mg_of X G aN
  have mM := PySem.W.mg_of X G aaM
  have hM := markIs_at tM
  have bs : ∀ k, k < 4 → Binds K (fdE k) ["self", "other"] [] := fun k hk => match k, hk with
    | 0, _ => bE0
    | 1, _ => bE1
    | 2, _ => bE2
    | 3, _ => bE3
  have es : ∀ k, k < 4 → FnOk P w K mg base CX0 1 (fE k) (fdE k) ["self", "other"] (spEqS (Cs k)) := fun k hk => match k, hk with
    | 0, _ => ok_eq0 FE0 Sk Z g0
    | 1, _ => ok_eq1 FE1 Sk Z g1
    | 2, _ => ok_eq2 FE2 Sk Z g2
    | 3, _ => ok_eq3 FE3 Sk Z g3
  have Mm : Mks P w K mg base Cs fI fdI := {
    g0 := g0, g1 := g1, g2 := g2, g3 := g3, mk0 := mk0, i0 := i0, o0 := mo0, k0 := kC0, mk1 := ⟨mk1, i1, fi1, kC1⟩, mk2 := ⟨mk2, i2, fi2, kC2⟩, mk3 := ⟨mk3, i3, fi3, kC3⟩,
    f1 := ok_in1 FI1 (Sk.cl4 1 (by decide)) n1_0 n1_1, f2 := ok_in2 FI2 (Sk.cl4 2 (by decide)) n2_0, f3 := ok_in3 FI3 (Sk.cl4 3 (by decide)) n3_0, b1 := bI1, b2 := bI2, b3 := bI3 }
  have MkN : Mk K CN fNI := ⟨mkN, iNI, fiNI, kCN⟩
  have GG : FnOk P w K mg base CX0 1 fNG _ ["self", "at"] (spGet CN) := ok_get FNG Nf.cl Nf.n6 Z.isI Z.st
  have GS : FnOk P w K mg base CX0 1 fNS _ ["self", "at", "worth"] (spSet CN) := ok_set FNS Nf.cl Nf.n6 Z.isI Z.st
  have GFo : FnOk P w K mg base CX0 1 gFo _ ["kind"] spFO := ok_fo FFo Tb Z
  have I0 : FnR P w K mg base CX0 2 fNI (spIni 0 CN) := ok_ini FNI Tb Z Nf GFo bFo kDFo (PySem.W.mg_of X G aDFo) bDf kDDf (PySem.W.mg_of X G aDDf) (Nat.le_refl 1) no_def
  have GDf : FnOk P w K mg base CX0 4 gDf _ ["name", "mark"] (spDef 1 CN) := ok_def FDf mM hM MkN mC I0
  have I1 : FnR P w K mg base CX0 5 fNI (spIni 1 CN) := ok_ini FNI Tb Z Nf GFo bFo kDFo (PySem.W.mg_of X G aDFo) bDf kDDf (PySem.W.mg_of X G aDDf) (by decide) GDf
  have N : NDefs P w K mg base CN fNI fNG fNS _ _ 5 := ⟨MkN, I1, mC, Nc, GS, bNS, GG, bNG⟩
  have hI : FnOk P w K mg base CX0 1 gI _ ["thing"] (spK CN Cs cInt) := ok_int FI Z Sk
  have hB : FnOk P w K mg base CX0 2 gB _ ["thing"] (spK CN Cs cBit) := ok_bit FB hI bI kDI (PySem.W.mg_of X G aDI)
  have hC : FnOk P w K mg base CX0 2 gC _ ["thing"] (spK CN Cs cCnt) := ok_cnt FC hI bI kDI (PySem.W.mg_of X G aDI)
  have hV : FnOk P w K mg base CX0 2 gV _ ["thing"] (spK CN Cs cCnv) := ok_cnv FV hI bI kDI (PySem.W.mg_of X G aDI)
  have hN : FnOk P w K mg base CX0 1 gN _ ["thing"] (spK CN Cs cNam) := ok_nam FN Z Sk
  have hD : FnOk P w K mg base CX0 2 gD _ ["thing"] (spK CN Cs cDot) := ok_dot FD Z Sk hN bN kDN (PySem.W.mg_of X G aDN)
  have hS : FnOk P w K mg base CX0 3 gS _ ["thing"] (spK CN Cs cStr) := ok_str FS Z Sk hD bD kDD (PySem.W.mg_of X G aDD)
  have hG : FnOk P w K mg base CX0 1 gG _ ["thing"] (spK CN Cs cSng) := ok_sng FG
  have hA : FnOk P w K mg base CX0 3 gA _ ["thing"] (spK CN Cs cVal) := ok_val FA Z Sk hG bG kDG (PySem.W.mg_of X G aDG) hC bC kDC (PySem.W.mg_of X G aDC) g0 g1 g2 g3
  have Hd : ∀ i, i < 8 → Held P w K mg base 3 (fc i) (spK CN Cs (chkF i)) := fun i hi => match i, hi with
    | 0, _ => ⟨⟨_, _, hB.mono (by decide), kDB, bB⟩⟩
    | 1, _ => ⟨⟨_, _, hC.mono (by decide), kDC, bC⟩⟩
    | 2, _ => ⟨⟨_, _, hV.mono (by decide), kDV, bV⟩⟩
    | 3, _ => ⟨⟨_, _, hN.mono (by decide), kDN, bN⟩⟩
    | 4, _ => ⟨⟨_, _, hD.mono (by decide), kDD, bD⟩⟩
    | 5, _ => ⟨⟨_, _, hS, kDS, bS⟩⟩
    | 6, _ => ⟨⟨_, _, hG.mono (by decide), kDG, bG⟩⟩
    | 7, _ => ⟨⟨_, _, hA, kDA, bA⟩⟩
  have GF1 : FnOk P w K mg base CX0 4 gF1 _ ["value", "rule"] (spF1 CN Cs) := ok_f1 FF1 Tb Z Sk Nf mC Ck Hd
  have GFt : FnOk P w K mg base CX0 5 gFt _ ["value", "rule", "mark"] (spFit CN Cs) := ok_fit FFt mM hM Z Sk GF1 bF1 kDF1 (PySem.W.mg_of X G aDF1)
  have GNo : FnOk P w K mg base CX0 1 gNo _ ["value"] (spNO CN Cs) := ok_no FNo Z Sk mC
  have GIt : FnOk P w K mg base CX0 6 gIt _ ["thing"] (spTree CN Cs) := ok_tree FIt Tb Z Sk Nf mC Nc GG bNG GFt bFt kDFt (PySem.W.mg_of X G aDFt) GNo bNo kDNo (PySem.W.mg_of X G aDNo)
  have GDr : FnOk P w K mg base CX0 1 gDr _ ["_law_stream", "_law_many"] spDraw := ok_draw FDr Z.it
  have GPk : FnOk P w K mg base CX0 2 gPk _ ["_law_stream", "_law_some"] (spPick K) := ok_pick FPk GDr bDr kDDr (PySem.W.mg_of X G aDDr) Z.ln
  have GTs : FnOk P w K mg base CX0 1 gTs _ [] (spTab StmRows) := ok_Stm FTs
  have GTe : FnOk P w K mg base CX0 1 gTe _ [] (spTab ExpRows) := ok_Exp FTe
  have GTp : FnOk P w K mg base CX0 1 gTp _ [] (spTab PatRows) := ok_Pat FTp
  have GTr : FnOk P w K mg base CX0 1 gTr _ [] (spTab PrtRows) := ok_Prt FTr
  have GSg : FnOk P w K mg base CX0 1 gSg _ ["_law_word_here"] spSg := ok_signs FSg
  have GTb : FnOk P w K mg base CX0 2 gTb _ [] spTbl := ok_tbl FTb ⟨GTs, bTs, kDTs, PySem.W.mg_of X G aDTs, GTe, bTe, kDTe, PySem.W.mg_of X G aDTe, GTp, bTp, kDTp, PySem.W.mg_of X G aDTp, GTr, bTr, kDTr, PySem.W.mg_of X G aDTr, GSg, bSg, kDSg, PySem.W.mg_of X G aDSg⟩
  have GWd : FnOk P w K mg base CX0 3 gWd _ ["_law_stream"] spWord := ok_word FWd GPk bPk kDPk (PySem.W.mg_of X G aDPk)
  have GCn : FnOk P w K mg base CX0 3 gCn _ ["_law_stream"] (spCon CN Cs) := ok_con FCn Mm GDr bDr kDDr (PySem.W.mg_of X G aDDr)
  have KD : KDefs P w K mg base gDr gPk gSg gTs gTe gTp _ _ _ _ _ _ := ⟨GDr, bDr, kDDr, PySem.W.mg_of X G aDDr, GPk, bPk, kDPk, PySem.W.mg_of X G aDPk, GSg, bSg, kDSg, PySem.W.mg_of X G aDSg, GTs, bTs, kDTs, PySem.W.mg_of X G aDTs, GTe, bTe, kDTe, PySem.W.mg_of X G aDTe, GTp, bTp, kDTp, PySem.W.mg_of X G aDTp⟩
  have GKf : FnOk P w K mg base CX0 3 gKf _ ["_law_stream", "_law_held_here", "_law_deep"] spKF := ok_kf FKf KD Z
  have HD : HDefs P w K mg base CN Cs gWd gKf gCn _ _ _ := ⟨GWd, bWd, kDWd, PySem.W.mg_of X G aDWd, GKf, bKf, kDKf, PySem.W.mg_of X G aDKf, GCn, bCn, kDCn, PySem.W.mg_of X G aDCn⟩
  have TT := trees FRe bRe (PySem.W.mg_of X G aDRe) FHe bHe (PySem.W.mg_of X G aDHe) Z Sk N KD HD (by decide)
  have GIw : FnOk P w K mg base CX0 1 gIw _ ["_law_thing"] (spK CN Cs cNam) := ok_iw FIw Z Sk
  have GIn : FnOk P w K mg base CX0 1 gIn _ ["_law_thing", "_law_some"] (spNum CN Cs) := ok_in FIn Z Sk
  have LD : LDefs P w K mg base CN Cs fE gIn gIw gSg _ _ _ fdE := ⟨GIn, bIn, kDIn, PySem.W.mg_of X G aDIn, GIw, bIw, kDIw, PySem.W.mg_of X G aDIw, GSg, bSg, kDSg, PySem.W.mg_of X G aDSg, es, bs, Ef, mC, g0, g1, g2, g3⟩
  have DU := looks FDu bDu (PySem.W.mg_of X G aDDu) FLf bLf (PySem.W.mg_of X G aDLf) Z Sk Nf mC Nc GG bNG LD
  have ND := nodes FNd bNd (PySem.W.mg_of X G aDNd) Z Sk Nf mC Nc GG bNG 30
  have GOt := ok_ot FOt Z Sk N Mm GPk bPk kDPk (PySem.W.mg_of X G aDPk) (k := 39) (by decide) (by decide)
  have WD : WDefs P w K mg base CN Cs gRe gIt gDu _ _ _ 40 40 129 := ⟨fun j hj => (TT j hj).mono (by omega), bRe, kDRe, PySem.W.mg_of X G aDRe, GIt.mono (by decide), bIt, kDIt, PySem.W.mg_of X G aDIt, fun n hn => (DU n).mono (by omega), bDu, kDDu, PySem.W.mg_of X G aDDu⟩
  have GEr := ok_er FEr Z Sk N WD (k := 129) (by decide) (by decide) (by decide) (by decide)
  exact law_top FL Z Sk Nf N Mm WD ⟨GTb, bTb, kDTb, PySem.W.mg_of X G aDTb, ND.mono (by decide), bNd, kDNd, PySem.W.mg_of X G aDNd, GOt, bOt, kDOt, PySem.W.mg_of X G aDOt, GEr, bEr, kDEr, PySem.W.mg_of X G aDEr, GDr, bDr, kDDr, PySem.W.mg_of X G aDDr, GPk, bPk, kDPk, PySem.W.mg_of X G aDPk⟩
end K5

namespace K5
open PySem PySem.Spec PyProof.Rows L2
/-- the goal that a head by facts leaves -/
theorem walk_topE {l : PySem.W.OpenLaw} {n : Nat} {q : Program} {loose : List Str} {XP : (Str → Option Value) → Heap → Prop} {YP : World → Heap → Prop} {d : DefRec} {x : Str}
    (hn : l.most = some n) (hn2 : n ≤ sizeLine) (hdf : d.params.defaults = [])
    (F : ∀ (w : World) (mg : Str → Option Value) (fa : Addr) (h : Heap), YP w h → h.Ns mainGlobals mg → mg d.name = some (.ref fa) →
      ∃ (K : PySem.W.Frag) (fd : FuncData) (sp : Sp), K.In h ∧ (∀ (s : Shared) (u : Value), BindsTo s fd ⟨[u], []⟩ [(x, u)]) ∧
        (∀ (H : Hp) (a : Addr) (ns : List Int), ns.length ≤ n → Only H → SqL K H a (ns.map V.int) → sp [.ref a] H (fun v _ => v = .bl true) fun _ _ _ => False) ∧
        ∀ base : Heap, K.In base → base.Ns mainGlobals mg → TopOk l.prog w K mg base fa fd [x] sp) :
    PySem.W.WalkO q loose XP YP l.row.toRowW d [] (fun f vs => PySem.call f vs) := by
  refine Att.attach_call hn hdf fun w s₀ s₁ mg mb fa o pm cd doc a vs ns G Y ho hd hcd hmg hobj hints hlen hg => ?_
  obtain ⟨K, fd, sp, KX, hb, hsp, hF⟩ := F w mg fa _ Y G.T.g hmg
  exact top_call KX G.T.g G.T.b G.T.builtins G.T.nolimit hg hobj hints (Nat.le_trans hlen hn2) hF hb fun H hO hS => hsp H a ns hlen hO hS
/-! ### what the head tells -/
def lv (g : Addr → Option Obj) (as : List Addr) : List Addr := as.flatMap fun a => match g a with
  | some o => He.refsD o
  | none => []
def lvs (g : Addr → Option Obj) : Nat → List Addr → List Addr
  | 0, as => as
  | n + 1, as => as ++ lvs g n (lv g as)
def hookX (n : Nat) (fa : List He.Fa) (fn : List He.DefD) (ts : List He.Tab) (ex : PySem.W.Frag → Bool) : PySem.W.Hook where
  α := He.AlT × Bool
  obs := fun s => (He.obsT fa fn ts (He.frG s.heap.get? (lvs s.heap.get? n [mainGlobals])), ex (He.frG s.heap.get? (lvs s.heap.get? n [mainGlobals])))
  val := fun w => (He.valT fn ts w, true)
  says := fun w h => ∃ K : PySem.W.Frag, K.In h ∧ He.SaysT fa fn ts w K ∧ ex K = true
  of := fun _ _ e => ⟨_, He.frG_in, congrArg (fun z : He.AlT × Bool => z.1) e, congrArg (fun z : He.AlT × Bool => z.2) e⟩
  keeps := fun _ _ _ ⟨K, hK, c⟩ k => ⟨K, PySem.W.Frag.In.keeps hK k, c⟩
def obX (n : Nat) (fa : List He.Fa) (fn : List He.DefD) (ts : List He.Tab) (ex : PySem.W.Frag → Bool) (g : Addr → Option Obj) : He.AlT × Bool := (He.obsT fa fn ts (He.frG g (lvs g n [mainGlobals])), ex (He.frG g (lvs g n [mainGlobals])))
theorem obX_eq {n : Nat} {fa : List He.Fa} {fn : List He.DefD} {ts : List He.Tab} {ex : PySem.W.Frag → Bool} {g : Addr → Option Obj} {s : Shared} (h : ∀ a, g a = s.heap.get? a) : obX n fa fn ts ex g = (hookX n fa fn ts ex).obs s := by
  have e : g = s.heap.get? := funext h
  rw [e] <;> rfl
theorem fun_of {K : PySem.W.Frag} {x qual : Str} {st : Stmt} {f : Addr} {fd : FuncData} (F : FunD K x qual (defArgs st) (defBody st) (defScope st) [] [] f fd) : Fun K x qual st f fd := by
  obtain ⟨oc, od, dV, kV, doc, pm, an, cdv, ct, osl, rfl, lk, hcd, hd, _⟩ := F.ex
  rcases hd with ⟨_, rfl⟩ | ⟨e, _⟩
  · exact ⟨⟨oc, od, kV, doc, pm, an, cdv, ct, osl, rfl, lk, hcd⟩, F.kp⟩
  · exact absurd rfl e
def fn0_0 : He.DefD := ⟨("Dots", some "__eq__"), "__eq__", "Dots.__eq__", defArgs sEq0, defBody sEq0, defScope sEq0, [], []⟩
def fn0_1 : He.DefD := ⟨("Float", some "__eq__"), "__eq__", "Float.__eq__", defArgs sEq1, defBody sEq1, defScope sEq1, [], []⟩
def fn0_2 : He.DefD := ⟨("Float", some "__init__"), "__init__", "Float.__init__", defArgs sIn1, defBody sIn1, defScope sIn1, [], []⟩
def fn0_3 : He.DefD := ⟨("Imaginary", some "__eq__"), "__eq__", "Imaginary.__eq__", defArgs sEq2, defBody sEq2, defScope sEq2, [], []⟩
def fn0_4 : He.DefD := ⟨("Imaginary", some "__init__"), "__init__", "Imaginary.__init__", defArgs sIn2, defBody sIn2, defScope sIn2, [], []⟩
def fn0_5 : He.DefD := ⟨("Octets", some "__eq__"), "__eq__", "Octets.__eq__", defArgs sEq3, defBody sEq3, defScope sEq3, [], []⟩
def fn0_6 : He.DefD := ⟨("Octets", some "__init__"), "__init__", "Octets.__init__", defArgs sIn3, defBody sIn3, defScope sIn3, [], []⟩
def fn0_7 : He.DefD := ⟨("Node", some "__init__"), "__init__", "Node.__init__", defArgs sNI, defBody sNI, defScope sNI, [], []⟩
def fn0_8 : He.DefD := ⟨("Node", some "__getitem__"), "__getitem__", "Node.__getitem__", defArgs sNG, defBody sNG, defScope sNG, [], []⟩
def fn0_9 : He.DefD := ⟨("Node", some "__setitem__"), "__setitem__", "Node.__setitem__", defArgs sNS, defBody sNS, defScope sNS, [], []⟩
def fn0_10 : He.DefD := ⟨("is_int", none), "is_int", "is_int", defArgs (sC 0), defBody (sC 0), defScope (sC 0), [], []⟩
def fn0_11 : He.DefD := ⟨("is_bit", none), "is_bit", "is_bit", defArgs (sC 1), defBody (sC 1), defScope (sC 1), [], []⟩
def fn0_12 : He.DefD := ⟨("is_count", none), "is_count", "is_count", defArgs (sC 2), defBody (sC 2), defScope (sC 2), [], []⟩
def fn0_13 : He.DefD := ⟨("is_conversion", none), "is_conversion", "is_conversion", defArgs (sC 3), defBody (sC 3), defScope (sC 3), [], []⟩
def fn0_14 : He.DefD := ⟨("is_name", none), "is_name", "is_name", defArgs (sC 4), defBody (sC 4), defScope (sC 4), [], []⟩
def fn0_15 : He.DefD := ⟨("is_dotted", none), "is_dotted", "is_dotted", defArgs (sC 5), defBody (sC 5), defScope (sC 5), [], []⟩
def fn0_16 : He.DefD := ⟨("is_dotted_or_star", none), "is_dotted_or_star", "is_dotted_or_star", defArgs (sC 6), defBody (sC 6), defScope (sC 6), [], []⟩
def fn0_17 : He.DefD := ⟨("is_singleton", none), "is_singleton", "is_singleton", defArgs (sC 7), defBody (sC 7), defScope (sC 7), [], []⟩
def fn0_18 : He.DefD := ⟨("is_value", none), "is_value", "is_value", defArgs (sC 8), defBody (sC 8), defScope (sC 8), [], []⟩
def fn0_19 : He.DefD := ⟨("_default", none), "_default", "_default", defArgs sDef, defBody sDef, defScope sDef, [], []⟩
def fnL0 : List He.DefD := [fn0_0, fn0_1, fn0_2, fn0_3, fn0_4, fn0_5, fn0_6, fn0_7, fn0_8, fn0_9, fn0_10, fn0_11, fn0_12, fn0_13, fn0_14, fn0_15, fn0_16, fn0_17, fn0_18, fn0_19]
def fn1_0 : He.DefD := ⟨("fields_of", none), "fields_of", "fields_of", defArgs sFO, defBody sFO, defScope sFO, [], []⟩
def fn1_1 : He.DefD := ⟨("is_tree", none), "is_tree", "is_tree", defArgs sTree, defBody sTree, defScope sTree, [], []⟩
def fn1_2 : He.DefD := ⟨("_fits", none), "_fits", "_fits", defArgs sFit, defBody sFit, defScope sFit, [], []⟩
def fn1_3 : He.DefD := ⟨("_fits_one", none), "_fits_one", "_fits_one", defArgs sF1, defBody sF1, defScope sF1, [], []⟩
def fn1_4 : He.DefD := ⟨("nodes_of", none), "nodes_of", "nodes_of", defArgs sNO, defBody sNO, defScope sNO, [], []⟩
def fn1_5 : He.DefD := ⟨("_law_draw", none), "_law_draw", "_law_draw", defArgs sDraw, defBody sDraw, defScope sDraw, [], []⟩
def fn1_6 : He.DefD := ⟨("_law_pick", none), "_law_pick", "_law_pick", defArgs sPick, defBody sPick, defScope sPick, [], []⟩
def fn1_7 : He.DefD := ⟨("_law_statements", none), "_law_statements", "_law_statements", defArgs sStm, defBody sStm, defScope sStm, [], []⟩
def fn1_8 : He.DefD := ⟨("_law_expressions", none), "_law_expressions", "_law_expressions", defArgs sExp, defBody sExp, defScope sExp, [], []⟩
def fn1_9 : He.DefD := ⟨("_law_patterns", none), "_law_patterns", "_law_patterns", defArgs sPat, defBody sPat, defScope sPat, [], []⟩
def fn1_10 : He.DefD := ⟨("_law_parts", none), "_law_parts", "_law_parts", defArgs sPrt, defBody sPrt, defScope sPrt, [], []⟩
def fn1_11 : He.DefD := ⟨("_law_signs_of", none), "_law_signs_of", "_law_signs_of", defArgs sSg, defBody sSg, defScope sSg, [], []⟩
def fn1_12 : He.DefD := ⟨("_law_table", none), "_law_table", "_law_table", defArgs sTbl, defBody sTbl, defScope sTbl, [], []⟩
def fn1_13 : He.DefD := ⟨("_law_word", none), "_law_word", "_law_word", defArgs sWord, defBody sWord, defScope sWord, [], []⟩
def fn1_14 : He.DefD := ⟨("_law_constant", none), "_law_constant", "_law_constant", defArgs sCon, defBody sCon, defScope sCon, [], []⟩
def fn1_15 : He.DefD := ⟨("_law_kind_for", none), "_law_kind_for", "_law_kind_for", defArgs sKF, defBody sKF, defScope sKF, [], []⟩
def fn1_16 : He.DefD := ⟨("_law_held", none), "_law_held", "_law_held", defArgs sHe, defBody sHe, defScope sHe, [], []⟩
def fn1_17 : He.DefD := ⟨("_law_tree", none), "_law_tree", "_law_tree", defArgs sTr, defBody sTr, defScope sTr, [], []⟩
def fn1_18 : He.DefD := ⟨("_law_is_word", none), "_law_is_word", "_law_is_word", defArgs sIW, defBody sIW, defScope sIW, [], []⟩
def fn1_19 : He.DefD := ⟨("_law_is_number", none), "_law_is_number", "_law_is_number", defArgs sIN, defBody sIN, defScope sIN, [], []⟩
def fnL1 : List He.DefD := [fn1_0, fn1_1, fn1_2, fn1_3, fn1_4, fn1_5, fn1_6, fn1_7, fn1_8, fn1_9, fn1_10, fn1_11, fn1_12, fn1_13, fn1_14, fn1_15, fn1_16, fn1_17, fn1_18, fn1_19]
def fn2_0 : He.DefD := ⟨("_law_fits", none), "_law_fits", "_law_fits", defArgs sLF, defBody sLF, defScope sLF, [], []⟩
def fn2_1 : He.DefD := ⟨("_law_is_due", none), "_law_is_due", "_law_is_due", defArgs sDue, defBody sDue, defScope sDue, [], []⟩
def fn2_2 : He.DefD := ⟨("_law_nodes", none), "_law_nodes", "_law_nodes", defArgs sNds, defBody sNds, defScope sNds, [], []⟩
def fn2_3 : He.DefD := ⟨("_law_other", none), "_law_other", "_law_other", defArgs sOt, defBody sOt, defScope sOt, [], []⟩
def fn2_4 : He.DefD := ⟨("_law_each_right", none), "_law_each_right", "_law_each_right", defArgs sEr, defBody sEr, defScope sEr, [], []⟩
def fn2_5 : He.DefD := ⟨("law", none), "law", "law", defArgs sLaw, defBody sLaw, defScope sLaw, [], []⟩
def fnL2 : List He.DefD := [fn2_0, fn2_1, fn2_2, fn2_3, fn2_4, fn2_5]
def fnL : List He.DefD := fnL0 ++ fnL1 ++ fnL2
def keysF0 : List Str := ["Module",
  "Expression",
  "FunctionDef",
  "AsyncFunctionDef",
  "ClassDef",
  "Return",
  "Delete",
  "Assign",
  "AugAssign",
  "AnnAssign",
  "For",
  "AsyncFor",
  "While",
  "If",
  "With",
  "AsyncWith",
  "Match",
  "Raise",
  "Assert",
  "Try"]
def keysF1 : List Str := ["Import",
  "ImportFrom",
  "Global",
  "Nonlocal",
  "Expr",
  "Pass",
  "Break",
  "Continue",
  "BoolOp",
  "NamedExpr",
  "BinOp",
  "UnaryOp",
  "Lambda",
  "IfExp",
  "Dict",
  "Set",
  "ListComp",
  "SetComp",
  "GeneratorExp",
  "DictComp"]
def keysF2 : List Str := ["Await",
  "Yield",
  "YieldFrom",
  "Compare",
  "Call",
  "FormattedValue",
  "JoinedStr",
  "Constant",
  "Attribute",
  "Subscript",
  "Starred",
  "Name",
  "List",
  "Tuple",
  "Slice",
  "comprehension",
  "ExceptHandler",
  "arguments",
  "arg",
  "keyword"]
def keysF3 : List Str := ["alias",
  "withitem",
  "match_case",
  "MatchValue",
  "MatchSingleton",
  "MatchSequence",
  "MatchOr",
  "MatchMapping",
  "MatchClass",
  "MatchStar",
  "MatchAs",
  "And",
  "Or",
  "Invert",
  "Not",
  "UAdd",
  "USub",
  "Load",
  "Store",
  "Del"]
def keysF4 : List Str := ["Add",
  "Sub",
  "Mult",
  "MatMult",
  "Div",
  "FloorDiv",
  "Pow",
  "LShift",
  "RShift",
  "BitOr",
  "BitXor",
  "BitAnd",
  "Eq",
  "NotEq",
  "Lt",
  "LtE",
  "Gt",
  "GtE",
  "Is",
  "IsNot"]
def keysF5 : List Str := ["In",
  "NotIn"]
def keysF : List Str := keysF0 ++ keysF1 ++ keysF2 ++ keysF3 ++ keysF4 ++ keysF5
def keysG0 : List Str := ["STMT",
  "EXPR",
  "PATTERN",
  "BOOLEAN",
  "UNARY",
  "CONTEXT",
  "OPERATOR",
  "COMPARISON"]
def keysG : List Str := keysG0
def keysC0 : List Str := ["BIT",
  "COUNT",
  "CONVERSION",
  "NAME",
  "DOTTED",
  "DOTTED_OR_STAR",
  "SINGLETON",
  "VALUE"]
def keysC : List Str := keysC0
def tsL : List He.Tab := [((fun K => He.ga K "FIELDS"), keysF), ((fun K => He.ga K "GROUPS"), keysG), ((fun K => He.ga K "CHECKS"), keysC)]
def x0 (K : PySem.W.Frag) : Bool := He.eqO (PySem.W.nsIn K mainGlobals "Dots") (some (some (.ref (He.ga K "Dots"))))
def x1 (K : PySem.W.Frag) : Bool := PySem.W.plainGet K (He.ga K "Dots") Str.empty
def x2 (K : PySem.W.Frag) : Bool := PySem.W.hasDictIn K (He.ga K "Dots")
def x3 (K : PySem.W.Frag) : Bool := PySem.W.plainOver K (He.ga K "Dots")
def x4 (K : PySem.W.Frag) : Bool := He.eqO (PySem.W.findIn K (.ref (He.ga K "Dots")) "__setattr__") (some (some (.builtin "object.__setattr__")))
def x5 (K : PySem.W.Frag) : Bool := He.eqO (PySem.W.findIn K (.ref (He.ga K "Dots")) "__class__") (some (some (.builtin "object.__class__")))
def x6 (K : PySem.W.Frag) : Bool := decide (PySem.W.mroIn K (He.ga K "Dots") (.type "object") = some true)
def x7 (K : PySem.W.Frag) : Bool := PySem.W.makesIn K (He.ga K "Dots")
def x8 (K : PySem.W.Frag) : Bool := PySem.W.keepIn K (.ref (He.ga K "Dots"))
def x9 (K : PySem.W.Frag) : Bool := He.eqO (PySem.W.findIn K (.ref (He.ga K "Dots")) "__eq__") (some (some (.ref (He.ma K (He.ga K "Dots") "__eq__"))))
def x10 (K : PySem.W.Frag) : Bool := PySem.W.isFn K (.ref (He.ma K (He.ga K "Dots") "__eq__"))
def x11 (K : PySem.W.Frag) : Bool := PySem.W.notFirst K (He.ga K "Dots") (.type "str")
def x12 (K : PySem.W.Frag) : Bool := He.eqO (PySem.W.findIn K (.ref (He.ga K "Dots")) "__init__") (some (some (.builtin "object.__init__")))
def x13 (K : PySem.W.Frag) : Bool := He.eqO (PySem.W.nsIn K mainGlobals "Float") (some (some (.ref (He.ga K "Float"))))
def x14 (K : PySem.W.Frag) : Bool := PySem.W.plainGet K (He.ga K "Float") Str.empty
def x15 (K : PySem.W.Frag) : Bool := PySem.W.hasDictIn K (He.ga K "Float")
def x16 (K : PySem.W.Frag) : Bool := PySem.W.plainOver K (He.ga K "Float")
def x17 (K : PySem.W.Frag) : Bool := He.eqO (PySem.W.findIn K (.ref (He.ga K "Float")) "__setattr__") (some (some (.builtin "object.__setattr__")))
def x18 (K : PySem.W.Frag) : Bool := He.eqO (PySem.W.findIn K (.ref (He.ga K "Float")) "__class__") (some (some (.builtin "object.__class__")))
def x19 (K : PySem.W.Frag) : Bool := decide (PySem.W.mroIn K (He.ga K "Float") (.type "object") = some true)
def x20 (K : PySem.W.Frag) : Bool := PySem.W.makesIn K (He.ga K "Float")
def x21 (K : PySem.W.Frag) : Bool := PySem.W.keepIn K (.ref (He.ga K "Float"))
def x22 (K : PySem.W.Frag) : Bool := He.eqO (PySem.W.findIn K (.ref (He.ga K "Float")) "__eq__") (some (some (.ref (He.ma K (He.ga K "Float") "__eq__"))))
def x23 (K : PySem.W.Frag) : Bool := PySem.W.isFn K (.ref (He.ma K (He.ga K "Float") "__eq__"))
def x24 (K : PySem.W.Frag) : Bool := PySem.W.notFirst K (He.ga K "Float") (.type "str")
def x25 (K : PySem.W.Frag) : Bool := He.eqO (PySem.W.findIn K (.ref (He.ga K "Float")) "__init__") (some (some (.ref (He.ma K (He.ga K "Float") "__init__"))))
def x26 (K : PySem.W.Frag) : Bool := PySem.W.isFn K (.ref (He.ma K (He.ga K "Float") "__init__"))
def x27 (K : PySem.W.Frag) : Bool := He.eqO (PySem.W.findIn K (.ref (He.ga K "Float")) "mantissa") (some none)
def x28 (K : PySem.W.Frag) : Bool := He.eqO (PySem.W.findIn K (.ref (He.ga K "Float")) "exponent") (some none)
def x29 (K : PySem.W.Frag) : Bool := He.eqO (PySem.W.nsIn K mainGlobals "Imaginary") (some (some (.ref (He.ga K "Imaginary"))))
def x30 (K : PySem.W.Frag) : Bool := PySem.W.plainGet K (He.ga K "Imaginary") Str.empty
def x31 (K : PySem.W.Frag) : Bool := PySem.W.hasDictIn K (He.ga K "Imaginary")
def x32 (K : PySem.W.Frag) : Bool := PySem.W.plainOver K (He.ga K "Imaginary")
def x33 (K : PySem.W.Frag) : Bool := He.eqO (PySem.W.findIn K (.ref (He.ga K "Imaginary")) "__setattr__") (some (some (.builtin "object.__setattr__")))
def x34 (K : PySem.W.Frag) : Bool := He.eqO (PySem.W.findIn K (.ref (He.ga K "Imaginary")) "__class__") (some (some (.builtin "object.__class__")))
def x35 (K : PySem.W.Frag) : Bool := decide (PySem.W.mroIn K (He.ga K "Imaginary") (.type "object") = some true)
def x36 (K : PySem.W.Frag) : Bool := PySem.W.makesIn K (He.ga K "Imaginary")
def x37 (K : PySem.W.Frag) : Bool := PySem.W.keepIn K (.ref (He.ga K "Imaginary"))
def x38 (K : PySem.W.Frag) : Bool := He.eqO (PySem.W.findIn K (.ref (He.ga K "Imaginary")) "__eq__") (some (some (.ref (He.ma K (He.ga K "Imaginary") "__eq__"))))
def x39 (K : PySem.W.Frag) : Bool := PySem.W.isFn K (.ref (He.ma K (He.ga K "Imaginary") "__eq__"))
def x40 (K : PySem.W.Frag) : Bool := PySem.W.notFirst K (He.ga K "Imaginary") (.type "str")
def x41 (K : PySem.W.Frag) : Bool := He.eqO (PySem.W.findIn K (.ref (He.ga K "Imaginary")) "__init__") (some (some (.ref (He.ma K (He.ga K "Imaginary") "__init__"))))
def x42 (K : PySem.W.Frag) : Bool := PySem.W.isFn K (.ref (He.ma K (He.ga K "Imaginary") "__init__"))
def x43 (K : PySem.W.Frag) : Bool := He.eqO (PySem.W.findIn K (.ref (He.ga K "Imaginary")) "number") (some none)
def x44 (K : PySem.W.Frag) : Bool := He.eqO (PySem.W.nsIn K mainGlobals "Octets") (some (some (.ref (He.ga K "Octets"))))
def x45 (K : PySem.W.Frag) : Bool := PySem.W.plainGet K (He.ga K "Octets") Str.empty
def x46 (K : PySem.W.Frag) : Bool := PySem.W.hasDictIn K (He.ga K "Octets")
def x47 (K : PySem.W.Frag) : Bool := PySem.W.plainOver K (He.ga K "Octets")
def x48 (K : PySem.W.Frag) : Bool := He.eqO (PySem.W.findIn K (.ref (He.ga K "Octets")) "__setattr__") (some (some (.builtin "object.__setattr__")))
def x49 (K : PySem.W.Frag) : Bool := He.eqO (PySem.W.findIn K (.ref (He.ga K "Octets")) "__class__") (some (some (.builtin "object.__class__")))
def x50 (K : PySem.W.Frag) : Bool := decide (PySem.W.mroIn K (He.ga K "Octets") (.type "object") = some true)
def x51 (K : PySem.W.Frag) : Bool := PySem.W.makesIn K (He.ga K "Octets")
def x52 (K : PySem.W.Frag) : Bool := PySem.W.keepIn K (.ref (He.ga K "Octets"))
def x53 (K : PySem.W.Frag) : Bool := He.eqO (PySem.W.findIn K (.ref (He.ga K "Octets")) "__eq__") (some (some (.ref (He.ma K (He.ga K "Octets") "__eq__"))))
def x54 (K : PySem.W.Frag) : Bool := PySem.W.isFn K (.ref (He.ma K (He.ga K "Octets") "__eq__"))
def x55 (K : PySem.W.Frag) : Bool := PySem.W.notFirst K (He.ga K "Octets") (.type "str")
def x56 (K : PySem.W.Frag) : Bool := He.eqO (PySem.W.findIn K (.ref (He.ga K "Octets")) "__init__") (some (some (.ref (He.ma K (He.ga K "Octets") "__init__"))))
def x57 (K : PySem.W.Frag) : Bool := PySem.W.isFn K (.ref (He.ma K (He.ga K "Octets") "__init__"))
def x58 (K : PySem.W.Frag) : Bool := He.eqO (PySem.W.findIn K (.ref (He.ga K "Octets")) "numbers") (some none)
def x59 (K : PySem.W.Frag) : Bool := He.eqO (PySem.W.nsIn K mainGlobals "Node") (some (some (.ref (He.ga K "Node"))))
def x60 (K : PySem.W.Frag) : Bool := PySem.W.plainGet K (He.ga K "Node") Str.empty
def x61 (K : PySem.W.Frag) : Bool := PySem.W.hasDictIn K (He.ga K "Node")
def x62 (K : PySem.W.Frag) : Bool := PySem.W.plainOver K (He.ga K "Node")
def x63 (K : PySem.W.Frag) : Bool := He.eqO (PySem.W.findIn K (.ref (He.ga K "Node")) "__setattr__") (some (some (.builtin "object.__setattr__")))
def x64 (K : PySem.W.Frag) : Bool := He.eqO (PySem.W.findIn K (.ref (He.ga K "Node")) "__class__") (some (some (.builtin "object.__class__")))
def x65 (K : PySem.W.Frag) : Bool := decide (PySem.W.mroIn K (He.ga K "Node") (.type "object") = some true)
def x66 (K : PySem.W.Frag) : Bool := PySem.W.makesIn K (He.ga K "Node")
def x67 (K : PySem.W.Frag) : Bool := PySem.W.keepIn K (.ref (He.ga K "Node"))
def x68 (K : PySem.W.Frag) : Bool := He.eqO (PySem.W.findIn K (.ref (He.ga K "Node")) "kind") (some none)
def x69 (K : PySem.W.Frag) : Bool := He.eqO (PySem.W.findIn K (.ref (He.ga K "Node")) "lineno") (some none)
def x70 (K : PySem.W.Frag) : Bool := He.eqO (PySem.W.findIn K (.ref (He.ga K "Node")) "col_offset") (some none)
def x71 (K : PySem.W.Frag) : Bool := He.eqO (PySem.W.findIn K (.ref (He.ga K "Node")) "end_lineno") (some none)
def x72 (K : PySem.W.Frag) : Bool := He.eqO (PySem.W.findIn K (.ref (He.ga K "Node")) "end_col_offset") (some none)
def x73 (K : PySem.W.Frag) : Bool := He.eqO (PySem.W.findIn K (.ref (He.ga K "Node")) "_fields") (some none)
def x74 (K : PySem.W.Frag) : Bool := He.eqO (PySem.W.findIn K (.ref (He.ga K "Node")) "__init__") (some (some (.ref (He.ma K (He.ga K "Node") "__init__"))))
def x75 (K : PySem.W.Frag) : Bool := PySem.W.isFn K (.ref (He.ma K (He.ga K "Node") "__init__"))
def x76 (K : PySem.W.Frag) : Bool := He.eqO (PySem.W.findIn K (.ref (He.ga K "Node")) "__getitem__") (some (some (.ref (He.ma K (He.ga K "Node") "__getitem__"))))
def x77 (K : PySem.W.Frag) : Bool := PySem.W.isFn K (.ref (He.ma K (He.ga K "Node") "__getitem__"))
def x78 (K : PySem.W.Frag) : Bool := He.eqO (PySem.W.findIn K (.ref (He.ga K "Node")) "__setitem__") (some (some (.ref (He.ma K (He.ga K "Node") "__setitem__"))))
def x79 (K : PySem.W.Frag) : Bool := PySem.W.isFn K (.ref (He.ma K (He.ga K "Node") "__setitem__"))
def x80 (K : PySem.W.Frag) : Bool := PySem.W.fnIn K (He.ma K (He.ga K "Node") "__getitem__")
def x81 (K : PySem.W.Frag) : Bool := PySem.W.noSeq K (He.ga K "Node")
def x82 (K : PySem.W.Frag) : Bool := He.eqO (PySem.W.findIn K (.ref (He.ga K "Node")) "__eq__") (some (some (.builtin "object.__eq__")))
def x83 (K : PySem.W.Frag) : Bool := decide (PySem.W.mroIn K (He.ga K "Node") (.type "str") = some false)
def x84 (K : PySem.W.Frag) : Bool := decide (PySem.W.subIn K (.type "str") (.ref (He.ga K "Node")) = some false)
def x85 (K : PySem.W.Frag) : Bool := He.eqO (PySem.W.nsIn K mainGlobals "is_int") (some (some (.ref (He.ga K "is_int"))))
def x86 (K : PySem.W.Frag) : Bool := He.eqO (PySem.W.nsIn K mainGlobals "is_bit") (some (some (.ref (He.ga K "is_bit"))))
def x87 (K : PySem.W.Frag) : Bool := He.eqO (PySem.W.nsIn K mainGlobals "is_count") (some (some (.ref (He.ga K "is_count"))))
def x88 (K : PySem.W.Frag) : Bool := He.eqO (PySem.W.nsIn K mainGlobals "is_conversion") (some (some (.ref (He.ga K "is_conversion"))))
def x89 (K : PySem.W.Frag) : Bool := He.eqO (PySem.W.nsIn K mainGlobals "is_name") (some (some (.ref (He.ga K "is_name"))))
def x90 (K : PySem.W.Frag) : Bool := He.eqO (PySem.W.nsIn K mainGlobals "is_dotted") (some (some (.ref (He.ga K "is_dotted"))))
def x91 (K : PySem.W.Frag) : Bool := He.eqO (PySem.W.nsIn K mainGlobals "is_dotted_or_star") (some (some (.ref (He.ga K "is_dotted_or_star"))))
def x92 (K : PySem.W.Frag) : Bool := He.eqO (PySem.W.nsIn K mainGlobals "is_singleton") (some (some (.ref (He.ga K "is_singleton"))))
def x93 (K : PySem.W.Frag) : Bool := He.eqO (PySem.W.nsIn K mainGlobals "is_value") (some (some (.ref (He.ga K "is_value"))))
def x94 (K : PySem.W.Frag) : Bool := He.eqO (PySem.W.nsIn K mainGlobals "_default") (some (some (.ref (He.ga K "_default"))))
def x95 (K : PySem.W.Frag) : Bool := He.eqO (PySem.W.nsIn K mainGlobals "fields_of") (some (some (.ref (He.ga K "fields_of"))))
def x96 (K : PySem.W.Frag) : Bool := He.eqO (PySem.W.nsIn K mainGlobals "is_tree") (some (some (.ref (He.ga K "is_tree"))))
def x97 (K : PySem.W.Frag) : Bool := He.eqO (PySem.W.nsIn K mainGlobals "_fits") (some (some (.ref (He.ga K "_fits"))))
def x98 (K : PySem.W.Frag) : Bool := He.eqO (PySem.W.nsIn K mainGlobals "_fits_one") (some (some (.ref (He.ga K "_fits_one"))))
def x99 (K : PySem.W.Frag) : Bool := He.eqO (PySem.W.nsIn K mainGlobals "nodes_of") (some (some (.ref (He.ga K "nodes_of"))))
def x100 (K : PySem.W.Frag) : Bool := He.eqO (PySem.W.nsIn K mainGlobals "_law_draw") (some (some (.ref (He.ga K "_law_draw"))))
def x101 (K : PySem.W.Frag) : Bool := He.eqO (PySem.W.nsIn K mainGlobals "_law_pick") (some (some (.ref (He.ga K "_law_pick"))))
def x102 (K : PySem.W.Frag) : Bool := He.eqO (PySem.W.nsIn K mainGlobals "_law_statements") (some (some (.ref (He.ga K "_law_statements"))))
def x103 (K : PySem.W.Frag) : Bool := He.eqO (PySem.W.nsIn K mainGlobals "_law_expressions") (some (some (.ref (He.ga K "_law_expressions"))))
def x104 (K : PySem.W.Frag) : Bool := He.eqO (PySem.W.nsIn K mainGlobals "_law_patterns") (some (some (.ref (He.ga K "_law_patterns"))))
def x105 (K : PySem.W.Frag) : Bool := He.eqO (PySem.W.nsIn K mainGlobals "_law_parts") (some (some (.ref (He.ga K "_law_parts"))))
def x106 (K : PySem.W.Frag) : Bool := He.eqO (PySem.W.nsIn K mainGlobals "_law_signs_of") (some (some (.ref (He.ga K "_law_signs_of"))))
def x107 (K : PySem.W.Frag) : Bool := He.eqO (PySem.W.nsIn K mainGlobals "_law_table") (some (some (.ref (He.ga K "_law_table"))))
def x108 (K : PySem.W.Frag) : Bool := He.eqO (PySem.W.nsIn K mainGlobals "_law_word") (some (some (.ref (He.ga K "_law_word"))))
def x109 (K : PySem.W.Frag) : Bool := He.eqO (PySem.W.nsIn K mainGlobals "_law_constant") (some (some (.ref (He.ga K "_law_constant"))))
def x110 (K : PySem.W.Frag) : Bool := He.eqO (PySem.W.nsIn K mainGlobals "_law_kind_for") (some (some (.ref (He.ga K "_law_kind_for"))))
def x111 (K : PySem.W.Frag) : Bool := He.eqO (PySem.W.nsIn K mainGlobals "_law_held") (some (some (.ref (He.ga K "_law_held"))))
def x112 (K : PySem.W.Frag) : Bool := He.eqO (PySem.W.nsIn K mainGlobals "_law_tree") (some (some (.ref (He.ga K "_law_tree"))))
def x113 (K : PySem.W.Frag) : Bool := He.eqO (PySem.W.nsIn K mainGlobals "_law_is_word") (some (some (.ref (He.ga K "_law_is_word"))))
def x114 (K : PySem.W.Frag) : Bool := He.eqO (PySem.W.nsIn K mainGlobals "_law_is_number") (some (some (.ref (He.ga K "_law_is_number"))))
def x115 (K : PySem.W.Frag) : Bool := He.eqO (PySem.W.nsIn K mainGlobals "_law_fits") (some (some (.ref (He.ga K "_law_fits"))))
def x116 (K : PySem.W.Frag) : Bool := He.eqO (PySem.W.nsIn K mainGlobals "_law_is_due") (some (some (.ref (He.ga K "_law_is_due"))))
def x117 (K : PySem.W.Frag) : Bool := He.eqO (PySem.W.nsIn K mainGlobals "_law_nodes") (some (some (.ref (He.ga K "_law_nodes"))))
def x118 (K : PySem.W.Frag) : Bool := He.eqO (PySem.W.nsIn K mainGlobals "_law_other") (some (some (.ref (He.ga K "_law_other"))))
def x119 (K : PySem.W.Frag) : Bool := He.eqO (PySem.W.nsIn K mainGlobals "_law_each_right") (some (some (.ref (He.ga K "_law_each_right"))))
def x120 (K : PySem.W.Frag) : Bool := He.eqO (PySem.W.nsIn K mainGlobals "law") (some (some (.ref (He.ga K "law"))))
def x121 (K : PySem.W.Frag) : Bool := He.eqO (PySem.W.nsIn K mainGlobals "isinstance") (some none)
def x122 (K : PySem.W.Frag) : Bool := He.eqO (PySem.W.nsIn K mainGlobals "str") (some none)
def x123 (K : PySem.W.Frag) : Bool := He.eqO (PySem.W.nsIn K mainGlobals "tuple") (some none)
def x124 (K : PySem.W.Frag) : Bool := He.eqO (PySem.W.nsIn K mainGlobals "list") (some none)
def x125 (K : PySem.W.Frag) : Bool := He.eqO (PySem.W.nsIn K mainGlobals "len") (some none)
def x126 (K : PySem.W.Frag) : Bool := He.eqO (PySem.W.nsIn K mainGlobals "zip") (some none)
def x127 (K : PySem.W.Frag) : Bool := He.eqO (PySem.W.nsIn K mainGlobals "all") (some none)
def x128 (K : PySem.W.Frag) : Bool := He.eqO (PySem.W.nsIn K mainGlobals "int") (some none)
def x129 (K : PySem.W.Frag) : Bool := He.eqO (PySem.W.nsIn K mainGlobals "bool") (some none)
def x130 (K : PySem.W.Frag) : Bool := He.eqO (PySem.W.nsIn K mainGlobals "sorted") (some none)
def x131 (K : PySem.W.Frag) : Bool := He.eqO (PySem.W.nsIn K mainGlobals "range") (some none)
def x132 (K : PySem.W.Frag) : Bool := He.eqO (PySem.W.nsIn K mainGlobals "max") (some none)
def x133 (K : PySem.W.Frag) : Bool := He.eqO (PySem.W.nsIn K mainGlobals "repr") (some none)
def x134 (K : PySem.W.Frag) : Bool := He.eqO (PySem.W.specialIn K (.builtin "object.__class__") "__get__") (some (some (.builtin "getset_descriptor.__get__")))
def x135 (K : PySem.W.Frag) : Bool := decide (PySem.W.takesIn K (.builtin "object.__class__") = some true)
def x136 (K : PySem.W.Frag) : Bool := He.eqO (PySem.W.nsIn K mainGlobals "FIELDS") (some (some (.ref (He.ga K "FIELDS"))))
def x137 (K : PySem.W.Frag) : Bool := He.eqO (PySem.W.nsIn K mainGlobals "GROUPS") (some (some (.ref (He.ga K "GROUPS"))))
def x138 (K : PySem.W.Frag) : Bool := He.eqO (PySem.W.nsIn K mainGlobals "CHECKS") (some (some (.ref (He.ga K "CHECKS"))))
def x139 (K : PySem.W.Frag) : Bool := He.eqO (PySem.W.nsIn K mainGlobals "LIST_MARKS") (some (some (.ref (He.ga K "LIST_MARKS"))))
def x140 (K : PySem.W.Frag) : Bool := markIs K (He.ga K "LIST_MARKS")
def x141 (K : PySem.W.Frag) : Bool := fldIs K (He.ga K "FIELDS")
def x142 (K : PySem.W.Frag) : Bool := grpIs K (He.ga K "GROUPS")
def x143 (K : PySem.W.Frag) : Bool := ((["ExceptHandler", "JoinedStr", "alias", "arg", "arguments", "comprehension", "keyword", "match_case", "withitem"] : List Str).all fun r : Str => PySem.W.nsIn K (He.ga K "GROUPS") r == some none)
def x144 (K : PySem.W.Frag) : Bool := He.eqO (PySem.W.nsIn K (He.ga K "CHECKS") "BIT") (some (some (.ref (He.ga K "is_bit"))))
def x145 (K : PySem.W.Frag) : Bool := He.eqO (PySem.W.nsIn K (He.ga K "CHECKS") "COUNT") (some (some (.ref (He.ga K "is_count"))))
def x146 (K : PySem.W.Frag) : Bool := He.eqO (PySem.W.nsIn K (He.ga K "CHECKS") "CONVERSION") (some (some (.ref (He.ga K "is_conversion"))))
def x147 (K : PySem.W.Frag) : Bool := He.eqO (PySem.W.nsIn K (He.ga K "CHECKS") "NAME") (some (some (.ref (He.ga K "is_name"))))
def x148 (K : PySem.W.Frag) : Bool := He.eqO (PySem.W.nsIn K (He.ga K "CHECKS") "DOTTED") (some (some (.ref (He.ga K "is_dotted"))))
def x149 (K : PySem.W.Frag) : Bool := He.eqO (PySem.W.nsIn K (He.ga K "CHECKS") "DOTTED_OR_STAR") (some (some (.ref (He.ga K "is_dotted_or_star"))))
def x150 (K : PySem.W.Frag) : Bool := He.eqO (PySem.W.nsIn K (He.ga K "CHECKS") "SINGLETON") (some (some (.ref (He.ga K "is_singleton"))))
def x151 (K : PySem.W.Frag) : Bool := He.eqO (PySem.W.nsIn K (He.ga K "CHECKS") "VALUE") (some (some (.ref (He.ga K "is_value"))))
def x152 (K : PySem.W.Frag) : Bool := ((grpN ++ kinR).all fun r => PySem.W.nsIn K (He.ga K "CHECKS") r == some none)
def x153 (K : PySem.W.Frag) : Bool := ((tys (He.ga K "Node") (fun k => ([(He.ga K "Dots"), (He.ga K "Float"), (He.ga K "Imaginary"), (He.ga K "Octets")] : List Addr).getD k 0)).all fun t => (clss (He.ga K "Node") (fun k => ([(He.ga K "Dots"), (He.ga K "Float"), (He.ga K "Imaginary"), (He.ga K "Octets")] : List Addr).getD k 0)).all fun c => PySem.W.kitOne K t c == some (isOf t c))
def x154 (K : PySem.W.Frag) : Bool := decide (([(He.ga K "Dots"), (He.ga K "Float"), (He.ga K "Imaginary"), (He.ga K "Octets"), (He.ga K "Node")] : List Addr).Nodup)
def x155 (K : PySem.W.Frag) : Bool := decide (([(He.ga K "is_bit"), (He.ga K "is_count"), (He.ga K "is_conversion"), (He.ga K "is_name"), (He.ga K "is_dotted"), (He.ga K "is_dotted_or_star"), (He.ga K "is_singleton"), (He.ga K "is_value")] : List Addr).Nodup)
def exG0 (K : PySem.W.Frag) : Bool := x0 K && (x1 K && (x2 K && (x3 K && (x4 K && (x5 K && (x6 K && (x7 K && (x8 K && (x9 K && (x10 K && (x11 K && (x12 K))))))))))))
def exG1 (K : PySem.W.Frag) : Bool := x13 K && (x14 K && (x15 K && (x16 K && (x17 K && (x18 K && (x19 K && (x20 K && (x21 K && (x22 K && (x23 K && (x24 K && (x25 K))))))))))))
def exG2 (K : PySem.W.Frag) : Bool := x26 K && (x27 K && (x28 K && (x29 K && (x30 K && (x31 K && (x32 K && (x33 K && (x34 K && (x35 K && (x36 K && (x37 K && (x38 K))))))))))))
def exG3 (K : PySem.W.Frag) : Bool := x39 K && (x40 K && (x41 K && (x42 K && (x43 K && (x44 K && (x45 K && (x46 K && (x47 K && (x48 K && (x49 K && (x50 K && (x51 K))))))))))))
def exG4 (K : PySem.W.Frag) : Bool := x52 K && (x53 K && (x54 K && (x55 K && (x56 K && (x57 K && (x58 K && (x59 K && (x60 K && (x61 K && (x62 K && (x63 K && (x64 K))))))))))))
def exG5 (K : PySem.W.Frag) : Bool := x65 K && (x66 K && (x67 K && (x68 K && (x69 K && (x70 K && (x71 K && (x72 K && (x73 K && (x74 K && (x75 K && (x76 K && (x77 K))))))))))))
def exG6 (K : PySem.W.Frag) : Bool := x78 K && (x79 K && (x80 K && (x81 K && (x82 K && (x83 K && (x84 K && (x85 K && (x86 K && (x87 K && (x88 K && (x89 K && (x90 K))))))))))))
def exG7 (K : PySem.W.Frag) : Bool := x91 K && (x92 K && (x93 K && (x94 K && (x95 K && (x96 K && (x97 K && (x98 K && (x99 K && (x100 K && (x101 K && (x102 K && (x103 K))))))))))))
def exG8 (K : PySem.W.Frag) : Bool := x104 K && (x105 K && (x106 K && (x107 K && (x108 K && (x109 K && (x110 K && (x111 K && (x112 K && (x113 K && (x114 K && (x115 K && (x116 K))))))))))))
def exG9 (K : PySem.W.Frag) : Bool := x117 K && (x118 K && (x119 K && (x120 K && (x121 K && (x122 K && (x123 K && (x124 K && (x125 K && (x126 K && (x127 K && (x128 K && (x129 K))))))))))))
def exG10 (K : PySem.W.Frag) : Bool := x130 K && (x131 K && (x132 K && (x133 K && (x134 K && (x135 K && (x136 K && (x137 K && (x138 K && (x139 K && (x140 K && (x141 K && (x142 K))))))))))))
def exG11 (K : PySem.W.Frag) : Bool := x143 K && (x144 K && (x145 K && (x146 K && (x147 K && (x148 K && (x149 K && (x150 K && (x151 K && (x152 K && (x153 K && (x154 K && (x155 K))))))))))))
def exL (K : PySem.W.Frag) : Bool := exG0 K && (exG1 K && (exG2 K && (exG3 K && (exG4 K && (exG5 K && (exG6 K && (exG7 K && (exG8 K && (exG9 K && (exG10 K && (exG11 K)))))))))))
theorem facts {P : Program} {w : World} {K : PySem.W.Frag} {h : Heap} {mg : Str → Option Value} {f : Addr} (X : K.In h) (G : h.Ns mainGlobals mg) (hfa : mg ("law" : Str) = some (.ref f)) (c : He.SaysT [] fnL tsL w K) (e : exL K = true) :
    ∃ fd : FuncData, (∀ (s : Shared) (u : Value), BindsTo s fd ⟨[u], []⟩ [("_law_script", u)]) ∧ ∀ base : Heap, K.In base → base.Ns mainGlobals mg → TopOk P w K mg base f fd ["_law_script"] (spLaw K) := by
  have c1 := c.d
  unfold exL at e
  unfold exG0 exG1 exG2 exG3 exG4 exG5 exG6 exG7 exG8 exG9 exG10 exG11 at e
  simp only [Bool.and_eq_true] at e
  obtain ⟨⟨h0, h1, h2, h3, h4, h5, h6, h7, h8, h9, h10, h11, h12⟩, ⟨h13, h14, h15, h16, h17, h18, h19, h20, h21, h22, h23, h24, h25⟩, ⟨h26, h27, h28, h29, h30, h31, h32, h33, h34, h35, h36, h37, h38⟩, ⟨h39, h40, h41, h42, h43, h44, h45, h46, h47, h48, h49, h50, h51⟩, ⟨h52, h53, h54, h55, h56, h57, h58, h59, h60, h61, h62, h63, h64⟩, ⟨h65, h66, h67, h68, h69, h70, h71, h72, h73, h74, h75, h76, h77⟩, ⟨h78, h79, h80, h81, h82, h83, h84, h85, h86, h87, h88, h89, h90⟩, ⟨h91, h92, h93, h94, h95, h96, h97, h98, h99, h100, h101, h102, h103⟩, ⟨h104, h105, h106, h107, h108, h109, h110, h111, h112, h113, h114, h115, h116⟩, ⟨h117, h118, h119, h120, h121, h122, h123, h124, h125, h126, h127, h128, h129⟩, ⟨h130, h131, h132, h133, h134, h135, h136, h137, h138, h139, h140, h141, h142⟩, ⟨h143, h144, h145, h146, h147, h148, h149, h150, h151, h152, h153, h154, h155⟩⟩ := e
  obtain ⟨eF, nF, hF⟩ := c.tab 0 (t := ((fun K => He.ga K "FIELDS"), keysF)) rfl
  obtain ⟨eG, nG, hG⟩ := c.tab 1 (t := ((fun K => He.ga K "GROUPS"), keysG)) rfl
  obtain ⟨eC, nC, hC⟩ := c.tab 2 (t := ((fun K => He.ga K "CHECKS"), keysC)) rfl
  obtain ⟨dE0, DE0⟩ := c1.def_ 0 rfl
  obtain ⟨ocE0, odE0, kvE0, dcE0, pmE0, anE0, cdE0, ctE0, slE0, efE0, lE0, kE0⟩ := (fun_of (st := sEq0) DE0).ex
  subst efE0
  obtain ⟨dE1, DE1⟩ := c1.def_ 1 rfl
  obtain ⟨ocE1, odE1, kvE1, dcE1, pmE1, anE1, cdE1, ctE1, slE1, efE1, lE1, kE1⟩ := (fun_of (st := sEq1) DE1).ex
  subst efE1
  obtain ⟨dI1, DI1⟩ := c1.def_ 2 rfl
  obtain ⟨ocI1, odI1, kvI1, dcI1, pmI1, anI1, cdI1, ctI1, slI1, efI1, lI1, kI1⟩ := (fun_of (st := sIn1) DI1).ex
  subst efI1
  obtain ⟨dE2, DE2⟩ := c1.def_ 3 rfl
  obtain ⟨ocE2, odE2, kvE2, dcE2, pmE2, anE2, cdE2, ctE2, slE2, efE2, lE2, kE2⟩ := (fun_of (st := sEq2) DE2).ex
  subst efE2
  obtain ⟨dI2, DI2⟩ := c1.def_ 4 rfl
  obtain ⟨ocI2, odI2, kvI2, dcI2, pmI2, anI2, cdI2, ctI2, slI2, efI2, lI2, kI2⟩ := (fun_of (st := sIn2) DI2).ex
  subst efI2
  obtain ⟨dE3, DE3⟩ := c1.def_ 5 rfl
  obtain ⟨ocE3, odE3, kvE3, dcE3, pmE3, anE3, cdE3, ctE3, slE3, efE3, lE3, kE3⟩ := (fun_of (st := sEq3) DE3).ex
  subst efE3
  obtain ⟨dI3, DI3⟩ := c1.def_ 6 rfl
  obtain ⟨ocI3, odI3, kvI3, dcI3, pmI3, anI3, cdI3, ctI3, slI3, efI3, lI3, kI3⟩ := (fun_of (st := sIn3) DI3).ex
  subst efI3
  obtain ⟨dNI, DNI⟩ := c1.def_ 7 rfl
  obtain ⟨ocNI, odNI, kvNI, dcNI, pmNI, anNI, cdNI, ctNI, slNI, efNI, lNI, kNI⟩ := (fun_of (st := sNI) DNI).ex
  subst efNI
  obtain ⟨dNG, DNG⟩ := c1.def_ 8 rfl
  obtain ⟨ocNG, odNG, kvNG, dcNG, pmNG, anNG, cdNG, ctNG, slNG, efNG, lNG, kNG⟩ := (fun_of (st := sNG) DNG).ex
  subst efNG
  obtain ⟨dNS, DNS⟩ := c1.def_ 9 rfl
  obtain ⟨ocNS, odNS, kvNS, dcNS, pmNS, anNS, cdNS, ctNS, slNS, efNS, lNS, kNS⟩ := (fun_of (st := sNS) DNS).ex
  subst efNS
  obtain ⟨dI, DI⟩ := c1.def_ 10 rfl
  obtain ⟨ocI, odI, kvI, dcI, pmI, anI, cdI, ctI, slI, efI, lI, kI⟩ := (fun_of (st := (sC 0)) DI).ex
  subst efI
  obtain ⟨dB, DB⟩ := c1.def_ 11 rfl
  obtain ⟨ocB, odB, kvB, dcB, pmB, anB, cdB, ctB, slB, efB, lB, kB⟩ := (fun_of (st := (sC 1)) DB).ex
  subst efB
  obtain ⟨dC, DC⟩ := c1.def_ 12 rfl
  obtain ⟨ocC, odC, kvC, dcC, pmC, anC, cdC, ctC, slC, efC, lC, kC⟩ := (fun_of (st := (sC 2)) DC).ex
  subst efC
  obtain ⟨dV, DV⟩ := c1.def_ 13 rfl
  obtain ⟨ocV, odV, kvV, dcV, pmV, anV, cdV, ctV, slV, efV, lV, kV⟩ := (fun_of (st := (sC 3)) DV).ex
  subst efV
  obtain ⟨dN, DN⟩ := c1.def_ 14 rfl
  obtain ⟨ocN, odN, kvN, dcN, pmN, anN, cdN, ctN, slN, efN, lN, kN⟩ := (fun_of (st := (sC 4)) DN).ex
  subst efN
  obtain ⟨dD, DD⟩ := c1.def_ 15 rfl
  obtain ⟨ocD, odD, kvD, dcD, pmD, anD, cdD, ctD, slD, efD, lD, kD⟩ := (fun_of (st := (sC 5)) DD).ex
  subst efD
  obtain ⟨dS, DS⟩ := c1.def_ 16 rfl
  obtain ⟨ocS, odS, kvS, dcS, pmS, anS, cdS, ctS, slS, efS, lS, kS⟩ := (fun_of (st := (sC 6)) DS).ex
  subst efS
  obtain ⟨dG, DG⟩ := c1.def_ 17 rfl
  obtain ⟨ocG, odG, kvG, dcG, pmG, anG, cdG, ctG, slG, efG, lG, kG⟩ := (fun_of (st := (sC 7)) DG).ex
  subst efG
  obtain ⟨dA, DA⟩ := c1.def_ 18 rfl
  obtain ⟨ocA, odA, kvA, dcA, pmA, anA, cdA, ctA, slA, efA, lA, kA⟩ := (fun_of (st := (sC 8)) DA).ex
  subst efA
  obtain ⟨dDf, DDf⟩ := c1.def_ 19 rfl
  obtain ⟨ocDf, odDf, kvDf, dcDf, pmDf, anDf, cdDf, ctDf, slDf, efDf, lDf, kDf⟩ := (fun_of (st := sDef) DDf).ex
  subst efDf
  obtain ⟨dFo, DFo⟩ := c1.def_ 20 rfl
  obtain ⟨ocFo, odFo, kvFo, dcFo, pmFo, anFo, cdFo, ctFo, slFo, efFo, lFo, kFo⟩ := (fun_of (st := sFO) DFo).ex
  subst efFo
  obtain ⟨dIt, DIt⟩ := c1.def_ 21 rfl
  obtain ⟨ocIt, odIt, kvIt, dcIt, pmIt, anIt, cdIt, ctIt, slIt, efIt, lIt, kIt⟩ := (fun_of (st := sTree) DIt).ex
  subst efIt
  obtain ⟨dFt, DFt⟩ := c1.def_ 22 rfl
  obtain ⟨ocFt, odFt, kvFt, dcFt, pmFt, anFt, cdFt, ctFt, slFt, efFt, lFt, kFt⟩ := (fun_of (st := sFit) DFt).ex
  subst efFt
  obtain ⟨dF1, DF1⟩ := c1.def_ 23 rfl
  obtain ⟨ocF1, odF1, kvF1, dcF1, pmF1, anF1, cdF1, ctF1, slF1, efF1, lF1, kF1⟩ := (fun_of (st := sF1) DF1).ex
  subst efF1
  obtain ⟨dNo, DNo⟩ := c1.def_ 24 rfl
  obtain ⟨ocNo, odNo, kvNo, dcNo, pmNo, anNo, cdNo, ctNo, slNo, efNo, lNo, kNo⟩ := (fun_of (st := sNO) DNo).ex
  subst efNo
  obtain ⟨dDr, DDr⟩ := c1.def_ 25 rfl
  obtain ⟨ocDr, odDr, kvDr, dcDr, pmDr, anDr, cdDr, ctDr, slDr, efDr, lDr, kDr⟩ := (fun_of (st := sDraw) DDr).ex
  subst efDr
  obtain ⟨dPk, DPk⟩ := c1.def_ 26 rfl
  obtain ⟨ocPk, odPk, kvPk, dcPk, pmPk, anPk, cdPk, ctPk, slPk, efPk, lPk, kPk⟩ := (fun_of (st := sPick) DPk).ex
  subst efPk
  obtain ⟨dTs, DTs⟩ := c1.def_ 27 rfl
  obtain ⟨ocTs, odTs, kvTs, dcTs, pmTs, anTs, cdTs, ctTs, slTs, efTs, lTs, kTs⟩ := (fun_of (st := sStm) DTs).ex
  subst efTs
  obtain ⟨dTe, DTe⟩ := c1.def_ 28 rfl
  obtain ⟨ocTe, odTe, kvTe, dcTe, pmTe, anTe, cdTe, ctTe, slTe, efTe, lTe, kTe⟩ := (fun_of (st := sExp) DTe).ex
  subst efTe
  obtain ⟨dTp, DTp⟩ := c1.def_ 29 rfl
  obtain ⟨ocTp, odTp, kvTp, dcTp, pmTp, anTp, cdTp, ctTp, slTp, efTp, lTp, kTp⟩ := (fun_of (st := sPat) DTp).ex
  subst efTp
  obtain ⟨dTr, DTr⟩ := c1.def_ 30 rfl
  obtain ⟨ocTr, odTr, kvTr, dcTr, pmTr, anTr, cdTr, ctTr, slTr, efTr, lTr, kTr⟩ := (fun_of (st := sPrt) DTr).ex
  subst efTr
  obtain ⟨dSg, DSg⟩ := c1.def_ 31 rfl
  obtain ⟨ocSg, odSg, kvSg, dcSg, pmSg, anSg, cdSg, ctSg, slSg, efSg, lSg, kSg⟩ := (fun_of (st := sSg) DSg).ex
  subst efSg
  obtain ⟨dTb, DTb⟩ := c1.def_ 32 rfl
  obtain ⟨ocTb, odTb, kvTb, dcTb, pmTb, anTb, cdTb, ctTb, slTb, efTb, lTb, kTb⟩ := (fun_of (st := sTbl) DTb).ex
  subst efTb
  obtain ⟨dWd, DWd⟩ := c1.def_ 33 rfl
  obtain ⟨ocWd, odWd, kvWd, dcWd, pmWd, anWd, cdWd, ctWd, slWd, efWd, lWd, kWd⟩ := (fun_of (st := sWord) DWd).ex
  subst efWd
  obtain ⟨dCn, DCn⟩ := c1.def_ 34 rfl
  obtain ⟨ocCn, odCn, kvCn, dcCn, pmCn, anCn, cdCn, ctCn, slCn, efCn, lCn, kCn⟩ := (fun_of (st := sCon) DCn).ex
  subst efCn
  obtain ⟨dKf, DKf⟩ := c1.def_ 35 rfl
  obtain ⟨ocKf, odKf, kvKf, dcKf, pmKf, anKf, cdKf, ctKf, slKf, efKf, lKf, kKf⟩ := (fun_of (st := sKF) DKf).ex
  subst efKf
  obtain ⟨dHe, DHe⟩ := c1.def_ 36 rfl
  obtain ⟨ocHe, odHe, kvHe, dcHe, pmHe, anHe, cdHe, ctHe, slHe, efHe, lHe, kHe⟩ := (fun_of (st := sHe) DHe).ex
  subst efHe
  obtain ⟨dRe, DRe⟩ := c1.def_ 37 rfl
  obtain ⟨ocRe, odRe, kvRe, dcRe, pmRe, anRe, cdRe, ctRe, slRe, efRe, lRe, kRe⟩ := (fun_of (st := sTr) DRe).ex
  subst efRe
  obtain ⟨dIw, DIw⟩ := c1.def_ 38 rfl
  obtain ⟨ocIw, odIw, kvIw, dcIw, pmIw, anIw, cdIw, ctIw, slIw, efIw, lIw, kIw⟩ := (fun_of (st := sIW) DIw).ex
  subst efIw
  obtain ⟨dIn, DIn⟩ := c1.def_ 39 rfl
  obtain ⟨ocIn, odIn, kvIn, dcIn, pmIn, anIn, cdIn, ctIn, slIn, efIn, lIn, kIn⟩ := (fun_of (st := sIN) DIn).ex
  subst efIn
  obtain ⟨dLf, DLf⟩ := c1.def_ 40 rfl
  obtain ⟨ocLf, odLf, kvLf, dcLf, pmLf, anLf, cdLf, ctLf, slLf, efLf, lLf, kLf⟩ := (fun_of (st := sLF) DLf).ex
  subst efLf
  obtain ⟨dDu, DDu⟩ := c1.def_ 41 rfl
  obtain ⟨ocDu, odDu, kvDu, dcDu, pmDu, anDu, cdDu, ctDu, slDu, efDu, lDu, kDu⟩ := (fun_of (st := sDue) DDu).ex
  subst efDu
  obtain ⟨dNd, DNd⟩ := c1.def_ 42 rfl
  obtain ⟨ocNd, odNd, kvNd, dcNd, pmNd, anNd, cdNd, ctNd, slNd, efNd, lNd, kNd⟩ := (fun_of (st := sNds) DNd).ex
  subst efNd
  obtain ⟨dOt, DOt⟩ := c1.def_ 43 rfl
  obtain ⟨ocOt, odOt, kvOt, dcOt, pmOt, anOt, cdOt, ctOt, slOt, efOt, lOt, kOt⟩ := (fun_of (st := sOt) DOt).ex
  subst efOt
  obtain ⟨dEr, DEr⟩ := c1.def_ 44 rfl
  obtain ⟨ocEr, odEr, kvEr, dcEr, pmEr, anEr, cdEr, ctEr, slEr, efEr, lEr, kEr⟩ := (fun_of (st := sEr) DEr).ex
  subst efEr
  obtain ⟨dL, DL⟩ := c1.def_ 45 rfl
  obtain ⟨ocL, odL, kvL, dcL, pmL, anL, cdL, ctL, slL, efL, lL, kL⟩ := (fun_of (st := sLaw) DL).ex
  subst efL
  exact all_mk (CN := (He.ga K "Node")) (aF := (He.ga K "FIELDS")) (aG := (He.ga K "GROUPS")) (aC := (He.ga K "CHECKS")) (aM := (He.ga K "LIST_MARKS")) (C0 := (He.ga K "Dots")) (C1 := (He.ga K "Float")) (C2 := (He.ga K "Imaginary")) (C3 := (He.ga K "Octets")) (e0 := (He.ma K (He.ga K "Dots") "__eq__")) (e1 := (He.ma K (He.ga K "Float") "__eq__")) (f1 := (He.ma K (He.ga K "Float") "__init__")) (e2 := (He.ma K (He.ga K "Imaginary") "__eq__")) (f2 := (He.ma K (He.ga K "Imaginary") "__init__")) (e3 := (He.ma K (He.ga K "Octets") "__eq__")) (f3 := (He.ma K (He.ga K "Octets") "__init__")) (fNI := (He.ma K (He.ga K "Node") "__init__")) (fNG := (He.ma K (He.ga K "Node") "__getitem__")) (fNS := (He.ma K (He.ga K "Node") "__setitem__")) (gI := (He.ga K "is_int")) (gB := (He.ga K "is_bit")) (gC := (He.ga K "is_count")) (gV := (He.ga K "is_conversion")) (gN := (He.ga K "is_name")) (gD := (He.ga K "is_dotted")) (gS := (He.ga K "is_dotted_or_star")) (gG := (He.ga K "is_singleton")) (gA := (He.ga K "is_value")) (gDf := (He.ga K "_default")) (gFo := (He.ga K "fields_of")) (gIt := (He.ga K "is_tree")) (gFt := (He.ga K "_fits")) (gF1 := (He.ga K "_fits_one")) (gNo := (He.ga K "nodes_of")) (gDr := (He.ga K "_law_draw")) (gPk := (He.ga K "_law_pick")) (gTs := (He.ga K "_law_statements")) (gTe := (He.ga K "_law_expressions")) (gTp := (He.ga K "_law_patterns")) (gTr := (He.ga K "_law_parts")) (gSg := (He.ga K "_law_signs_of")) (gTb := (He.ga K "_law_table")) (gWd := (He.ga K "_law_word")) (gCn := (He.ga K "_law_constant")) (gKf := (He.ga K "_law_kind_for")) (gHe := (He.ga K "_law_held")) (gRe := (He.ga K "_law_tree")) (gIw := (He.ga K "_law_is_word")) (gIn := (He.ga K "_law_is_number")) (gLf := (He.ga K "_law_fits")) (gDu := (He.ga K "_law_is_due")) (gNd := (He.ga K "_law_nodes")) (gOt := (He.ga K "_law_other")) (gEr := (He.ga K "_law_each_right")) (gL := (He.ga K "law")) X G hfa (He.eqO_ok h0) h1 h2 h3 (He.eqO_ok h4) (He.eqO_ok h5) (of_decide_eq_true h6) h7 h8 (He.eqO_ok h9) h10 h11 lE0 kE0 DE0.kp (He.eqO_ok h12) (He.eqO_ok h13) h14 h15 h16 (He.eqO_ok h17) (He.eqO_ok h18) (of_decide_eq_true h19) h20 h21 (He.eqO_ok h22) h23 h24 lE1 kE1 DE1.kp (He.eqO_ok h25) h26 lI1 kI1 DI1.kp (He.eqO_ok h27) (He.eqO_ok h28) (He.eqO_ok h29) h30 h31 h32 (He.eqO_ok h33) (He.eqO_ok h34) (of_decide_eq_true h35) h36 h37 (He.eqO_ok h38) h39 h40 lE2 kE2 DE2.kp (He.eqO_ok h41) h42 lI2 kI2 DI2.kp (He.eqO_ok h43) (He.eqO_ok h44) h45 h46 h47 (He.eqO_ok h48) (He.eqO_ok h49) (of_decide_eq_true h50) h51 h52 (He.eqO_ok h53) h54 h55 lE3 kE3 DE3.kp (He.eqO_ok h56) h57 lI3 kI3 DI3.kp (He.eqO_ok h58) (He.eqO_ok h59) h60 h61 h62 (He.eqO_ok h63) (He.eqO_ok h64) (of_decide_eq_true h65) h66 h67 (He.eqO_ok h68) (He.eqO_ok h69) (He.eqO_ok h70) (He.eqO_ok h71) (He.eqO_ok h72) (He.eqO_ok h73) (He.eqO_ok h74) h75 lNI kNI DNI.kp (He.eqO_ok h76) h77 lNG kNG DNG.kp (He.eqO_ok h78) h79 lNS kNS DNS.kp h80 h81 (He.eqO_ok h82) (of_decide_eq_true h83) (of_decide_eq_true h84) (He.eqO_ok h85) lI kI DI.kp (He.eqO_ok h86) lB kB DB.kp (He.eqO_ok h87) lC kC DC.kp (He.eqO_ok h88) lV kV DV.kp (He.eqO_ok h89) lN kN DN.kp (He.eqO_ok h90) lD kD DD.kp (He.eqO_ok h91) lS kS DS.kp (He.eqO_ok h92) lG kG DG.kp (He.eqO_ok h93) lA kA DA.kp (He.eqO_ok h94) lDf kDf DDf.kp (He.eqO_ok h95) lFo kFo DFo.kp (He.eqO_ok h96) lIt kIt DIt.kp (He.eqO_ok h97) lFt kFt DFt.kp (He.eqO_ok h98) lF1 kF1 DF1.kp (He.eqO_ok h99) lNo kNo DNo.kp (He.eqO_ok h100) lDr kDr DDr.kp (He.eqO_ok h101) lPk kPk DPk.kp (He.eqO_ok h102) lTs kTs DTs.kp (He.eqO_ok h103) lTe kTe DTe.kp (He.eqO_ok h104) lTp kTp DTp.kp (He.eqO_ok h105) lTr kTr DTr.kp (He.eqO_ok h106) lSg kSg DSg.kp (He.eqO_ok h107) lTb kTb DTb.kp (He.eqO_ok h108) lWd kWd DWd.kp (He.eqO_ok h109) lCn kCn DCn.kp (He.eqO_ok h110) lKf kKf DKf.kp (He.eqO_ok h111) lHe kHe DHe.kp (He.eqO_ok h112) lRe kRe DRe.kp (He.eqO_ok h113) lIw kIw DIw.kp (He.eqO_ok h114) lIn kIn DIn.kp (He.eqO_ok h115) lLf kLf DLf.kp (He.eqO_ok h116) lDu kDu DDu.kp (He.eqO_ok h117) lNd kNd DNd.kp (He.eqO_ok h118) lOt kOt DOt.kp (He.eqO_ok h119) lEr kEr DEr.kp (He.eqO_ok h120) lL kL DL.kp (He.eqO_ok h121) (He.eqO_ok h122) (He.eqO_ok h123) (He.eqO_ok h124) (He.eqO_ok h125) (He.eqO_ok h126) (He.eqO_ok h127) (He.eqO_ok h128) (He.eqO_ok h129) (He.eqO_ok h130) (He.eqO_ok h131) (He.eqO_ok h132) (He.eqO_ok h133) (He.eqO_ok h134) (of_decide_eq_true h135) (He.eqO_ok h136) hF.at_ hF.lit hF.low (He.eqO_ok h137) hG.at_ hG.lit hG.low (He.eqO_ok h138) hC.at_ hC.lit hC.low (He.eqO_ok h139) h140 h141 h142 h143 (He.eqO_ok h144) (He.eqO_ok h145) (He.eqO_ok h146) (He.eqO_ok h147) (He.eqO_ok h148) (He.eqO_ok h149) (He.eqO_ok h150) (He.eqO_ok h151) h152 h153 (of_decide_eq_true h154) (of_decide_eq_true h155)
end K5

open PySem PySem.W PyProof.Rows
set_option maxRecDepth 100000 in
set_option maxHeartbeats 0 in
theorem PySem.Challenge.cw_treequill_k05_whole_trees_or_none_holds : PySem.Challenge.rw_treequill_k05_whole_trees_or_none.Holds := by
  w_on; o_law; o_head (K5.hookX 4 [] K5.fnL K5.tsL K5.exL); (case hw => w_witness2)
  refine K5.walk_topE (l := PySem.Challenge.rw_treequill_k05_whole_trees_or_none) (n := 63) (x := "_law_script") rfl (by decide) rfl ?F
  intro w mg fa h Y G hmg
  obtain ⟨K, KX, c, e⟩ := Y
  obtain ⟨fd, hb, hF⟩ := K5.facts (P := (PySem.Challenge.rw_treequill_k05_whole_trees_or_none).prog) (w := w) KX G hmg c e
  exact ⟨K, fd, K5.spLaw K, KX, hb, fun H a ns hl _ hS => ⟨a, ns, rfl, hS, hl, fun _ => rfl⟩, hF⟩
#print axioms PySem.Challenge.cw_treequill_k05_whole_trees_or_none_holds
