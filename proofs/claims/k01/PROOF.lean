import PyProof.Rows.All
import Wide.All
import OpenK.AllK
import Wide.FinOn
import HandS.ForMost
import HandS.Wide
import HandS.Codes
import KE.KEqSeq
import HandS.ForExc
import HandS.ExcInit
import HandS.ExcValue
import HandS.ExcField
import HandS.ExcIs
import HandS.IsInst
import HandS.MakeKw
import KE.KExcIs
import HandS.NoneIn
import PySem.Challenge.RW_treequill_k01_errors_made
set_option Elab.async false
set_option linter.all false
set_option maxRecDepth 100000
set_option maxHeartbeats 4000000
namespace K1
open PySem PySem.Spec PyProof.Rows L2
def topS (i : Nat) : Stmt := PySem.Challenge.pw_treequill_k01_errors_made.main.body.getD i (.Pass ⟨0, 0, 0, 0⟩)
abbrev sDraw : Stmt := topS 14
abbrev sPick : Stmt := topS 15
theorem scDraw : FnScope ["_law_stream", "_law_many", "_law_digit", "_law_mixed", "_law_last"] ["_law_stream", "_law_many"] (defScope sDraw) := ⟨rfl, rfl, rfl, by decide +kernel, rfl, by decide +kernel, by decide +kernel⟩
theorem scPick : FnScope ["_law_stream", "_law_some"] ["_law_stream", "_law_some"] (defScope sPick) := ⟨rfl, rfl, rfl, by decide +kernel, rfl, by decide +kernel, by decide +kernel⟩
/-- the stream's state: what is left of the cells, the great cell at hand, how many were mixed, the mixed number -/
structure Stm where
  cells : List Int
  cur : Int
  cnt : Int
  mix : Int
structure StmAt (H : Hp) (a c : Addr) (S : Stm) : Prop where
  lst : H a = some (.lst [.ref c, .int S.cur, .int S.cnt, .int S.mix])
  cel : H c = some (.lst (S.cells.map V.int))
  ne : a ≠ c
  len : S.cells.length ≤ 63
  cur0 : 0 ≤ S.cur
  cnt0 : 0 ≤ S.cnt
  mix0 : 0 ≤ S.mix
  mix1 : S.mix < 2147483647
/-- all that stood but the stream stands -/
def Kept (a c : Addr) (H H' : Hp) : Prop := ∀ b o, b ≠ a → b ≠ c → H b = some o → H' b = some o
theorem Kept.refl (a c : Addr) (H : Hp) : Kept a c H H := fun _ _ _ _ h => h
theorem Kept.trans {a c : Addr} {H H1 H2 : Hp} (x : Kept a c H H1) (y : Kept a c H1 H2) : Kept a c H H2 := fun b o n1 n2 h => y b o n1 n2 (x b o n1 n2 h)
theorem Kept.updA {a c : Addr} {H H1 : Hp} {o : HO} (x : Kept a c H H1) : Kept a c H (upd H1 a o) := fun b u n1 n2 h => by
  rw [upd_ne n1]; exact x b u n1 n2 h
theorem Kept.updC {a c : Addr} {H H1 : Hp} {o : HO} (x : Kept a c H H1) : Kept a c H (upd H1 c o) := fun b u n1 n2 h => by
  rw [upd_ne n2]; exact x b u n1 n2 h
theorem Kept.new {a c p : Addr} {H H1 : Hp} {o : HO} (x : Kept a c H H1) (h : H1 p = none) : Kept a c H (upd H1 p o) := fun b u n1 n2 e => by
  rw [upd_ne (ne_of_none (x b u n1 n2 e) h)]; exact x b u n1 n2 e
theorem Kept.same {a c : Addr} {H H1 : Hp} (x : Same H H1) : Kept a c H H1 := fun b u _ _ h => x b u h
def spDraw : Sp := fun vs H Q _ => ∃ (a c : Addr) (S : Stm) (m : Int), vs = [.ref a, .int m] ∧ StmAt H a c S ∧ S.cnt < 1000000 ∧ 0 < m ∧ m < 1000000 ∧
  ∀ (H' : Hp) (S' : Stm) (r : Int), StmAt H' a c S' → S'.cnt ≤ S.cnt + 1 → Kept a c H H' → 0 ≤ r → r < m → Q (.int r) H'
theorem dp_ints {K : PySem.W.Frag} {H : Hp} : ∀ ns : List Int, DpAll K H (ns.map V.int) (ns.map PyData.int)
  | [] => .nil
  | n :: r => .cons (.int n) (dp_ints r)
theorem shaped_ints (ns : List Int) : SeqAt.shaped (.list (ns.map PyData.int)) = true := by first | exact ke_shaped_ints ns | exact PySem.W.ke_shaped_ints ns | exact PyProof.Rows.ke_shaped_ints ns
theorem eqv_ints_nil : ∀ ns : List Int, PyData.eqv (.list (ns.map PyData.int)) (.list []) = ns.isEmpty
  | [] => rfl
  | _ :: _ => rfl
section
variable {P : Program} {w : World} {K : PySem.W.Frag} {mg : Str → Option Value} {base : Heap}
theorem ok_draw {f : Addr} {fd : FuncData} (F : Fun K "_law_draw" "_law_draw" sDraw f fd) (mi : mg "int" = none) : FnOk P w K mg base CX0 1 f fd ["_law_stream", "_law_many"] spDraw := by
  refine F.ok scDraw (fun vs H Q E h => ?_) (fun cdv A outer s H vs Q E hr h => ?_)
  · obtain ⟨a, c, S, m, rfl, _⟩ := h
    rfl
  obtain ⟨a, c, S, m, rfl, hS, hcnt, hm0, hm1, q⟩ := h
  refine ⟨_, C8.pss_cut (ps_while PassesOwn.never
      (PW.pt (pw_and (pt_cmpR op_eq (pe_ix ix_list (pv 0) pe_int (fun _ _ => rfl)) pe_int (nomark _))
        (pw_and1 (pt_cmpR (op_neD hr.units) (pe_ix ix_list (pv 0) pe_int (fun _ _ => rfl)) (pe_lst pa_nil) (nomark _)))))
      (pss_cons (ps_asg (pe_bm PySem.F.plainAttrs_list PySem.F.slot_list_pop PySem.F.type_list_pop mt_popAt (pe_ix ix_list (pv 0) pe_int (fun _ _ => rfl)) (pa_cons pe_int pa_nil)) (pg_sub (pv 0) pe_int set_list))
      (pss_one (ps_if (pt_cmpR op_lt (pe_ix ix_list (pv 0) pe_int (fun _ _ => rfl)) (pe_op op_pow pe_int pe_int) (nomark _))
        (pss_cons (ps_asg (pe_op op_mod (pe_callTy call_int1 (by rfl) mi (by decide +kernel) (pa_cons (pe_op op_add (pe_op op_add (pe_op op_mul (pe_ix ix_list (pv 0) pe_int (fun _ _ => rfl)) pe_int) (pe_ix ix_list (pv 0) pe_int (fun _ _ => rfl))) pe_int) pa_nil)) pe_int) (pg_sub (pv 0) pe_int set_list))
        (pss_one (ps_asg pe_int (pg_sub (pv 0) pe_int set_list)))) pss_nil))))
    (pss_cons (ps_if (pt_cmpR op_gt (pe_ix ix_list (pv 0) pe_int (fun _ _ => rfl)) pe_int (nomark _))
        (pss_cons (ps_set (i := 2) scDraw.nd rfl (.inl rfl) (pe_op op_mod (pe_callTy call_int1 (by rfl) mi (by decide +kernel) (pa_cons (pe_ix ix_list (pv 0) pe_int (fun _ _ => rfl)) pa_nil)) (pv 1)))
        (pss_cons (ps_asg (pe_op op_fdivN (pe_ix ix_list (pv 0) pe_int (fun _ _ => rfl)) (pv 1)) (pg_sub (pv 0) pe_int set_list))
        (pss_one (ps_ret (pv 2))))) pss_nil)
    (pss_cons (ps_asg (pe_op op_add (pe_ix ix_list (pv 0) pe_int (fun _ _ => rfl)) pe_int) (pg_sub (pv 0) pe_int set_list))
    (pss_cons (ps_set (i := 3) scDraw.nd rfl (.inl rfl) (pe_op op_mod (pe_callTy call_int1 (by rfl) mi (by decide +kernel) (pa_cons (pe_op op_pow (pe_op op_add (pe_op op_add (pe_ix ix_list (pv 0) pe_int (fun _ _ => rfl)) (pe_op op_mul pe_int (pe_ix ix_list (pv 0) pe_int (fun _ _ => rfl)))) pe_int) pe_int) pa_nil)) pe_int))
    (pss_cons (ps_set (i := 4) scDraw.nd rfl (.inl rfl) (pe_op op_mod (pe_callTy call_int1 (by rfl) mi (by decide +kernel) (pa_cons (pe_op op_pow (pe_op op_add (pe_op op_add (pe_op op_mul (pv 3) pe_int) (pe_op op_mul (pe_op op_mul pe_int (pe_ix ix_list (pv 0) pe_int (fun _ _ => rfl))) (pe_ix ix_list (pv 0) pe_int (fun _ _ => rfl)))) pe_int) pe_int) pa_nil)) pe_int))
    (pss_one (ps_ret (pe_op op_mod (pe_callTy call_int1 (by rfl) mi (by decide +kernel) (pa_cons (pv 4) pa_nil)) (pv 1)))))))), ?_⟩
  refine ⟨fun σ H1 => ∃ S1 : Stm, σ = [some (.ref a), some (.int m), none, none, none] ∧ StmAt H1 a c S1 ∧ S1.cnt = S.cnt ∧ Kept a c H H1,
    ⟨fun n σ H1 => ∃ S1 : Stm, σ = [some (.ref a), some (.int m), none, none, none] ∧ StmAt H1 a c S1 ∧ S1.cnt = S.cnt ∧ Kept a c H H1 ∧ S1.cells.length = n, ⟨_, S, rfl, hS, rfl, .refl _ _ _, rfl⟩, ?_⟩, ?_⟩
  · rintro n σ H1 ⟨S1, rfl, h1, ec, k1, el⟩
    refine ⟨_, rfl, a, _, _, _, rfl, rfl, SqL.of h1.lst, rfl, rfl, _, rfl, ?_⟩
    have l0 := h1.cur0
    have l1 := h1.cnt0
    have l2 := h1.mix0
    have l3 := h1.mix1
    refine ite2 (fun c1 => ?_) (fun c1 => ?_)
    · -- the cells: != []
      have c1' : S1.cur = 0 := by simpa using c1
      refine ⟨_, rfl, a, _, _, _, rfl, rfl, SqL.of h1.lst, rfl, Nat.zero_le _, fun l nl => ?_⟩
      have na : a ≠ l := ne_of_none h1.lst nl
      have nc : c ≠ l := ne_of_none h1.cel nl
      have h2 : StmAt (upd H1 l (.lst [])) a c S1 := ⟨by rw [upd_ne na]; exact h1.lst, by rw [upd_ne nc]; exact h1.cel, h1.ne, h1.len, h1.cur0, h1.cnt0, h1.mix0, h1.mix1⟩
      have k2 : Kept a c H (upd H1 l (.lst [])) := k1.new nl
      refine ⟨_, _, .lst (SqL.of h2.cel) (dp_ints S1.cells), .lst (SqL.of upd_same) .nil, shaped_ints _, rfl, _, rfl, ?_⟩
      rw [eqv_ints_nil]
      generalize upd H1 l (.lst []) = H2 at h2 k2
      cases hS1 : S1.cells with
      | nil =>
        refine iteF ?_
        exact ⟨S1, rfl, h2, ec, k2⟩
      | cons v r =>
        refine iteT ?_
        refine ⟨fun σ' H' => ∃ S3 : Stm, σ' = [some (.ref a), some (.int m), none, none, none] ∧ StmAt H' a c S3 ∧ S3.cnt = S.cnt ∧ Kept a c H H' ∧ S3.cells.length < n, fun σ' H' ⟨S3, e, h3, e3, k3, l3⟩ => ⟨_, l3, S3, e, h3, e3, k3, rfl⟩, ?_⟩
        have eL : S1.cells.length = r.length + 1 := by rw [hS1]; rfl
        have hcel : H2 c = some (.lst (.int v :: r.map V.int)) := by have := h2.cel; rw [hS1] at this; exact this
        have h63 := h1.len
        -- pop(0), the store
        refine ⟨_, rfl, a, _, _, _, rfl, rfl, SqL.of h2.lst, rfl, .inl ⟨rfl, _, SqL.of hcel⟩, c, _, 0, 0, _, rfl, rfl, hcel, by decide, by decide, ?_, rfl, ?_⟩
        · show (if (decide (0 ≤ (0 : Int)) && decide ((0 : Int) < ((V.int v :: r.map V.int).length : Nat))) = true then some _ else none) = some 0
          simp
        have hlst2 : (upd H2 c (.lst (r.map V.int))) a = some (.lst [.ref c, .int S1.cur, .int S1.cnt, .int S1.mix]) := by rw [upd_ne h1.ne]; exact h2.lst
        refine ⟨_, rfl, a, _, 1, 1, rfl, rfl, hlst2, rfl, ?_⟩
        have k3 : Kept a c H (upd (upd H2 c (.lst (r.map V.int))) a (.lst [.ref c, .int v, .int S1.cnt, .int S1.mix])) := k2.updC.updA
        have h3l : (upd (upd H2 c (.lst (r.map V.int))) a (.lst [.ref c, .int v, .int S1.cnt, .int S1.mix])) a = some (.lst [.ref c, .int v, .int S1.cnt, .int S1.mix]) := upd_same
        have h3c : (upd (upd H2 c (.lst (r.map V.int))) a (.lst [.ref c, .int v, .int S1.cnt, .int S1.mix])) c = some (.lst (r.map V.int)) := by rw [upd_ne h1.ne.symm]; exact upd_same
        refine ⟨_, rfl, a, _, _, _, rfl, rfl, SqL.of h3l, rfl, _, _, rfl, rfl, ⟨by decide, by decide, by decide⟩, _, _, rfl, rfl, _, rfl, ?_⟩
        have hl : r.length ≤ 63 := by omega
        refine ite2 (fun c2 => ?_) (fun c2 => ?_)
        · refine ⟨_, rfl, a, _, _, _, rfl, rfl, SqL.of h3l, rfl, _, _, rfl, rfl, .inl ⟨by omega, by omega⟩, _, rfl, a, _, _, _, rfl, rfl, SqL.of h3l, rfl, _, _, rfl, rfl, _, _, rfl, rfl, .inl ⟨_, rfl, _, _, rfl, rfl, (by show (0 : Int) < 2147483647; decide), ?_⟩⟩
          refine ⟨_, rfl, a, _, 3, 3, rfl, rfl, h3l, rfl, ?_⟩
          refine ⟨_, rfl, a, _, 1, 1, rfl, rfl, upd_same, rfl, ?_⟩
          refine ⟨⟨r, 0, S1.cnt, (S1.mix * 31 + v + 7) % 2147483647⟩, rfl, ⟨upd_same, ?_, h1.ne, hl, Int.le_refl 0, l1, Int.emod_nonneg _ (by decide), Int.emod_lt_of_pos _ (by decide)⟩, ec, k3.updA.updA, by show r.length < _; omega⟩
          rw [upd_ne h1.ne.symm, upd_ne h1.ne.symm]
          exact h3c
        · have c2' : ¬ v < 10 ^ 18 := by simpa using c2
          refine ⟨⟨r, v, S1.cnt, S1.mix⟩, rfl, ⟨h3l, h3c, h1.ne, hl, by show 0 ≤ v; omega, l1, l2, l3⟩, ec, k3, by show r.length < _; omega⟩
    · exact ⟨S1, rfl, h1, ec, k1⟩
  · rintro σ H1 ⟨S1, rfl, h1, ec, k1⟩
    have l0 := h1.cur0
    have l1 := h1.cnt0
    have l2 := h1.mix0
    have l3 := h1.mix1
    refine ⟨_, rfl, a, _, _, _, rfl, rfl, SqL.of h1.lst, rfl, _, _, rfl, rfl, _, rfl, ?_⟩
    refine ite2 (fun c1 => ?_) (fun c1 => ?_)
    · have c1' : 0 < S1.cur := by simpa using c1
      refine ⟨_, rfl, a, _, _, _, rfl, rfl, SqL.of h1.lst, rfl, .inl ⟨_, rfl, _, rfl, _, _, rfl, rfl, hm0, ?_⟩⟩
      refine ⟨_, rfl, a, _, _, _, rfl, rfl, SqL.of h1.lst, rfl, _, rfl, _, _, rfl, rfl, ⟨by omega, by omega⟩, ?_⟩
      refine ⟨_, rfl, a, _, 1, 1, rfl, rfl, h1.lst, rfl, _, rfl, ?_⟩
      refine q _ ⟨S1.cells, S1.cur.fdiv m, S1.cnt, S1.mix⟩ _ ⟨upd_same, ?_, h1.ne, h1.len, ?_, l1, l2, l3⟩ (by show S1.cnt ≤ _; omega) k1.updA (Int.emod_nonneg _ (by omega)) (Int.emod_lt_of_pos _ hm0)
      · rw [upd_ne h1.ne.symm]; exact h1.cel
      · show 0 ≤ S1.cur.fdiv m
        rw [Int.fdiv_eq_ediv_of_nonneg _ (by omega)]
        exact Int.ediv_nonneg (by omega) (by omega)
    · refine ⟨_, rfl, a, _, _, _, rfl, rfl, SqL.of h1.lst, rfl, _, _, rfl, rfl, ?_⟩
      refine ⟨_, rfl, a, _, 2, 2, rfl, rfl, h1.lst, rfl, ?_⟩
      have h2l : (upd H1 a (.lst [.ref c, .int S1.cur, .int (S1.cnt + 1), .int S1.mix])) a = some (.lst [.ref c, .int S1.cur, .int (S1.cnt + 1), .int S1.mix]) := upd_same
      refine ⟨_, rfl, a, _, _, _, rfl, rfl, SqL.of h2l, rfl, _, rfl, a, _, _, _, rfl, rfl, SqL.of h2l, rfl, _, _, rfl, rfl, .inl ⟨by decide, by decide⟩, _, _, rfl, rfl, _, _, rfl, rfl, _, _, rfl, rfl, ⟨by decide, by decide, by show (S1.mix + 104729 * (S1.cnt + 1) + 17).natAbs < 2 ^ 64; omega⟩, .inl ⟨_, rfl, _, _, rfl, rfl, (by show (0 : Int) < 2147483629; decide), ?_⟩⟩
      obtain ⟨M, eM⟩ : ∃ M : Int, (S1.mix + 104729 * (S1.cnt + 1) + 17) ^ (5 : Int).toNat % 2147483629 = M := ⟨_, rfl⟩
      have m0 : 0 ≤ M := by rw [← eM]; exact Int.emod_nonneg _ (by decide)
      have m1 : M < 2147483629 := by rw [← eM]; exact Int.emod_lt_of_pos _ (by decide)
      refine ⟨_, rfl, _, _, rfl, rfl, .inl ⟨by rw [eM]; omega, by rw [eM]; omega⟩, _, rfl, a, _, _, _, rfl, rfl, SqL.of h2l, rfl, _, _, rfl, rfl, .inl ⟨by decide, by decide⟩, _, rfl, a, _, _, _, rfl, rfl, SqL.of h2l, rfl, _, _, rfl, rfl, .inl ⟨by omega, by omega⟩, _, _, rfl, rfl, _, _, rfl, rfl, _, _, rfl, rfl, ⟨by decide, by decide, ?_⟩, .inl ⟨_, rfl, _, _, rfl, rfl, (by show (0 : Int) < 1000000007; decide), ?_⟩⟩
      · have n1 : (S1.cnt + 1) * (S1.cnt + 1) ≤ 1000000 * 1000000 := Int.mul_le_mul (by omega) (by omega) (by omega) (by omega)
        have n2 : 0 ≤ (S1.cnt + 1) * (S1.cnt + 1) := Int.mul_nonneg (by omega) (by omega)
        have n3 : 40503 * (S1.cnt + 1) * (S1.cnt + 1) = 40503 * ((S1.cnt + 1) * (S1.cnt + 1)) := Int.mul_assoc _ _ _
        show ((S1.mix + 104729 * (S1.cnt + 1) + 17) ^ (5 : Int).toNat % 2147483629 * 48271 + 40503 * (S1.cnt + 1) * (S1.cnt + 1) + 13).natAbs < 2 ^ 64
        rw [n3, eM]
        omega
      refine ⟨_, rfl, .inl ⟨_, rfl, _, rfl, _, _, rfl, rfl, hm0, ?_⟩⟩
      refine q _ ⟨S1.cells, S1.cur, S1.cnt + 1, S1.mix⟩ _ ⟨h2l, ?_, h1.ne, h1.len, l0, by show 0 ≤ S1.cnt + 1; omega, l2, l3⟩ (by show S1.cnt + 1 ≤ _; omega) k1.updA (Int.emod_nonneg _ (by omega)) (Int.emod_lt_of_pos _ hm0)
      rw [upd_ne h1.ne.symm]; exact h1.cel
/-- _law_pick: an item of the list or tuple at l -/
def spPick (K : PySem.W.Frag) : Sp := fun vs H Q _ => ∃ (a c l : Addr) (S : Stm) (xs : List V), vs = [.ref a, .ref l] ∧ StmAt H a c S ∧ S.cnt < 1000000 ∧ H l = some (.lst xs) ∧ l ≠ a ∧ l ≠ c ∧ 0 < xs.length ∧ xs.length < 1000000 ∧
  ∀ (H' : Hp) (S' : Stm) (x : V), StmAt H' a c S' → S'.cnt ≤ S.cnt + 1 → Kept a c H H' → x ∈ xs → Q x H'
theorem ok_pick {f g : Addr} {fd gd : FuncData} (F : Fun K "_law_pick" "_law_pick" sPick f fd) (D : FnOk P w K mg base CX0 1 g gd ["_law_stream", "_law_many"] spDraw) (bD : Binds K gd ["_law_stream", "_law_many"] []) (kD : PySem.W.keepIn K (.ref g) = true) (mD : mg "_law_draw" = some (.ref g)) (ml : mg "len" = none) :
    FnOk P w K mg base CX0 2 f fd ["_law_stream", "_law_some"] (spPick K) := by
  refine F.ok scPick (fun vs H Q E h => ?_) (fun cdv A outer s H vs Q E hr h => ?_)
  · obtain ⟨a, c, l, S, xs, rfl, _⟩ := h
    rfl
  obtain ⟨a, c, l, S, xs, rfl, hS, hcnt, hl, la, lc, h0, h1, q⟩ := h
  refine ⟨_, pss_one (ps_ret (pe_ix ix_list (pv 1) (pe_call D hr rfl mD kD bD .nil pass0 (pa_cons (pv 0) (pa_cons (pe_callB call_len_seq rfl ml PySem.boot_len (pa_cons (pv 1) pa_nil)) pa_nil))) (fun _ _ => rfl))), ?_⟩
  refine ⟨_, rfl, _, rfl, _, rfl, l, _, rfl, .inl (SqL.of hl), a, c, S, _, rfl, hS, hcnt, by omega, by omega, fun H' S' r h' hc k hr0 hr1 => ?_⟩
  have hl' := k l _ la lc hl
  obtain ⟨j, rfl⟩ : ∃ j : Nat, r = (j : Int) := ⟨r.toNat, by omega⟩
  have hj : j < xs.length := by omega
  exact ⟨l, _, _, _, rfl, rfl, SqL.of hl', atI_nat (List.getElem?_eq_getElem hj), q H' S' _ h' hc k (List.getElem_mem hj)⟩
end
end K1

set_option maxHeartbeats 4000000
namespace K1
open PySem PySem.Spec PyProof.Rows L2
/-! ### data that the law has made -/
/-- v is the data d in H; its lists and tuples stand at addresses of N, none of which comes again below a list -/
inductive Dn (H : Hp) : (Addr → Prop) → V → PyData → Prop
  | non {N} : Dn H N .non .none
  | bl {N} (b : Bool) : Dn H N (.bl b) (.bool b)
  | int {N} (i : Int) : Dn H N (.int i) (.int i)
  | str {N} (x : Str) : Dn H N (.str x) (.str x)
  | lst {N N' : Addr → Prop} {a : Addr} {xs : List V} {ds : List PyData} : N a → (∀ b, N' b → N b ∧ b ≠ a) → H a = some (.lst xs) → xs.length = ds.length →
      (∀ (i : Nat) v d, xs[i]? = some v → ds[i]? = some d → Dn H N' v d) → Dn H N (.ref a) (.list ds)
  | tup {N N' : Addr → Prop} {a : Addr} {xs : List V} {ds : List PyData} : N a → (∀ b, N' b → N b) → H a = some (.tup xs) → xs.length = ds.length →
      (∀ (i : Nat) v d, xs[i]? = some v → ds[i]? = some d → Dn H N' v d) → Dn H N (.ref a) (.tuple ds)
/-- item by item -/
def DnL (H : Hp) (N : Addr → Prop) (xs : List V) (ds : List PyData) : Prop := xs.length = ds.length ∧ ∀ (i : Nat) v d, xs[i]? = some v → ds[i]? = some d → Dn H N v d
theorem Dn.mono {H : Hp} {N M : Addr → Prop} {v : V} {d : PyData} (h : Dn H N v d) (k : ∀ b, N b → M b) : Dn H M v d := by
  cases h with
  | non => exact .non
  | bl b => exact .bl b
  | int i => exact .int i
  | str x => exact .str x
  | lst h1 h2 h3 h4 h5 => exact .lst (k _ h1) (fun b hb => ⟨k _ (h2 b hb).1, (h2 b hb).2⟩) h3 h4 h5
  | tup h1 h2 h3 h4 h5 => exact .tup (k _ h1) (fun b hb => k _ (h2 b hb)) h3 h4 h5
theorem Dn.stay {H H' : Hp} {N : Addr → Prop} {v : V} {d : PyData} (h : Dn H N v d) : (∀ b o, N b → H b = some o → H' b = some o) → Dn H' N v d := by
  induction h with
  | non => intro _; exact .non
  | bl b => intro _; exact .bl b
  | int i => intro _; exact .int i
  | str x => intro _; exact .str x
  | lst h1 h2 h3 h4 _ ih => intro k; exact .lst h1 h2 (k _ _ h1 h3) h4 fun i v d e1 e2 => ih i v d e1 e2 fun b o hb => k b o (h2 b hb).1
  | tup h1 h2 h3 h4 _ ih => intro k; exact .tup h1 h2 (k _ _ h1 h3) h4 fun i v d e1 e2 => ih i v d e1 e2 fun b o hb => k b o (h2 b hb)
/-- its addresses are taken -/
theorem Dn.there {H : Hp} {N : Addr → Prop} {v : V} {d : PyData} (h : Dn H N v d) : Dn H (fun b => N b ∧ H b ≠ none) v d := by
  induction h with
  | non => exact .non
  | bl b => exact .bl b
  | int i => exact .int i
  | str x => exact .str x
  | lst h1 h2 h3 h4 _ ih => exact .lst ⟨h1, by rw [h3]; simp⟩ (fun b hb => ⟨⟨(h2 b hb.1).1, hb.2⟩, (h2 b hb.1).2⟩) h3 h4 ih
  | tup h1 h2 h3 h4 _ ih => exact .tup ⟨h1, by rw [h3]; simp⟩ (fun b hb => ⟨h2 b hb.1, hb.2⟩) h3 h4 ih
theorem dpAll_of {K : PySem.W.Frag} {H : Hp} : ∀ {xs : List V} {ds : List PyData}, xs.length = ds.length → (∀ (i : Nat) v d, xs[i]? = some v → ds[i]? = some d → Dp K H v d) → DpAll K H xs ds
  | [], [], _, _ => .nil
  | [], _ :: _, h, _ => by cases h
  | _ :: _, [], h, _ => by cases h
  | v :: xs, d :: ds, h, k => .cons (k 0 v d rfl rfl) (dpAll_of (Nat.succ.inj h) fun i v d e1 e2 => k (i + 1) v d e1 e2)
theorem Dn.dp {K : PySem.W.Frag} {H : Hp} {N : Addr → Prop} {v : V} {d : PyData} (h : Dn H N v d) : Dp K H v d := by
  induction h with
  | non => exact .non
  | bl b => exact .bl b
  | int i => exact .int i
  | str x => exact .str x
  | lst h1 h2 h3 h4 _ ih => exact .lst (SqL.of h3) (dpAll_of h4 ih)
  | tup h1 h2 h3 h4 _ ih => exact .tup (SqT.of h3) (dpAll_of h4 ih)
theorem DnL.stay {H H' : Hp} {N : Addr → Prop} {xs : List V} {ds : List PyData} (h : DnL H N xs ds) (k : ∀ b o, N b → H b = some o → H' b = some o) : DnL H' N xs ds := ⟨h.1, fun i v d e1 e2 => (h.2 i v d e1 e2).stay k⟩
theorem DnL.mono {H : Hp} {N M : Addr → Prop} {xs : List V} {ds : List PyData} (h : DnL H N xs ds) (k : ∀ b, N b → M b) : DnL H M xs ds := ⟨h.1, fun i v d e1 e2 => (h.2 i v d e1 e2).mono k⟩
theorem DnL.nil {H : Hp} {N : Addr → Prop} : DnL H N [] [] := ⟨rfl, fun i v d e => by simp at e⟩
theorem DnL.snoc {H : Hp} {N : Addr → Prop} {xs : List V} {ds : List PyData} {v : V} {d : PyData} (h : DnL H N xs ds) (k : Dn H N v d) : DnL H N (xs ++ [v]) (ds ++ [d]) := by
  refine ⟨by rw [List.length_append, List.length_append, h.1]; rfl, fun i u e h1 h2 => ?_⟩
  by_cases hi : i < xs.length
  · rw [List.getElem?_append_left hi] at h1
    rw [List.getElem?_append_left (by rw [← h.1]; exact hi)] at h2
    exact h.2 i u e h1 h2
  · have hl : i < (xs ++ [v]).length := (List.getElem?_eq_some_iff.mp h1).1
    rw [List.length_append, List.length_singleton] at hl
    have ei : i = xs.length := by omega
    subst ei
    rw [List.getElem?_append_right (Nat.le_refl _), Nat.sub_self] at h1
    rw [h.1, List.getElem?_append_right (Nat.le_refl _), Nat.sub_self] at h2
    cases h1; cases h2
    exact k
theorem DnL.cons {H : Hp} {N : Addr → Prop} {xs : List V} {ds : List PyData} {v : V} {d : PyData} (k : Dn H N v d) (h : DnL H N xs ds) : DnL H N (v :: xs) (d :: ds) := by
  refine ⟨by rw [List.length_cons, List.length_cons, h.1], fun i u e h1 h2 => ?_⟩
  cases i with
  | zero => cases h1; cases h2; exact k
  | succ i => exact h.2 i u e h1 h2
/-! ### how large it is -/
structure Nice (n k : Nat) (d : PyData) : Prop where
  ls : d.leavesShort 40 = true
  sh : d.showable = true
  nd : d.hasDict = false
  dp : d.depth ≤ k
  bk : d.bulk ≤ n
def NiceL (n k : Nat) (ds : List PyData) : Prop := ∀ d ∈ ds, Nice n k d
theorem NiceL.all {n k : Nat} : ∀ {ds : List PyData}, NiceL n k ds → PyData.leavesShortAll 40 ds = true ∧ PyData.showableAll ds = true ∧ PyData.hasDictAll ds = false ∧ PyData.depthAll ds ≤ k ∧ PyData.bulkAll ds ≤ ds.length * (n + 1)
  | [], _ => ⟨rfl, rfl, rfl, Nat.zero_le _, Nat.zero_le _⟩
  | d :: ds, h => by
    obtain ⟨h1, h2, h3, h4, h5⟩ := NiceL.all (ds := ds) fun x hx => h x (List.mem_cons_of_mem _ hx)
    obtain ⟨g1, g2, g3, g4, g5⟩ := h d List.mem_cons_self
    refine ⟨?_, ?_, ?_, ?_, ?_⟩
    · simp only [PyData.leavesShortAll, g1, h1, Bool.and_self]
    · simp only [PyData.showableAll, g2, h2, Bool.and_self]
    · simp only [PyData.hasDictAll, g3, h3, Bool.or_self]
    · simp only [PyData.depthAll]; omega
    · simp only [PyData.bulkAll, List.length_cons, Nat.add_mul, Nat.one_mul] at *; omega
theorem Nice.list {n k m : Nat} {ds : List PyData} (h : NiceL n k ds) (hm : ds.length * (n + 1) ≤ m) : Nice m (k + 1) (.list ds) := by
  obtain ⟨h1, h2, h3, h4, h5⟩ := h.all
  exact ⟨by simpa only [PyData.leavesShort] using h1, by simpa only [PyData.showable] using h2, by simpa only [PyData.hasDict] using h3, by simp only [PyData.depth]; omega, by simp only [PyData.bulk]; omega⟩
theorem Nice.tuple {n k m : Nat} {ds : List PyData} (h : NiceL n k ds) (hm : ds.length * (n + 1) ≤ m) : Nice m (k + 1) (.tuple ds) := by
  obtain ⟨h1, h2, h3, h4, h5⟩ := h.all
  exact ⟨by simpa only [PyData.leavesShort] using h1, by simpa only [PyData.showable] using h2, by simpa only [PyData.hasDict] using h3, by simp only [PyData.depth]; omega, by simp only [PyData.bulk]; omega⟩
theorem Nice.mono {n k m j : Nat} {d : PyData} (h : Nice n k d) (h1 : n ≤ m) (h2 : k ≤ j) : Nice m j d := ⟨h.ls, h.sh, h.nd, Nat.le_trans h.dp h2, Nat.le_trans h.bk h1⟩
theorem Nice.len {n k : Nat} {d : PyData} (h : Nice n k d) (hn : n ≤ 100000) : d.shown.length ≤ sizeLine := by
  have h1 := PyData.shown_le_bulk 40 (by decide) d h.ls
  have h2 := h.bk
  rw [sizeLine_eq]
  omega
end K1

set_option maxHeartbeats 4000000
namespace K1
open PySem PySem.Spec PyProof.Rows L2
abbrev sThing : Stmt := topS 16
abbrev nThing : List Str := ["_law_stream", "_law_deep", "_law_way", "_law_some", "_law_k"]
theorem scThing : FnScope nThing ["_law_stream", "_law_deep"] (defScope sThing) := ⟨rfl, rfl, rfl, by decide +kernel, rfl, by decide +kernel, by decide +kernel⟩
def cost : Nat → Nat
  | 0 => 3
  | k + 1 => 3 + 3 * cost k
def bulkOf : Nat → Nat
  | 0 => 6
  | k + 1 => 3 * (bulkOf k + 1)
theorem bulkOf_ge : ∀ k, 6 ≤ bulkOf k
  | 0 => Nat.le_refl _
  | k + 1 => by have := bulkOf_ge k; simp only [bulkOf]; omega
theorem cost_ge : ∀ k, 3 ≤ cost k
  | 0 => Nat.le_refl _
  | k + 1 => by simp only [cost]; omega
/-- free before, taken since -/
def New (H H' : Hp) (b : Addr) : Prop := H b = none ∧ H' b ≠ none
theorem Kept.free {a c : Addr} {H H1 : Hp} (k : Kept a c H H1) (ha : H1 a ≠ none) (hc : H1 c ≠ none) {b : Addr} (h : H1 b = none) : H b = none := by
  cases e : H b with
  | none => rfl
  | some o =>
    have na : b ≠ a := fun z => ha (z ▸ h)
    have nc : b ≠ c := fun z => hc (z ▸ h)
    rw [k b o na nc e] at h
    cases h
theorem StmAt.a0 {H : Hp} {a c : Addr} {S : Stm} (h : StmAt H a c S) : H a ≠ none := by rw [h.lst]; simp
theorem StmAt.c0 {H : Hp} {a c : Addr} {S : Stm} (h : StmAt H a c S) : H c ≠ none := by rw [h.cel]; simp
theorem StmAt.keep {H H' : Hp} {a c : Addr} {S : Stm} (h : StmAt H a c S) (k : Same H H') : StmAt H' a c S := ⟨k _ _ h.lst, k _ _ h.cel, h.ne, h.len, h.cur0, h.cnt0, h.mix0, h.mix1⟩
theorem same_new {H : Hp} {p : Addr} {o : HO} (h : H p = none) : Same H (upd H p o) := fun b u e => by rw [upd_ne (ne_of_none e h)]; exact e
/-- a thing of the depth k, k below n -/
def spThing (n : Nat) : Sp := fun vs H Q _ => ∃ (a c : Addr) (S : Stm) (k : Nat), vs = [.ref a, .int (k : Int)] ∧ k + 1 ≤ n ∧ k ≤ 100 ∧ StmAt H a c S ∧ S.cnt + (cost k : Nat) < 1000000 ∧
  ∀ (H' : Hp) (S' : Stm) (v : V) (d : PyData), StmAt H' a c S' → S'.cnt ≤ S.cnt + (cost k : Nat) → Kept a c H H' → Dn H' (New H H') v d → Nice (bulkOf k) (k + 1) d → Q v H'
/-- what _law_pick is handed: the data of each item -/
def picks (t : Addr) : List (V × PyData) := [(.non, .none), (.bl true, .bool true), (.bl false, .bool false), (.int 0, .int 0), (.int 1, .int 1), (.int (-7), .int (-7)), (.int (10 ^ (29 : Int).toNat), .int (10 ^ (29 : Int).toNat)),
  (.str "", .str ""), (.str "Name", .str "Name"), (.str "a b", .str "a b"), (.str "body", .str "body"), (.ref t, .tuple [.str "elts", .int 2]), (.str "x", .str "x")]
def chk (d : PyData) : Bool := d.leavesShort 40 && d.showable && !d.hasDict && decide (d.depth ≤ 1) && decide (d.bulk ≤ 6)
theorem chk_ok {d : PyData} (h : chk d = true) : Nice 6 1 d := by
  unfold chk at h
  simp only [Bool.and_eq_true, decide_eq_true_eq, Bool.not_eq_true'] at h
  exact ⟨h.1.1.1.1, h.1.1.1.2, h.1.1.2, h.1.2, h.2⟩
theorem chk_all : ((picks 0).map (·.2)).all chk = true := by decide +kernel
theorem picks_nice (t : Addr) : ∀ p ∈ picks t, Nice 6 1 p.2 := by
  intro p hp
  have e : (picks t).map (·.2) = (picks 0).map (·.2) := rfl
  exact chk_ok (List.all_eq_true.mp chk_all p.2 (e ▸ List.mem_map_of_mem hp))
theorem picks_dn {H : Hp} {N : Addr → Prop} {t : Addr} (hN : N t) (ht : H t = some (.tup [.str "elts", .int 2])) : ∀ p ∈ picks t, Dn H N p.1 p.2 := by
  intro p hp
  have hp2 := hp
  simp only [picks, List.mem_cons, List.not_mem_nil, or_false] at hp2
  rcases hp2 with rfl | rfl | rfl | rfl | rfl | rfl | rfl | rfl | rfl | rfl | rfl | rfl | rfl
  · exact .non
  · exact .bl _
  · exact .bl _
  · exact .int _
  · exact .int _
  · exact .int _
  · exact .int _
  · exact .str _
  · exact .str _
  · exact .str _
  · exact .str _
  · refine .tup (N' := N) hN (fun _ h => h) ht rfl (DnL.cons (.str _) (DnL.cons (.int _) DnL.nil)).2
  · exact .str _
section
variable {P : Program} {w : World} {K : PySem.W.Frag} {mg : Str → Option Value} {base : Heap}
theorem none_left {f : Addr} {fd : FuncData} {k : Nat} : FnOk P w K mg base CX0 k f fd ["_law_stream", "_law_deep"] (spThing 0) := by
  have no : ∀ vs H Q E, ¬ spThing 0 vs H Q E := fun vs H Q E h => by
    obtain ⟨a, c, S, k, _, h1, _⟩ := h
    omega
  exact ⟨fun vs H Q E h => absurd h (no vs H Q E), fun A outer s H args us vs Q E _ _ _ _ h => absurd h (no vs H Q E)⟩
theorem ok_thing {f fD fP : Addr} {fd fdD fdP : FuncData} (F : Fun K "_law_thing" "_law_thing" sThing f fd) (bF : Binds K fd ["_law_stream", "_law_deep"] []) (mF : mg "_law_thing" = some (.ref f))
    (D : FnOk P w K mg base CX0 1 fD fdD ["_law_stream", "_law_many"] spDraw) (bD : Binds K fdD ["_law_stream", "_law_many"] []) (kD : PySem.W.keepIn K (.ref fD) = true) (mD : mg "_law_draw" = some (.ref fD))
    (G : FnOk P w K mg base CX0 2 fP fdP ["_law_stream", "_law_some"] (spPick K)) (bP : Binds K fdP ["_law_stream", "_law_some"] []) (kP : PySem.W.keepIn K (.ref fP) = true) (mP : mg "_law_pick" = some (.ref fP))
    (mr : mg "range" = none) (mt : mg "tuple" = none) {n : Nat} (ih : FnOk P w K mg base CX0 (n + 2) f fd ["_law_stream", "_law_deep"] (spThing n)) :
    FnOk P w K mg base CX0 (n + 3) f fd ["_law_stream", "_law_deep"] (spThing (n + 1)) := by
  refine F.ok scThing (fun vs H Q E h => ?_) (fun cdv A outer s H vs Q E hr h => ?_)
  · obtain ⟨a, c, S, k, rfl, _⟩ := h
    rfl
  obtain ⟨a, c, S, k, rfl, hk, hk1, hS, hcnt, q⟩ := h
  have hr1 : Room 1 _ := hr.mono (by omega)
  have hr2 : Room 2 _ := hr.mono (by omega)
  refine ⟨_, pss_cons (ps_set (i := 2) scThing.nd rfl (.inl rfl) (pe_call D hr1 rfl mD kD bD .nil pass0 (pa_cons (pv 0) (pa_cons pe_int pa_nil))))
    (C8.pss_cut (ps_if (PW.pt (pw_and (pt_cmpR op_lt (pv 2) pe_int (nomark _)) (pw_and1 (pt_cmpR op_gt (pv 1) pe_int (nomark _)))))
      (pss_cons (ps_setLc (i := 3) (own := [("_law_k", 4)]) (g := gName 4) (tt := tYes) rfl scThing.nd rfl rfl (sw_true rfl rfl rfl (by decide +kernel)) (pi_range1 rfl mr (pa_cons (pe_call D hr1 rfl mD kD bD .nil pass0 (pa_cons (pv 0) (pa_cons pe_int pa_nil))) pa_nil))
        (blkOk_by (own := [("_law_k", 4)]) (N := nThing) (sc := defScope sThing) (by decide +kernel)) (fun _ _ _ _ _ => pg_name (i := 4) scThing.nd rfl (.inl rfl)) (fun _ _ _ _ _ => pts_nil)
        (fun _ _ _ _ _ => pe_call ih hr rfl mF F.kp bF .nil pass0 (pa_cons (pv 0) (pa_cons (pe_op op_sub (pv 1) pe_int) pa_nil))))
      (pss_one (ps_ret (pe_ifExp (pt_cmpR op_eq (pv 2) pe_int (nomark _)) (pv 3) (pe_callTy call_tuple_of (by rfl) mt (by decide +kernel) (pa_cons (pv 3) pa_nil)))))) pss_nil)
    (pss_one (ps_ret (pe_call G hr2 rfl mP kP bP .nil pass0 (pa_cons (pv 0) (pa_cons (pe_lst (pa_cons pe_non (pa_cons pe_bl (pa_cons pe_bl (pa_cons pe_int (pa_cons pe_int (pa_cons (pe_un un_neg pe_int) (pa_cons (pe_op op_pow pe_int pe_int)
      (pa_cons pe_str (pa_cons pe_str (pa_cons pe_str (pa_cons pe_str (pa_cons (pe_tup (pa_cons pe_str (pa_cons pe_int pa_nil))) (pa_cons pe_str pa_nil)))))))))))))) pa_nil)))))), ?_⟩
  refine ⟨_, rfl, a, c, S, 9, rfl, hS, by have := cost_ge k; omega, by decide, by decide, fun H1 S1 r h1 hc1 k1 r0 r1 => ?_⟩
  have ck := cost_ge k
  have hM : a ≠ c := hS.ne
  refine ⟨fun σ H2 => σ = [some (.ref a), some (.int (k : Int)), some (.int r), none, none] ∧ H2 = H1, ?_, ?_⟩
  · refine ⟨_, rfl, _, _, rfl, rfl, _, rfl, ?_⟩
    refine ite2 (fun c1 => ?_) (fun c1 => ⟨rfl, rfl⟩)
    refine ⟨_, rfl, _, _, rfl, rfl, _, rfl, ?_⟩
    refine ite2 (fun c2 => ?_) (fun c2 => ⟨rfl, rfl⟩)
    have hk0 : 0 < k := by
      have z : (k : Int) > 0 := of_decide_eq_true c2
      omega
    obtain ⟨j, rfl⟩ : ∃ j, k = j + 1 := ⟨k - 1, by omega⟩
    have cj := cost_ge j
    have hcost : cost (j + 1) = 3 + 3 * cost j := rfl
    refine ⟨_, rfl, a, c, S1, 4, rfl, h1, by omega, by decide, by decide, fun H2 S2 m h2 hc2 k2 m0 m1 => ?_⟩
    refine ⟨m, rfl, by omega, by omega, fun D nD => ?_⟩
    have k12 : Kept a c H H2 := k1.trans k2
    have Da : D ≠ a := fun z => h2.a0 (z ▸ nD)
    have Dc : D ≠ c := fun z => h2.c0 (z ▸ nD)
    refine lc_range (lo := 0) (n := m.toNat) (fun i H3 => ∃ (S3 : Stm) (xs : List V) (ds : List PyData), StmAt H3 a c S3 ∧ S3.cnt ≤ S2.cnt + ((i * cost j : Nat) : Int) ∧ Kept a c H2 H3 ∧ H3 D = some (.lst xs) ∧ xs.length = i ∧
        DnL H3 (fun b => New H H3 b ∧ b ≠ D) xs ds ∧ NiceL (bulkOf j) (j + 1) ds) ?_ ?_ ?_
    · refine ⟨S2, [], [], h2.keep (same_new nD), by simp, Kept.same (same_new nD), upd_same, rfl, DnL.nil, fun d hd => by simp at hd⟩
    · rintro i H3 hi ⟨S3, xs, ds, h3, hc3, k3, hD, hl, dn, ni⟩
      have hi3 : (i + 1) * cost j ≤ 3 * cost j := Nat.mul_le_mul_right _ (by omega)
      have hi1 : (i + 1) * cost j = i * cost j + cost j := Nat.succ_mul _ _
      refine ⟨rfl, ?_⟩
      unfold tYes
      refine iteT ?_
      refine ⟨_, rfl, _, rfl, _, _, rfl, rfl, a, c, S3, j, ?_, by omega, by omega, h3, by omega, fun H4 S4 v d h4 hc4 k4 dn4 ni4 => ?_⟩
      · have e : ((j + 1 : Nat) : Int) - 1 = (j : Int) := by omega
        show [V.ref a, V.int (((j + 1 : Nat) : Int) - 1)] = [V.ref a, V.int (j : Int)]
        rw [e]
      have hD4 : H4 D = some (.lst xs) := k4 _ _ Da Dc hD
      have kU : Kept a c H H3 := k12.trans k3
      refine ⟨xs, hD4, Nat.lt_of_le_of_lt (by omega : xs.length ≤ 3) (by decide), ?_⟩
      have s5 : ∀ b o, b ≠ D → H4 b = some o → (upd H4 D (.lst (xs ++ [v]))) b = some o := fun b o nb e => by rw [upd_ne nb]; exact e
      refine ⟨S4, xs ++ [v], ds ++ [d], ⟨s5 _ _ (Ne.symm Da) h4.lst, s5 _ _ (Ne.symm Dc) h4.cel, h4.ne, h4.len, h4.cur0, h4.cnt0, h4.mix0, h4.mix1⟩, by omega, ?_, upd_same, by rw [List.length_append, hl]; rfl, ?_, ?_⟩
      · intro b o n1 n2 e
        exact s5 _ _ (ne_of_none e nD) (k4 _ _ n1 n2 (k3 _ _ n1 n2 e))
      · have up : ∀ b, (upd H4 D (.lst (xs ++ [v]))) b ≠ none ↔ H4 b ≠ none := fun b => by
          by_cases e : b = D
          · rw [e, upd_same, hD4]; simp
          · rw [upd_ne e]
        refine DnL.snoc (((dn.stay fun b o hb e => k4 b o (fun z => hS.a0 (z ▸ hb.1.1)) (fun z => hS.c0 (z ▸ hb.1.1)) e).stay fun b o hb e => s5 b o hb.2 e).mono fun b hb => ⟨⟨hb.1.1, ?_⟩, hb.2⟩)
          ((dn4.stay fun b o hb e => s5 b o (fun z => by exact absurd (hD.symm.trans (z ▸ hb.1)) (by simp)) e).mono fun b hb => ⟨⟨kU.free h3.a0 h3.c0 hb.1, (up b).mpr hb.2⟩, fun z => by exact absurd (hD.symm.trans (z ▸ hb.1)) (by simp)⟩)
        obtain ⟨o, e⟩ := Option.ne_none_iff_exists'.mp hb.1.2
        refine (up b).mpr ?_
        rw [k4 b o (fun z => hS.a0 (z ▸ hb.1.1)) (fun z => hS.c0 (z ▸ hb.1.1)) e]
        simp
      · intro x hx
        rcases List.mem_append.mp hx with hx | hx
        · exact ni x hx
        · rw [List.mem_singleton.mp hx]; exact ni4
    · rintro H3 ⟨S3, xs, ds, h3, hc3, k3, hD, hl, dn, ni⟩
      have kU : Kept a c H H3 := k12.trans k3
      have hi3 : m.toNat * cost j ≤ 3 * cost j := Nat.mul_le_mul_right _ (by omega)
      have hcn : S3.cnt ≤ S.cnt + ((cost (j + 1) : Nat) : Int) := by rw [hcost]; omega
      have hlen : ds.length * (bulkOf j + 1) ≤ bulkOf (j + 1) := Nat.mul_le_mul_right _ (by rw [← dn.1]; omega)
      have nDH : H D = none := k12.free h2.a0 h2.c0 nD
      refine ⟨_, rfl, rfl, _, rfl, ?_⟩
      refine ite2 (fun c3 => ?_) (fun c3 => ?_)
      · refine ⟨_, rfl, q H3 S3 (.ref D) (.list ds) h3 hcn kU ?_ (Nice.list ni hlen)⟩
        exact .lst (N' := fun b => New H H3 b ∧ b ≠ D) ⟨nDH, by rw [hD]; simp⟩ (fun b hb => hb) hD dn.1 dn.2
      · refine ⟨_, rfl, D, _, rfl, .inl ⟨SqL.of hD, fun t nt => q _ S3 (.ref t) (.tuple ds) (h3.keep (same_new nt)) hcn (kU.trans (Kept.same (same_new nt))) ?_ (Nice.tuple ni hlen)⟩⟩
        have dn' := (dn.stay (H' := upd H3 t (.tup xs)) fun b o hb e => same_new nt b o e).mono (M := New H (upd H3 t (.tup xs))) fun b hb => ⟨hb.1.1, fun z => by
          by_cases e : b = t
          · rw [e, upd_same] at z; cases z
          · rw [upd_ne e] at z; exact hb.1.2 z⟩
        exact .tup (N' := New H (upd H3 t (.tup xs))) ⟨kU.free h3.a0 h3.c0 nt, by rw [upd_same]; simp⟩ (fun b hb => hb) upd_same dn'.1 dn'.2
  · rintro σ H2 ⟨rfl, rfl⟩
    refine ⟨_, rfl, _, rfl, _, _, rfl, rfl, ⟨by decide, by decide, by decide⟩, by show 2 ≤ sizeLine; decide, fun t nt => ?_⟩
    refine ⟨by show 13 ≤ sizeLine; decide, fun l nl => ?_⟩
    have s1 : Same H2 (upd H2 t (.tup [.str "elts", .int 2])) := same_new nt
    have s2 : Same H2 (upd (upd H2 t (.tup [.str "elts", .int 2])) l (.lst ((picks t).map (·.1)))) := s1.trans (same_new nl)
    have la : l ≠ a := fun z => (h1.keep s1).a0 (z ▸ nl)
    have lc : l ≠ c := fun z => (h1.keep s1).c0 (z ▸ nl)
    have ta : t ≠ a := fun z => h1.a0 (z ▸ nt)
    have tc : t ≠ c := fun z => h1.c0 (z ▸ nt)
    have tl : t ≠ l := fun z => by rw [← z, upd_same] at nl; cases nl
    refine ⟨a, c, l, S1, (picks t).map (·.1), rfl, h1.keep s2, by omega, upd_same, la, lc, by show 0 < 13; decide, by show 13 < 1000000; decide, fun H3 S3 x h3 hc3 k3 hx => ?_⟩
    obtain ⟨p, hp, rfl⟩ := List.mem_map.mp hx
    have ht3 : H3 t = some (.tup [.str "elts", .int 2]) := k3 _ _ ta tc (by rw [upd_ne tl]; exact upd_same)
    refine q H3 S3 p.1 p.2 h3 (by omega) (k1.trans ((Kept.same s2).trans k3)) (picks_dn ⟨k1.free h1.a0 h1.c0 nt, by rw [ht3]; simp⟩ ht3 p hp) ((picks_nice t p hp).mono (bulkOf_ge k) (by omega))
/-- the things, by the number of calls one in another -/
theorem things {f fD fP : Addr} {fd fdD fdP : FuncData} (F : Fun K "_law_thing" "_law_thing" sThing f fd) (bF : Binds K fd ["_law_stream", "_law_deep"] []) (mF : mg "_law_thing" = some (.ref f))
    (D : FnOk P w K mg base CX0 1 fD fdD ["_law_stream", "_law_many"] spDraw) (bD : Binds K fdD ["_law_stream", "_law_many"] []) (kD : PySem.W.keepIn K (.ref fD) = true) (mD : mg "_law_draw" = some (.ref fD))
    (G : FnOk P w K mg base CX0 2 fP fdP ["_law_stream", "_law_some"] (spPick K)) (bP : Binds K fdP ["_law_stream", "_law_some"] []) (kP : PySem.W.keepIn K (.ref fP) = true) (mP : mg "_law_pick" = some (.ref fP))
    (mr : mg "range" = none) (mt : mg "tuple" = none) : ∀ n : Nat, FnOk P w K mg base CX0 (n + 2) f fd ["_law_stream", "_law_deep"] (spThing n)
  | 0 => none_left
  | n + 1 => ok_thing F bF mF D bD kD mD G bP kP mP mr mt (things F bF mF D bD kD mD G bP kP mP mr mt n)
end
end K1

set_option maxHeartbeats 4000000
namespace K1X
open PySem PySem.W PySem.Calls PyProof.Rows PySem.HandSPX
section
variable {prog : Program} {w : World} {M : Model} {A : Around} {E : Value → Shared → Prop} {R : Result → Shared → Prop} {h : Heap} {g : Array GenState} {d : Drawn} {t : Nat} {os : OsState}
variable {nm q : Str} {C N : Addr} {bs bm bmB : List Value} {hdct : Bool} {sn : List Str} {sub : List Value} {ab : Bool} {col : Option Bool} {dd : Option Addr} {k0 k1 k2 k3 k5 : Option Value} {B newId initId : String}
/-- the look ahead of the maker -/
theorem kw_check_new (F : ExcBaseFacts B newId initId bmB) (hT : ∀ X : String, bm.contains (.type X) = bmB.contains (.type X)) (kw : List (Str × Value)) {Q : Unit → Shared → Prop}
    (hC : h.get? C = some (excClassObj nm q C N bs bm hdct sn sub ab col dd k0 k1 k2 k3 k5 newId)) (hq : Q () ⟨h, g, d, t, os⟩) :
    wpAny M A (checkBuiltinCall newId ⟨[.ref C], kw⟩) Q E ⟨h, g, d, t, os⟩ := by
  have inB : (Value.ref C :: bm).contains (.type B) = true := by
    rw [List.contains_cons, hT, F.hasB]; exact Bool.or_true _
  have star := F.noStar
  simp only [checkBuiltinCall, F.newKind, F.newSplit, F.newRow]
  repeat (first | with_reducible refine wpAny_loadPart_at hC ?_ | (with_reducible refine wpAny_isSubtype_exc hC ?_; rw [inB]) | with_reducible refine wpAny_staticBase_exc hC ?_ | with_reducible refine wpAny_madeBy_exc hC ?_ | simp only [bne_self_eq_false, Bool.false_eq_true, if_false] | wp_step)
  exact hq
/-- the maker itself -/
theorem kw_new (F : ExcBaseFacts B newId initId bmB) (hT : ∀ X : String, bm.contains (.type X) = bmB.contains (.type X)) (kw : List (Str × Value))
    (hC : h.get? C = some (excClassObj nm q C N bs bm hdct sn sub ab col dd k0 k1 k2 k3 k5 newId))
    (hq : R (.ok (.ret (.ref (h.objs.size + 1)))) ⟨(h.push (kdv_tup [])).push (excO C h.objs.size), g, d, t, os⟩) :
    codeAny (model prog w) A (.builtin newId ⟨[.ref C], kw⟩) R ⟨h, g, d, t, os⟩ := by
  have ends := F.ends
  have inB : (Value.ref C :: bm).contains (.type B) = true := by
    rw [List.contains_cons, hT, F.hasB]; exact Bool.or_true _
  have inA : (Value.ref C :: bm).contains (.type "AttributeError") = false := by
    rw [List.contains_cons, hT, F.noAttr]; rfl
  have inN : (Value.ref C :: bm).contains (.type "NameError") = false := by
    rw [List.contains_cons, hT, F.noName]; rfl
  refine codeAny_builtinAt F.entry ?_
  unfold Builtin.«BaseException.__new__»
  refine PySem.wpAt_bind ?_
  show PySem.wpAt _ _ _ (stack >>= _) _ _ _
  refine PySem.wpAt_bind (PySem.wpAt_stack fun p below => PySem.wpAt_of_wpAny ?_)
  wp_walk
  refine PySem.wpAt_of_wpAny ?_
  rw [F.owner]
  repeat (first | with_reducible refine wpAny_loadPart_at hC ?_ | with_reducible refine wpAny_madeHere_exc F.canon hC ?_ | (with_reducible refine wpAny_isSubtype_exc hC ?_; first | rw [inA] | rw [inN] | rw [inB]) | wp_step)
  show R _ _
  rw [Heap.size_push]
  exact hq
/-- type.__call__ on such a class, keywords alone -/
theorem kw_type_call (F : ExcBaseFacts B newId initId bmB) (hT : ∀ X : String, bm.contains (.type X) = bmB.contains (.type X)) (kw : List (Str × Value)) {fI : Addr} {Q : Fin → Shared → Prop}
    (hC : h.get? C = some (excClassObj nm q C N bs bm hdct sn sub ab col dd k0 k1 k2 k3 k5 newId))
    (hi : Looks (model prog w) h (typeLookup (.ref C) "__init__") (some (.ref fI))) (hb : ∀ self, Looks (model prog w) h (bindSpecial (.ref fI) self) (.ref fI, [self]))
    (hq : codeAny (model prog w) A (.call (.ref fI) ⟨[.ref (h.objs.size + 1)], kw⟩)
      (fun r s' => match r with | .ok (.ret v) => v = .none ∧ Q (.done (.ret (.ref (h.objs.size + 1)))) s' | .ok _ => False | .error e => E e s') ⟨(h.push (kdv_tup [])).push (excO C h.objs.size), g, d, t, os⟩) :
    wpAny (model prog w) A (Builtin.«type.__call__» ⟨[.ref C], kw⟩) Q E ⟨h, g, d, t, os⟩ := by
  repeat (first | with_reducible refine wpAny_madeBy_exc hC ?_ | with_reducible refine wpAny_loadPart_at hC ?_ | wp_step)
  refine codeAny_call_builtin_code (Code.quiet_builtin _ F.quiet) (kw_check_new F hT kw hC (kw_new F hT kw hC ?_))
  show wpAny _ _ _ _ _ _
  have kp : ∀ b o, h.get? b = some o → ((h.push (kdv_tup [])).push (excO C h.objs.size)).get? b = some o := fun b o e => Heap.get?_push_of_some _ (Heap.get?_push_of_some _ e)
  have hC1 := kp _ _ hC
  have at1 : ((h.push (kdv_tup [])).push (excO C h.objs.size)).get? (h.objs.size + 1) = some (excO C h.objs.size) := by heap_get
  have inC : (Value.ref C :: bm).contains (.ref C) = true := by simp
  have hi1 := hi.keeps kp
  have hb1 := (hb (.ref (h.objs.size + 1))).keeps kp
  unfold isInstance
  repeat (first | (with_reducible refine wpAny_isSubtype_exc hC1 ?_; rw [inC]) | with_reducible refine wpAny_loadPart_at at1 ?_ | wp_step)
  show wpAny _ _ (typeLookup (.ref C) _) _ _ _
  refine hi1.at (wpAny_holding (wpAny_bind (hb1.at (wpAny_bind (wpAny_call (codeAny_mono hq fun r s' z => ?_))))))
  cases r with
  | error e => exact z
  | ok fl =>
    cases fl with
    | next => exact z.elim
    | brk => exact z.elim
    | cont => exact z.elim
    | ret v =>
      obtain ⟨rfl, z⟩ := z
      first
        | exact wpAny_pure (wpAny_pure z)
        | (wp_walk; exact z)
/-- the look ahead of type.__call__ -/
theorem kw_check_call (kw : List (Str × Value)) {Q : Unit → Shared → Prop} (hC : h.get? C = some (excClassObj nm q C N bs bm hdct sn sub ab col dd k0 k1 k2 k3 k5 newId))
    (hq : Q () ⟨h, g, d, t, os⟩) : wpAny M A (checkBuiltinCall "type.__call__" ⟨[.ref C], kw⟩) Q E ⟨h, g, d, t, os⟩ := by
  have f3 := tc_sub
  have isT : (⟨h, g, d, t, os⟩ : Shared).TypeIs (.ref C) "type" := ⟨_, hC, rfl⟩
  simp only [checkBuiltinCall, tc_kind, tc_split]
  repeat (any_goals (first | assumption | with_reducible refine wpAny_onRaise ?_ | with_reducible refine wpAny_map ?_ | with_reducible refine wpAny_loadPart_at hC ?_ | wp_step))
/-- C(k = v, ..) -/
theorem kw_call (F : ExcBaseFacts B newId initId bmB) (hT : ∀ X : String, bm.contains (.type X) = bmB.contains (.type X)) (kw : List (Str × Value)) {fI : Addr}
    (hC : h.get? C = some (excClassObj nm q C N bs bm hdct sn sub ab col dd k0 k1 k2 k3 k5 newId))
    (hi : Looks (model prog w) h (typeLookup (.ref C) "__init__") (some (.ref fI))) (hb : ∀ self, Looks (model prog w) h (bindSpecial (.ref fI) self) (.ref fI, [self]))
    (hq : codeAny (model prog w) (A.under (.builtin "type.__call__" ⟨[.ref C], kw⟩)) (.call (.ref fI) ⟨[.ref (h.objs.size + 1)], kw⟩) (InitBack (h.objs.size + 1) R) ⟨(h.push (kdv_tup [])).push (excO C h.objs.size), g, d, t, os⟩) :
    codeAny (model prog w) A (.call (.ref C) ⟨[], kw⟩) R ⟨h, g, d, t, os⟩ := by
  have f1 := tc_lookup
  have f2 := tc_bind (.ref C)
  have isT : (⟨h, g, d, t, os⟩ : Shared).TypeIs (.ref C) "type" := ⟨_, hC, rfl⟩
  refine codeAny_of_tree ?_
  show wpAny _ _ (callAny (.ref C) _) _ _ _
  repeat (any_goals (first | assumption | with_reducible refine wpAny_loadPart_at hC ?_ | wp_step))
  refine ⟨rfl, codeAny_call_builtin_at (Code.quiet_builtin _ (by decide +kernel)) entry_typeCall (kw_check_call kw hC (kw_type_call F hT kw hC hi hb (codeAny_mono hq fun r s' z => ?_)))⟩
  cases r with
  | error e => exact z
  | ok fl => cases fl <;> exact z
end
end K1X

set_option maxHeartbeats 4000000
namespace K1
open PySem PySem.Spec PyProof.Rows L2
/-- all that the written part says of an own class of errors at C, over the class at T over ValueError -/
structure Err (K : PySem.W.Frag) (T C : Addr) : Prop where
  look : ∃ nm q N bs sn sub ab col dd k0 k1 k2 k3 k5, K.lookup C = some (excClassObj nm q C N bs [.ref T, .type "ValueError", .type "Exception", .type "BaseException", .type "object"] true sn sub ab col dd k0 k1 k2 k3 k5 "ValueError.__new__")
  sa : PySem.W.findIn K (.ref C) "__setattr__" = some (some (.builtin "object.__setattr__"))
  ga : PySem.W.findIn K (.ref C) "__getattribute__" = some (some (.builtin "BaseException.__getattribute__"))
  gg : PySem.W.findIn K (.ref C) "__getattr__" = some none
  cl : PySem.W.findIn K (.ref C) "__class__" = some (some (.builtin "object.__class__"))
  kC : PySem.W.keepIn K (.ref C) = true
/-- what holds of the machine's own objects -/
structure Mach (K : PySem.W.Frag) : Prop where
  sp : PySem.W.specialIn K (.builtin "object.__class__") "__get__" = some (some (.builtin "getset_descriptor.__get__"))
  tk : PySem.W.takesIn K (.builtin "object.__class__") = some true
abbrev errTail (T : Addr) : List Value := [.ref T, .type "ValueError", .type "Exception", .type "BaseException", .type "object"]
section
variable {K : PySem.W.Frag} {T C : Addr}
theorem Err.mro (h : Err K T C) (base : Value) : PySem.W.subIn K (.ref C) base = some ((Value.ref C :: errTail T).contains base) := by
  obtain ⟨nm, q, N, bs, sn, sub, ab, col, dd, k0, k1, k2, k3, k5, hC⟩ := h.look
  show PySem.W.mroIn K C base = _
  unfold PySem.W.mroIn PySem.W.clsIn
  rw [hC]
  rfl
theorem Err.cls (h : Err K T C) : (PySem.W.clsIn K C).isSome = true := by
  obtain ⟨nm, q, N, bs, sn, sub, ab, col, dd, k0, k1, k2, k3, k5, hC⟩ := h.look
  unfold PySem.W.clsIn
  rw [hC]
  rfl
theorem Err.ty (h : Err K T C) : PySem.W.typeIn K (.ref C) = some (.type "type") := by
  obtain ⟨nm, q, N, bs, sn, sub, ab, col, dd, k0, k1, k2, k3, k5, hC⟩ := h.look
  show (K.lookup C).map (·.cls) = _
  rw [hC]
  rfl
theorem Err.hd (h : Err K T C) : PySem.W.hasDictIn K C = true := by
  obtain ⟨nm, q, N, bs, sn, sub, ab, col, dd, k0, k1, k2, k3, k5, hC⟩ := h.look
  unfold PySem.W.hasDictIn PySem.W.clsIn
  rw [hC]
  rfl
theorem Err.ex (h : Err K T C) : PySem.W.subIn K (.ref C) (.type "BaseException") = some true := by
  rw [h.mro]; congr 1
theorem Err.ob (h : Err K T C) : PySem.W.mroIn K C (.type "object") = some true := by
  have q := h.mro (.type "object")
  have e : (Value.ref C :: errTail T).contains (.type "object") = true := by simp
  rw [e] at q
  exact q
theorem Err.oex (h : Err K T C) : OexC K C := by
  obtain ⟨nm, q, N, bs, sn, sub, ab, col, dd, k0, k1, k2, k3, k5, hC⟩ := h.look
  exact ⟨⟨nm, q, N, bs, _, sn, sub, ab, col, dd, k0, k1, k2, k3, k5, hC, by first | rfl | (simp [PySem.HandSPX.refsVE])⟩, h.sa, h.ex, h.ty, h.kC⟩
/-- is such an error one of that class -/
theorem Err.one {D : Addr} (h : Err K T C) (hD : Err K T D) (hT : D ≠ T) : PySem.W.kitOne K (.ref C) (.ref D) = some (decide (C = D)) := by
  unfold PySem.W.kitOne
  by_cases e : C = D
  · subst e
    rw [if_pos (by simp), decide_eq_true rfl]
  · have n : ¬ (Value.ref C == Value.ref D) = true := by simpa using e
    rw [if_neg n]
    show (if ((PySem.W.clsIn K D).isSome && PySem.W.typeIn K (.ref D) == some (.type "type")) = true then PySem.W.subIn K (.ref C) (.ref D) else none) = _
    rw [if_pos (by rw [hD.cls, hD.ty]; rfl), h.mro, decide_eq_false e]
    congr 1
    simp [hT, Ne.symm e]
/-- .. of the class above -/
theorem Err.base (h : Err K T C) (hT : (PySem.W.clsIn K T).isSome = true) (tT : PySem.W.typeIn K (.ref T) = some (.type "type")) : PySem.W.kitOne K (.ref C) (.ref T) = some true := by
  unfold PySem.W.kitOne
  by_cases e : C = T
  · subst e
    rw [if_pos (by simp)]
  · have n : ¬ (Value.ref C == Value.ref T) = true := by simpa using e
    rw [if_neg n]
    show (if ((PySem.W.clsIn K T).isSome && PySem.W.typeIn K (.ref T) == some (.type "type")) = true then PySem.W.subIn K (.ref C) (.ref T) else none) = _
    rw [if_pos (by rw [hT, tT]; rfl), h.mro]
    congr 1
    simp
/-- .. a ValueError -/
theorem Err.val (h : Err K T C) : PySem.W.kitOne K (.ref C) (.type "ValueError") = some true := by
  unfold PySem.W.kitOne
  rw [if_neg (by simp)]
  show (if PySem.W.kitMeta "ValueError" = true then PySem.W.subIn K (.ref C) (.type "ValueError") else none) = _
  rw [if_pos (by decide +kernel), h.mro]
  congr 1
end
/-- at e stands an error of the class at C, its attributes fs -/
def ErrAt (H : Hp) (e C : Addr) (fs : List (Str × V)) : Prop := (fs = [] ∧ H e = some (ExO (.ref C) e)) ∨ ∃ d, H e = some (exo e C (some d)) ∧ H d = some (exd d fs)
theorem ErrAt.keep {H H' : Hp} {e C : Addr} {fs : List (Str × V)} (h : ErrAt H e C fs) (k : Same H H') : ErrAt H' e C fs := by
  rcases h with ⟨a, b⟩ | ⟨d, a, b⟩
  · exact .inl ⟨a, k _ _ b⟩
  · exact .inr ⟨d, k _ _ a, k _ _ b⟩
section
variable {X : Cx} {pins : List (Addr × Obj)} {σ : L2.St} {H : Hp} {s : Shared} {e C T : Addr} {fs : List (Str × V)}
theorem ErrAt.inst (h : ErrAt H e C fs) (I : Inv X pins σ H s) : ∃ oe od, PySem.W.InstAt s.heap e oe C od := by
  rcases h with ⟨_, b⟩ | ⟨d, a, b⟩
  · obtain ⟨⟨oe, vs, ho, hz, hd, _⟩, _, _⟩ := I.hok e _ b
    refine ⟨oe, none, ho, hz.1, ?_, ?_⟩
    · unfold PySem.W.notCls; rw [hd]
    · rw [hz.2]; trivial
  · obtain ⟨t1, ho⟩ := exo_at I.hok a
    obtain ⟨mA, hns, _⟩ := exd_at I.hok b
    obtain ⟨od, hod, _⟩ := lookIn_ns hns
    exact ⟨_, some od, ho, rfl, rfl, hod⟩
/-- isinstance(e, c) -/
theorem call_isX (M : Mach X.K) : CallR X (.builtin "isinstance") (fun xs H Q => ∃ (e C T : Addr) (c : V) (cv : Value) (b : Bool) (fs : List (Str × V)), xs = [.ref e, c] ∧ (∀ u, RelV c u → u = cv) ∧ Err X.K T C ∧ ErrAt H e C fs ∧
    PySem.W.kitOne X.K (.ref C) cv = some b ∧ Q (.bl b) H) := by
  intro pins s σ H xs us Q I r h
  obtain ⟨e, C, T, c, cv, b, fs, rfl, hcv, hE, hA, hk, q⟩ := h
  cases r with
  | cons rx rr =>
    cases rr with
    | cons rt rr =>
      cases rr
      cases rx
      have ec := hcv _ rt
      subst ec
      obtain ⟨oe, od, J⟩ := hA.inst I
      exact PySem.W.kia_one (PySem.W.kitx_exc (ox := oe) (od := od) hE.cls hE.ga hE.gg hE.ex hE.cl M.sp M.tk hE.ob) I.kIn J hk (fun z => nomatch z) fun tk => ⟨.bl b, H, I.kept (t' := tk) fun _ _ z => z, rfl, q⟩
/-- e.n -/
def tExa (K : PySem.W.Frag) (n : Str) (te : TE) : TE := fun σ H Q => te σ H fun x H1 => ∃ (a C T d : Addr) (fs : List (Str × V)) (v : V), x = .ref a ∧ Err K T C ∧ PySem.W.findIn K (.ref C) n = some none ∧ H1 a = some (exo a C (some d)) ∧ H1 d = some (exd d fs) ∧
  fs.lookup n = some v ∧ Q v H1
theorem pe_exa {o : Expr} {te : TE} {pos : Pos} {n : Str} (he : PE X o te) (hb : attributeBase o n X.env (eval o X.env) = eval o X.env := by rfl) : PE X (.Attribute o n pos) (tExa X.K n te) := by
  refine ⟨fun pins s σ H Q I h => attr_of hb (thn (he.run pins s σ H _ I h) fun u s1 hh => ?_)⟩
  obtain ⟨x, H1, I1, rx, a, C, T, d, fs, v, ex, hE, hno, ha, hd, l, q⟩ := hh
  subst ex
  obtain rfl : u = Value.ref a := rx
  obtain ⟨t1, ho⟩ := exo_at I1.hok ha
  obtain ⟨mA, hns, hr⟩ := exd_at I1.hok hd
  obtain ⟨od, hod, hl⟩ := lookIn_ns hns
  obtain ⟨u, hu, ru⟩ := RelO.some_of (v := v) (o := mA n) (by rw [← l]; exact hr n)
  have J : PySem.W.InstAt s1.heap a _ C (some od) := ⟨ho, rfl, rfl, hod⟩
  exact HandSPX.exc_get I1.kIn J hE.ga hE.gg hE.ex (PySem.W.findObj_own hE.hd hno rfl (by rw [hl, hu])) (handed_of ru) ⟨v, H1, I1.tok _, ru, q⟩
end
/-! ### errors made -/
/-- C(e, ..): its own __init__ keeps sp -/
def tMkE (C : Addr) (sp : Sp) (ta : TA) : TE := fun σ H Q => ta σ H fun vs H1 => vs.length ≤ 1000 ∧ ∀ a, H1 a = none → sp (.ref a :: vs) (upd H1 a (exo a C none)) (fun v H2 => v = .non ∧ Q (.ref a) H2) (fun _ _ _ => False)
section
variable {X : Cx} {x : Str} {T C fI : Addr} {k : Nat} {fd : FuncData} {ps : List Str} {sp : Sp} {e : Expr} {es : List Expr} {ta : TA} {p pos : Pos}
/-- what is shared: the class called behind the arguments -/
theorem run_mkE {pins : List (Addr × Obj)} {σ : L2.St} {H1 : Hp} {s1 : Shared} {Q : VK} {us : List Value} {vs : List V} (hE : Err X.K T C) (iC : PySem.W.findIn X.K (.ref C) "__init__" = some (some (.ref fI))) (tI : PySem.W.typeIn X.K (.ref fI) = some (.type "function"))
    (F1 : FnOk X.prog X.w X.K X.mg X.base CX0 k fI fd ps sp) (hr : Room (k + 1) X.A) (hb : Binds X.K fd ps []) (I1 : Inv X pins σ H1 s1) (r1 : Vals vs us) (hz : vs.length ≤ 1000)
    (q1 : ∀ a, H1 a = none → sp (.ref a :: vs) (upd H1 a (exo a C none)) (fun v H2 => v = .non ∧ Q (.ref a) H2) (fun _ _ _ => False)) :
    wpAny (model X.prog X.w) X.A (call (.ref C) us) (EP X pins σ Q) X.xe s1 := by
  obtain ⟨nm, q, N, bs, sn, sub, ab, col, dd, k0, k1, k2, k3, k5, hC⟩ := hE.look
  have hbm : PySem.HandSPX.refsVE (errTail T) = true := by first | rfl | (simp [PySem.HandSPX.refsVE])
  obtain ⟨hp, g, dr, tk, os⟩ := s1
  have hsz : hp.objs.size ≤ hp.objs.size + 1 := Nat.le_succ _
  have hq := q1 (hp.objs.size + 1) (I1.hok.fresh hsz)
  have kk : ∀ b o, hp.get? b = some o → ((hp.push (PySem.W.kdv_tup us)).push (PySem.HandSPX.excO C hp.objs.size)).get? b = some o := fun b o e => Heap.get?_push_of_some _ (Heap.get?_push_of_some _ e)
  have at1 : ((hp.push (PySem.W.kdv_tup us)).push (PySem.HandSPX.excO C hp.objs.size)).get? (hp.objs.size + 1) = some (PySem.HandSPX.excO C hp.objs.size) := by heap_get
  have I2 : Inv X pins σ (upd H1 (hp.objs.size + 1) (exo (hp.objs.size + 1) C none)) ⟨(hp.push (PySem.W.kdv_tup us)).push (PySem.HandSPX.excO C hp.objs.size), g, dr, tk, os⟩ := I1.laid (t' := tk) kk hsz (exo_ok at1)
  have r2 : Vals (V.ref (hp.objs.size + 1) :: vs) (Value.ref (hp.objs.size + 1) :: us) := .cons rfl r1
  have hl : (Value.ref (hp.objs.size + 1) :: us).length = ps.length := r2.length.symm.trans (F1.len _ _ _ _ hq)
  have hus : us.length ≤ sizeLine := by
    rw [← r1.length, sizeLine_eq]; omega
  refine wpAny_call (PySem.HandSPX.call_own F.excBase_ValueError (fun Y => PySem.HandSPX.refsVE_contains Y _ hbm) (I1.kIn _ _ hC) (PySem.W.looks_findIn I1.kIn iC) (fun self => PySem.W.bind_fn I1.kIn self tI) hus ?_)
  have hb2 := hb { heap := (hp.push (PySem.W.kdv_tup us)).push (PySem.HandSPX.excO C hp.objs.size), gens := g, drawn := dr, toks := tk, os := os } (Value.ref (hp.objs.size + 1) :: us) I2.kIn (by simpa using hl)
  rw [List.append_nil] at hb2
  refine codeAny_mono (F1.run _ X.stack _ _ _ _ _ _ (fun _ _ _ => False) (hr.make C us []) (I2.env0.make C us []) hb2 r2 hq) fun r s' hq' => ?_
  cases r with
  | error er => exact hq'.elim
  | ok fl =>
    cases fl with
    | ret u =>
      obtain ⟨v, H', I3, rv, ev, q3⟩ := I2.after hq'
      subst ev
      exact ⟨rv, ⟨V.ref (hp.objs.size + 1), H', I3, rfl, q3⟩⟩
    | next => exact False.elim hq'
    | brk => exact False.elim hq'
    | cont => exact False.elim hq'
theorem pe_mkE (hE : Err X.K T C) (iC : PySem.W.findIn X.K (.ref C) "__init__" = some (some (.ref fI))) (tI : PySem.W.typeIn X.K (.ref fI) = some (.type "function")) (F1 : FnOk X.prog X.w X.K X.mg X.base CX0 k fI fd ps sp) (hr : Room (k + 1) X.A) (hb : Binds X.K fd ps [])
    (hg : Gl X x) (hm : X.mg x = some (.ref C)) (ha : PA X (e :: es) ta) (hdb : (x == ("__debug__" : Str)) = false := by decide) (he : starEach (e :: es) X.env = (false, eval e X.env) :: starEach es X.env := by rfl)
    (hpl : (backTo pos (starEach es X.env)).any (·.1) = false := by rfl) : PE X (.Call (.Name x p) (e :: es) [] pos) (tMkE C sp ta) := by
  refine ⟨fun pins s σ H Q I h => wpAny_Call_Name_kw (ld_glob I hg hm ?_ hdb)⟩
  refine PySem.W.callWith_K (h₀ := X.base) I.ok.mod.kin hE.kC (thn (ha.run pos pins s σ H _ I h) fun us s1 ⟨vs, H1, I1, r1, hz, q1⟩ => ⟨I1.kIn, ?_⟩) he hpl
  exact run_mkE hE iC tI F1 hr hb I1 r1 hz q1
/-- C(k = v, ..), keywords alone -/
def tMkK (C : Addr) (n : Nat) (sp : Sp) (gV : List V → List V → List V) (tk : TA) : TE := fun σ H Q => tk σ H fun zs H1 => zs.length = n ∧ ∀ a, H1 a = none → sp (gV [.ref a] zs) (upd H1 a (exo a C none)) (fun v H2 => v = .non ∧ Q (.ref a) H2) (fun _ _ _ => False)
theorem pe_mkK {kws : List Keyword} {ks : List Str} {gg : List Value → List Value → List Value} {gV : List V → List V → List V} {tk : TA} (hE : Err X.K T C) (iC : PySem.W.findIn X.K (.ref C) "__init__" = some (some (.ref fI))) (tI : PySem.W.typeIn X.K (.ref fI) = some (.type "function"))
    (F1 : FnOk X.prog X.w X.K X.mg X.base CX0 k fI fd ps sp) (hr : Room (k + 1) X.A) (hb : KBn X.K fd ps 1 ks gg gV) (hg : Gl X x) (hm : X.mg x = some (.ref C)) (hkw : PK X kws tk)
    (hall : (backToKw pos (keywordEach kws X.env)).all (·.1.isSome) = true := by rfl) (hks : (backToKw pos (keywordEach kws X.env)).filterMap (·.1) = ks := by rfl) (hdb : (x == ("__debug__" : Str)) = false := by decide)
    (hpl : ((backTo pos (starEach [] X.env)).any (·.1) || (backToKw pos (keywordEach kws X.env)).any (·.1.isNone)) = false := by rfl) : PE X (.Call (.Name x p) [] kws pos) (tMkK C ks.length sp gV tk) := by
  refine ⟨fun pins s σ H Q I h => wpAny_Call_Name_kw (ld_glob I hg hm ?_ hdb)⟩
  refine PySem.W.callWith_KW0 (h₀ := X.base) I.ok.mod.kin hE.kC hall ?_ hpl
  refine thn (hkw.run pos pins s σ H _ I h) fun ws s2 ⟨zs, H1, I1, rz, l2, q1⟩ => ⟨I1.kIn, ?_⟩
  rw [hks]
  show wpAny _ _ (call (.ref C) [] (ks.zip ws)) _ _ _
  obtain ⟨nm, q, N, bs, sn, sub, ab, col, dd, k0, k1, k2, k3, k5, hC⟩ := hE.look
  have hbm : PySem.HandSPX.refsVE (errTail T) = true := by first | rfl | (simp [PySem.HandSPX.refsVE])
  obtain ⟨hp, g, dr, tk, os⟩ := s2
  have hsz : hp.objs.size ≤ hp.objs.size + 1 := Nat.le_succ _
  have hq := q1 (hp.objs.size + 1) (I1.hok.fresh hsz)
  have kk : ∀ b o, hp.get? b = some o → ((hp.push (PySem.W.kdv_tup [])).push (PySem.HandSPX.excO C hp.objs.size)).get? b = some o := fun b o e => Heap.get?_push_of_some _ (Heap.get?_push_of_some _ e)
  have at1 : ((hp.push (PySem.W.kdv_tup [])).push (PySem.HandSPX.excO C hp.objs.size)).get? (hp.objs.size + 1) = some (PySem.HandSPX.excO C hp.objs.size) := by heap_get
  have I2 : Inv X pins σ (upd H1 (hp.objs.size + 1) (exo (hp.objs.size + 1) C none)) ⟨(hp.push (PySem.W.kdv_tup [])).push (PySem.HandSPX.excO C hp.objs.size), g, dr, tk, os⟩ := I1.laid (t' := tk) kk hsz (exo_ok at1)
  have r2 := hb.rel (vs := [V.ref (hp.objs.size + 1)]) (us := [Value.ref (hp.objs.size + 1)]) (.cons rfl .nil) rz
  have e2 : ws.length = ks.length := rz.length.symm.trans l2
  refine wpAny_call (K1X.kw_call F.excBase_ValueError (fun Y => PySem.HandSPX.refsVE_contains Y _ hbm) (ks.zip ws) (I1.kIn _ _ hC) (PySem.W.looks_findIn I1.kIn iC) (fun self => PySem.W.bind_fn I1.kIn self tI) ?_)
  have hb2 := hb.to { heap := (hp.push (PySem.W.kdv_tup [])).push (PySem.HandSPX.excO C hp.objs.size), gens := g, drawn := dr, toks := tk, os := os } [Value.ref (hp.objs.size + 1)] ws I2.kIn rfl e2
  refine codeAny_mono (F1.run _ X.stack _ _ _ _ _ _ (fun _ _ _ => False) (hr.make C [] (ks.zip ws)) (I2.env0.make C [] (ks.zip ws)) hb2 r2 hq) fun r s' hq' => ?_
  cases r with
  | error er => exact hq'.elim
  | ok fl =>
    cases fl with
    | ret u =>
      obtain ⟨v, H', I3, rv, ev, q3⟩ := I2.after hq'
      subst ev
      exact ⟨rv, ⟨V.ref (hp.objs.size + 1), H', I3, rfl, q3⟩⟩
    | next => exact False.elim hq'
    | brk => exact False.elim hq'
    | cont => exact False.elim hq'
/-- C(), a class without an own __init__ -/
def tMk0 (C : Addr) : TE := fun _ H Q => ∀ a, H a = none → Q (.ref a) (upd H a (ExO (.ref C) a))
theorem pe_mk0 {bmB : List Value} {B newId initId : String} (F : ExcBaseFacts B newId initId bmB) (q : PySem.W.excIn X.K C bmB newId = true) (kC : PySem.W.keepIn X.K (.ref C) = true) (hg : Gl X x) (hm : X.mg x = some (.ref C)) (hdb : (x == ("__debug__" : Str)) = false := by decide) :
    PE X (.Call (.Name x p) [] [] pos) (tMk0 C) := by
  refine ⟨fun pins s σ H Q I h => wpAny_Call_Name_kw (ld_glob I hg hm ?_ hdb)⟩
  refine PySem.W.callWith_K0 I.kIn kC ?_
  obtain ⟨bm, N, nm, qn, bs, hdct, sn, sub, ab, col, dd, k0, k1, k2, k3, k5, mN, hC, hN, hni, T⟩ := exc_obj I.kIn q
  refine wpAny_call_exc_subT F T hC hN hni (fun h' a hm => ?_) (Nat.zero_le _)
  have hn : H a = none := I.hok.gone hm.new
  obtain ⟨t, ht, _, _⟩ := hm.there
  exact ⟨.ref a, upd H a (ExO (.ref C) a), I.laidN hm.keeps hm.new hn (exO_ok ht ⟨rfl, rfl⟩ rfl rfl rfl (by show 4 < 6; decide)), rfl, h a hn⟩
end
/-! ### repr of data -/
section
variable {X : Cx}
/-- repr(x), x a list or tuple of data, where no repr is under way -/
theorem call_reprD {k : Nat} (hg : X.A.guards = some []) (hr : Room k X.A) : CallR X (.builtin "repr") (fun xs H Q => ∃ (a : Addr) (d : PyData) (n m : Nat), xs = [.ref a] ∧ Dp X.K H (.ref a) d ∧ Nice n m d ∧ n ≤ 100000 ∧ m ≤ 60 ∧ Q (.str d.shown) H) := by
  intro pins s σ H xs us Q I r h
  obtain ⟨a, d, n, m, rfl, hd, hn, h1, h2, q⟩ := h
  cases r with
  | cons rx rr =>
    cases rr
    cases rx
    obtain ⟨as, hR⟩ := Dp.reads I d (.ref a) (.ref a) hd rfl
    have hu := hr.un
    have hdp := hn.dp
    exact repr_of_reads' (h₀ := s.heap) hR hn.sh (PyData.noDict_hsm hn.nd) hg (by show X.A.units + (d.depth + 1) < cLine; omega) (fun _ _ e => e) (fun h' u tk k => ⟨.str d.shown, H, I.kept (t' := tk) k, ⟨u, rfl⟩, q⟩) (hn.len h1)
end
end K1

set_option maxHeartbeats 4000000
namespace K1
open PySem PySem.Spec PyProof.Rows L2
/-! ### the classes' own makers -/
/-- __init__(self, y, ..): the new error at a gets a dict with its fields -/
def spIni (C : Addr) (ns : List Str) : Sp := fun vs H Q _ => ∃ (a : Addr) (ys : List V), vs = .ref a :: ys ∧ ys.length = ns.length ∧ H a = some (exo a C none) ∧
  ∀ (d : Addr) (H' : Hp), H d = none → d ≠ a → H' a = some (exo a C (some d)) → H' d = some (exd d (ns.zip ys).reverse) → (∀ b, b ≠ a → b ≠ d → H' b = H b) → Q .non H'

abbrev sIni3 : Stmt := inClass (topS 2) 0
theorem scIni3 : FnScope ["self", "kind"] ["self", "kind"] (defScope sIni3) := ⟨rfl, rfl, rfl, by decide +kernel, rfl, by decide +kernel, by decide +kernel⟩
abbrev sIni4 : Stmt := inClass (topS 5) 0
theorem scIni4 : FnScope ["self", "mode"] ["self", "mode"] (defScope sIni4) := ⟨rfl, rfl, rfl, by decide +kernel, rfl, by decide +kernel, by decide +kernel⟩
abbrev sIni5 : Stmt := inClass (topS 8) 0
theorem scIni5 : FnScope ["self", "path"] ["self", "path"] (defScope sIni5) := ⟨rfl, rfl, rfl, by decide +kernel, rfl, by decide +kernel, by decide +kernel⟩
abbrev sIni6 : Stmt := inClass (topS 11) 0
theorem scIni6 : FnScope ["self", "path"] ["self", "path"] (defScope sIni6) := ⟨rfl, rfl, rfl, by decide +kernel, rfl, by decide +kernel, by decide +kernel⟩
abbrev sIni7 : Stmt := inClass (topS 3) 0
theorem scIni7 : FnScope ["self", "kind", "name"] ["self", "kind", "name"] (defScope sIni7) := ⟨rfl, rfl, rfl, by decide +kernel, rfl, by decide +kernel, by decide +kernel⟩
abbrev sIni8 : Stmt := inClass (topS 6) 0
theorem scIni8 : FnScope ["self", "lineno", "col_offset"] ["self", "lineno", "col_offset"] (defScope sIni8) := ⟨rfl, rfl, rfl, by decide +kernel, rfl, by decide +kernel, by decide +kernel⟩
abbrev sIni9 : Stmt := inClass (topS 9) 0
theorem scIni9 : FnScope ["self", "kind", "name"] ["self", "kind", "name"] (defScope sIni9) := ⟨rfl, rfl, rfl, by decide +kernel, rfl, by decide +kernel, by decide +kernel⟩
abbrev sIni10 : Stmt := inClass (topS 12) 0
theorem scIni10 : FnScope ["self", "name", "lineno", "col_offset"] ["self", "name", "lineno", "col_offset"] (defScope sIni10) := ⟨rfl, rfl, rfl, by decide +kernel, rfl, by decide +kernel, by decide +kernel⟩
section
variable {P : Program} {w : World} {K : PySem.W.Frag} {mg : Str → Option Value} {base : Heap}
theorem ok_ini3 {f T C : Addr} {fd : FuncData} (F : Fun K "__init__" "BadKind.__init__" sIni3 f fd) (hE : Err K T C) (n0 : PySem.W.findIn K (.ref C) "kind" = some none) : FnOk P w K mg base CX0 1 f fd ["self", "kind"] (spIni C ["kind"]) := by
  refine F.ok scIni3 (fun vs H Q E h => ?_) (fun cdv A outer s H vs Q E hr h => ?_)
  · obtain ⟨a, ys, rfl, hl, _⟩ := h
    show ys.length + 1 = _
    rw [hl]; rfl
  obtain ⟨a, ys, rfl, hl, ha, q⟩ := h
  match ys, hl with
  | [y0], _ =>
    refine ⟨_, pss_one (ps_ost (pv 0) (pv 1)), ?_⟩
    refine ⟨_, rfl, _, rfl, a, C, rfl, hE.oex, n0, .inl ⟨ha, fun d hd hda => ?_⟩⟩
    exact q d _ hd hda upd_same (Eq.trans (upd_ne hda) upd_same) fun b h1 h2 => by rw [upd_ne h1, upd_ne h2]
theorem ok_ini4 {f T C : Addr} {fd : FuncData} (F : Fun K "__init__" "BadMode.__init__" sIni4 f fd) (hE : Err K T C) (n0 : PySem.W.findIn K (.ref C) "mode" = some none) : FnOk P w K mg base CX0 1 f fd ["self", "mode"] (spIni C ["mode"]) := by
  refine F.ok scIni4 (fun vs H Q E h => ?_) (fun cdv A outer s H vs Q E hr h => ?_)
  · obtain ⟨a, ys, rfl, hl, _⟩ := h
    show ys.length + 1 = _
    rw [hl]; rfl
  obtain ⟨a, ys, rfl, hl, ha, q⟩ := h
  match ys, hl with
  | [y0], _ =>
    refine ⟨_, pss_one (ps_ost (pv 0) (pv 1)), ?_⟩
    refine ⟨_, rfl, _, rfl, a, C, rfl, hE.oex, n0, .inl ⟨ha, fun d hd hda => ?_⟩⟩
    exact q d _ hd hda upd_same (Eq.trans (upd_ne hda) upd_same) fun b h1 h2 => by rw [upd_ne h1, upd_ne h2]
theorem ok_ini5 {f T C : Addr} {fd : FuncData} (F : Fun K "__init__" "NoText.__init__" sIni5 f fd) (hE : Err K T C) (n0 : PySem.W.findIn K (.ref C) "path" = some none) : FnOk P w K mg base CX0 1 f fd ["self", "path"] (spIni C ["path"]) := by
  refine F.ok scIni5 (fun vs H Q E h => ?_) (fun cdv A outer s H vs Q E hr h => ?_)
  · obtain ⟨a, ys, rfl, hl, _⟩ := h
    show ys.length + 1 = _
    rw [hl]; rfl
  obtain ⟨a, ys, rfl, hl, ha, q⟩ := h
  match ys, hl with
  | [y0], _ =>
    refine ⟨_, pss_one (ps_ost (pv 0) (pv 1)), ?_⟩
    refine ⟨_, rfl, _, rfl, a, C, rfl, hE.oex, n0, .inl ⟨ha, fun d hd hda => ?_⟩⟩
    exact q d _ hd hda upd_same (Eq.trans (upd_ne hda) upd_same) fun b h1 h2 => by rw [upd_ne h1, upd_ne h2]
theorem ok_ini6 {f T C : Addr} {fd : FuncData} (F : Fun K "__init__" "NotLiteral.__init__" sIni6 f fd) (hE : Err K T C) (n0 : PySem.W.findIn K (.ref C) "path" = some none) : FnOk P w K mg base CX0 1 f fd ["self", "path"] (spIni C ["path"]) := by
  refine F.ok scIni6 (fun vs H Q E h => ?_) (fun cdv A outer s H vs Q E hr h => ?_)
  · obtain ⟨a, ys, rfl, hl, _⟩ := h
    show ys.length + 1 = _
    rw [hl]; rfl
  obtain ⟨a, ys, rfl, hl, ha, q⟩ := h
  match ys, hl with
  | [y0], _ =>
    refine ⟨_, pss_one (ps_ost (pv 0) (pv 1)), ?_⟩
    refine ⟨_, rfl, _, rfl, a, C, rfl, hE.oex, n0, .inl ⟨ha, fun d hd hda => ?_⟩⟩
    exact q d _ hd hda upd_same (Eq.trans (upd_ne hda) upd_same) fun b h1 h2 => by rw [upd_ne h1, upd_ne h2]
theorem ok_ini7 {f T C : Addr} {fd : FuncData} (F : Fun K "__init__" "BadField.__init__" sIni7 f fd) (hE : Err K T C) (n0 : PySem.W.findIn K (.ref C) "kind" = some none) (n1 : PySem.W.findIn K (.ref C) "name" = some none) : FnOk P w K mg base CX0 1 f fd ["self", "kind", "name"] (spIni C ["kind", "name"]) := by
  refine F.ok scIni7 (fun vs H Q E h => ?_) (fun cdv A outer s H vs Q E hr h => ?_)
  · obtain ⟨a, ys, rfl, hl, _⟩ := h
    show ys.length + 1 = _
    rw [hl]; rfl
  obtain ⟨a, ys, rfl, hl, ha, q⟩ := h
  match ys, hl with
  | [y0, y1], _ =>
    refine ⟨_, pss_cons (ps_ost (pv 0) (pv 1)) (pss_one (ps_ost (pv 0) (pv 2))), ?_⟩
    refine ⟨_, rfl, _, rfl, a, C, rfl, hE.oex, n0, .inl ⟨ha, fun d hd hda => ?_⟩⟩
    refine ⟨_, rfl, _, rfl, a, C, rfl, hE.oex, n1, .inr ⟨d, _, upd_same, Eq.trans (upd_ne hda) upd_same, by show 1 ≤ 900; decide, ?_⟩⟩
    exact q d _ hd hda (Eq.trans (upd_ne hda.symm) upd_same) upd_same fun b h1 h2 => by rw [upd_ne h2, upd_ne h1, upd_ne h2]
theorem ok_ini8 {f T C : Addr} {fd : FuncData} (F : Fun K "__init__" "BadText.__init__" sIni8 f fd) (hE : Err K T C) (n0 : PySem.W.findIn K (.ref C) "lineno" = some none) (n1 : PySem.W.findIn K (.ref C) "col_offset" = some none) : FnOk P w K mg base CX0 1 f fd ["self", "lineno", "col_offset"] (spIni C ["lineno", "col_offset"]) := by
  refine F.ok scIni8 (fun vs H Q E h => ?_) (fun cdv A outer s H vs Q E hr h => ?_)
  · obtain ⟨a, ys, rfl, hl, _⟩ := h
    show ys.length + 1 = _
    rw [hl]; rfl
  obtain ⟨a, ys, rfl, hl, ha, q⟩ := h
  match ys, hl with
  | [y0, y1], _ =>
    refine ⟨_, pss_cons (ps_ost (pv 0) (pv 1)) (pss_one (ps_ost (pv 0) (pv 2))), ?_⟩
    refine ⟨_, rfl, _, rfl, a, C, rfl, hE.oex, n0, .inl ⟨ha, fun d hd hda => ?_⟩⟩
    refine ⟨_, rfl, _, rfl, a, C, rfl, hE.oex, n1, .inr ⟨d, _, upd_same, Eq.trans (upd_ne hda) upd_same, by show 1 ≤ 900; decide, ?_⟩⟩
    exact q d _ hd hda (Eq.trans (upd_ne hda.symm) upd_same) upd_same fun b h1 h2 => by rw [upd_ne h2, upd_ne h1, upd_ne h2]
theorem ok_ini9 {f T C : Addr} {fd : FuncData} (F : Fun K "__init__" "BadChange.__init__" sIni9 f fd) (hE : Err K T C) (n0 : PySem.W.findIn K (.ref C) "kind" = some none) (n1 : PySem.W.findIn K (.ref C) "name" = some none) : FnOk P w K mg base CX0 1 f fd ["self", "kind", "name"] (spIni C ["kind", "name"]) := by
  refine F.ok scIni9 (fun vs H Q E h => ?_) (fun cdv A outer s H vs Q E hr h => ?_)
  · obtain ⟨a, ys, rfl, hl, _⟩ := h
    show ys.length + 1 = _
    rw [hl]; rfl
  obtain ⟨a, ys, rfl, hl, ha, q⟩ := h
  match ys, hl with
  | [y0, y1], _ =>
    refine ⟨_, pss_cons (ps_ost (pv 0) (pv 1)) (pss_one (ps_ost (pv 0) (pv 2))), ?_⟩
    refine ⟨_, rfl, _, rfl, a, C, rfl, hE.oex, n0, .inl ⟨ha, fun d hd hda => ?_⟩⟩
    refine ⟨_, rfl, _, rfl, a, C, rfl, hE.oex, n1, .inr ⟨d, _, upd_same, Eq.trans (upd_ne hda) upd_same, by show 1 ≤ 900; decide, ?_⟩⟩
    exact q d _ hd hda (Eq.trans (upd_ne hda.symm) upd_same) upd_same fun b h1 h2 => by rw [upd_ne h2, upd_ne h1, upd_ne h2]
theorem ok_ini10 {f T C : Addr} {fd : FuncData} (F : Fun K "__init__" "BadScope.__init__" sIni10 f fd) (hE : Err K T C) (n0 : PySem.W.findIn K (.ref C) "name" = some none) (n1 : PySem.W.findIn K (.ref C) "lineno" = some none) (n2 : PySem.W.findIn K (.ref C) "col_offset" = some none) : FnOk P w K mg base CX0 1 f fd ["self", "name", "lineno", "col_offset"] (spIni C ["name", "lineno", "col_offset"]) := by
  refine F.ok scIni10 (fun vs H Q E h => ?_) (fun cdv A outer s H vs Q E hr h => ?_)
  · obtain ⟨a, ys, rfl, hl, _⟩ := h
    show ys.length + 1 = _
    rw [hl]; rfl
  obtain ⟨a, ys, rfl, hl, ha, q⟩ := h
  match ys, hl with
  | [y0, y1, y2], _ =>
    refine ⟨_, pss_cons (ps_ost (pv 0) (pv 1)) (pss_cons (ps_ost (pv 0) (pv 2)) (pss_one (ps_ost (pv 0) (pv 3)))), ?_⟩
    refine ⟨_, rfl, _, rfl, a, C, rfl, hE.oex, n0, .inl ⟨ha, fun d hd hda => ?_⟩⟩
    refine ⟨_, rfl, _, rfl, a, C, rfl, hE.oex, n1, .inr ⟨d, _, upd_same, Eq.trans (upd_ne hda) upd_same, by show 1 ≤ 900; decide, ?_⟩⟩
    refine ⟨_, rfl, _, rfl, a, C, rfl, hE.oex, n2, .inr ⟨d, _, Eq.trans (upd_ne hda.symm) upd_same, upd_same, by show 2 ≤ 900; decide, ?_⟩⟩
    exact q d _ hd hda (Eq.trans (upd_ne hda.symm) (Eq.trans (upd_ne hda.symm) upd_same)) upd_same fun b h1 h2 => by rw [upd_ne h2, upd_ne h2, upd_ne h1, upd_ne h2]
end
end K1

set_option maxHeartbeats 4000000
namespace K1
open PySem PySem.Spec PyProof.Rows L2
/-! ### the eleven errors of one turn -/
def namesOf : Nat → List Str
  | 3 => ["kind"] | 4 => ["mode"] | 5 => ["path"] | 6 => ["path"] | 7 => ["kind", "name"] | 8 => ["lineno", "col_offset"] | 9 => ["kind", "name"] | 10 => ["name", "lineno", "col_offset"] | _ => []
def ysOf (k : Nat) (v1 v2 v3 : V) : List V := if k < 3 then [] else if k < 7 then [v1] else if k < 10 then [v1, v2] else [v1, v2, v3]
def fsOf (k : Nat) (v1 v2 v3 : V) : List (Str × V) := ((namesOf k).zip (ysOf k v1 v2 v3)).reverse
/-- at e an error of the class at C with the attributes fs, all of it at addresses of Z -/
def ErrZ (H : Hp) (Z : Addr → Prop) (e C : Addr) (fs : List (Str × V)) : Prop := (fs = [] ∧ Z e ∧ H e = some (ExO (.ref C) e)) ∨ ∃ d, Z e ∧ Z d ∧ H e = some (exo e C (some d)) ∧ H d = some (exd d fs)
theorem ErrZ.stay {H H' : Hp} {Z Z' : Addr → Prop} {e C : Addr} {fs : List (Str × V)} (h : ErrZ H Z e C fs) (k : ∀ b o, Z b → H b = some o → H' b = some o) (z : ∀ b, Z b → Z' b) : ErrZ H' Z' e C fs := by
  rcases h with ⟨a, b, c⟩ | ⟨d, a, b, c, f⟩
  · exact .inl ⟨a, z _ b, k _ _ b c⟩
  · exact .inr ⟨d, z _ a, z _ b, k _ _ a c, k _ _ b f⟩
theorem ErrZ.there {H : Hp} {Z : Addr → Prop} {e C : Addr} {fs : List (Str × V)} (h : ErrZ H Z e C fs) : ErrZ H (fun b => Z b ∧ H b ≠ none) e C fs := by
  rcases h with ⟨a, b, c⟩ | ⟨d, a, b, c, f⟩
  · exact .inl ⟨a, ⟨b, by rw [c]; simp⟩, c⟩
  · exact .inr ⟨d, ⟨a, by rw [c]; simp⟩, ⟨b, by rw [f]; simp⟩, c, f⟩
theorem ErrZ.at {H : Hp} {Z : Addr → Prop} {e C : Addr} {fs : List (Str × V)} (h : ErrZ H Z e C fs) : ErrAt H e C fs := by
  rcases h with ⟨a, b, c⟩ | ⟨d, a, b, c, f⟩
  · exact .inl ⟨a, c⟩
  · exact .inr ⟨d, c, f⟩
/-- the errors es from the k-th class on -/
def Errs (H : Hp) (Z : Addr → Prop) (cs : Nat → Addr) (v1 v2 v3 : V) : Nat → List Addr → Prop
  | _, [] => True
  | k, e :: r => ErrZ H Z e (cs k) (fsOf k v1 v2 v3) ∧ Errs H Z cs v1 v2 v3 (k + 1) r
theorem Errs.map {H H' : Hp} {Z Z' : Addr → Prop} {cs : Nat → Addr} {v1 v2 v3 : V} (f : ∀ e C fs, ErrZ H Z e C fs → ErrZ H' Z' e C fs) : ∀ {es : List Addr} {k : Nat}, Errs H Z cs v1 v2 v3 k es → Errs H' Z' cs v1 v2 v3 k es
  | [], _, _ => trivial
  | _ :: _, _, h => ⟨f _ _ _ h.1, Errs.map f h.2⟩
theorem Errs.get {H : Hp} {Z : Addr → Prop} {cs : Nat → Addr} {v1 v2 v3 : V} : ∀ {es : List Addr} {k i : Nat} {e : Addr}, Errs H Z cs v1 v2 v3 k es → es[i]? = some e → ErrZ H Z e (cs (k + i)) (fsOf (k + i) v1 v2 v3)
  | _ :: _, k, 0, _, h, q => by cases q; exact h.1
  | _ :: r, k, i + 1, e, h, q => by
    have z := Errs.get (es := r) (k := k + 1) (i := i) h.2 q
    rw [show k + 1 + i = k + (i + 1) by omega] at z
    exact z
  | [], _, _, _, _, q => by simp at q
theorem mk_step {H H' : Hp} {a d C : Addr} {fs : List (Str × V)} (na : H a = none) (nd : (upd H a (exo a C none)) d = none) (da : d ≠ a) (ea : H' a = some (exo a C (some d))) (ed : H' d = some (exd d fs))
    (ek : ∀ b, b ≠ a → b ≠ d → H' b = (upd H a (exo a C none)) b) : Same H H' ∧ ErrZ H' (fun b => H b = none) a C fs := by
  have hd : H d = none := by rw [upd_ne da] at nd; exact nd
  refine ⟨fun b o e => ?_, .inr ⟨d, na, hd, ea, ed⟩⟩
  have nb : b ≠ a := ne_of_none e na
  rw [ek b nb (ne_of_none e hd), upd_ne nb]
  exact e
theorem mk_step0 {H : Hp} {a C : Addr} (na : H a = none) : Same H (upd H a (ExO (.ref C) a)) ∧ ErrZ (upd H a (ExO (.ref C) a)) (fun b => H b = none) a C [] := ⟨same_new na, .inl ⟨rfl, na, upd_same⟩⟩
theorem ErrZ.on {H0 H H' : Hp} {e C : Addr} {fs : List (Str × V)} {H1 : Hp} (h : ErrZ H (fun b => H1 b = none) e C fs) (k : Same H H') (b : Same H0 H1) : ErrZ H' (fun b => H0 b = none) e C fs := h.stay (fun b o _ => k b o) fun _ z => b.free z
/-! ### keywords in another order -/
def g1 {α : Type} (us ws : List α) : List α := us ++ ws
def g2 {α : Type} : List α → List α → List α
  | [u], [a, b] => [u, b, a]
  | us, ws => us ++ ws
def g3 {α : Type} : List α → List α → List α
  | [u], [a, b, c] => [u, b, c, a]
  | us, ws => us ++ ws
theorem rel2 : ∀ {vs : List V} {us : List Value} {zs : List V} {ws : List Value}, Vals vs us → Vals zs ws → Vals (g2 vs zs) (g2 us ws)
  | _, _, _, _, .nil, h => by unfold g2; exact Vals.append .nil h
  | _, _, _, _, .cons r .nil, .nil => by unfold g2; exact Vals.append (.cons r .nil) .nil
  | _, _, _, _, .cons r .nil, .cons a .nil => by unfold g2; exact Vals.append (.cons r .nil) (.cons a .nil)
  | _, _, _, _, .cons r .nil, .cons a (.cons b .nil) => .cons r (.cons b (.cons a .nil))
  | _, _, _, _, .cons r .nil, .cons a (.cons b (.cons c d)) => by unfold g2; exact Vals.append (.cons r .nil) (.cons a (.cons b (.cons c d)))
  | _, _, _, _, .cons r (.cons s t), h => by unfold g2; exact Vals.append (.cons r (.cons s t)) h
theorem rel3 : ∀ {vs : List V} {us : List Value} {zs : List V} {ws : List Value}, Vals vs us → Vals zs ws → Vals (g3 vs zs) (g3 us ws)
  | _, _, _, _, .nil, h => by unfold g3; exact Vals.append .nil h
  | _, _, _, _, .cons r .nil, .nil => by unfold g3; exact Vals.append (.cons r .nil) .nil
  | _, _, _, _, .cons r .nil, .cons a .nil => by unfold g3; exact Vals.append (.cons r .nil) (.cons a .nil)
  | _, _, _, _, .cons r .nil, .cons a (.cons b .nil) => by unfold g3; exact Vals.append (.cons r .nil) (.cons a (.cons b .nil))
  | _, _, _, _, .cons r .nil, .cons a (.cons b (.cons c .nil)) => .cons r (.cons b (.cons c (.cons a .nil)))
  | _, _, _, _, .cons r .nil, .cons a (.cons b (.cons c (.cons d e))) => by unfold g3; exact Vals.append (.cons r .nil) (.cons a (.cons b (.cons c (.cons d e))))
  | _, _, _, _, .cons r (.cons s t), h => by unfold g3; exact Vals.append (.cons r (.cons s t)) h
/-- the error class at C is made by its own __init__, which takes the names ns, also as the keywords ks -/
structure MkOf (P : Program) (w : World) (K : PySem.W.Frag) (mg : Str → Option Value) (base : Heap) (C : Addr) (ns ks : List Str) (gg : List Value → List Value → List Value) (gV : List V → List V → List V) : Prop where
  ex : ∃ (fI : Addr) (fd : FuncData), PySem.W.findIn K (.ref C) "__init__" = some (some (.ref fI)) ∧ PySem.W.typeIn K (.ref fI) = some (.type "function") ∧ FnOk P w K mg base CX0 1 fI fd ("self" :: ns) (spIni C ns) ∧ Binds K fd ("self" :: ns) [] ∧ KBn K fd ("self" :: ns) 1 ks gg gV
/-- what the top has left -/
structure Txt (K : PySem.W.Frag) (mg : Str → Option Value) (T : Addr) (cs : Nat → Addr) : Prop where
  err : ∀ k, k < 11 → Err K T (cs k)
  inj : ∀ i j, i < 11 → j < 11 → cs i = cs j → i = j
  neT : ∀ k, k < 11 → cs k ≠ T
  clT : (PySem.W.clsIn K T).isSome = true
  tyT : PySem.W.typeIn K (.ref T) = some (.type "type")
  mach : Mach K
  gT : mg "TreeError" = some (.ref T)
  g0 : mg "BadNode" = some (.ref (cs 0))
  g1 : mg "BadPlace" = some (.ref (cs 1))
  g2 : mg "BadFloat" = some (.ref (cs 2))
  g3 : mg "BadKind" = some (.ref (cs 3))
  g4 : mg "BadMode" = some (.ref (cs 4))
  g5 : mg "NoText" = some (.ref (cs 5))
  g6 : mg "NotLiteral" = some (.ref (cs 6))
  g7 : mg "BadField" = some (.ref (cs 7))
  g8 : mg "BadText" = some (.ref (cs 8))
  g9 : mg "BadChange" = some (.ref (cs 9))
  g10 : mg "BadScope" = some (.ref (cs 10))
  x0 : PySem.W.excIn K (cs 0) [.type "ValueError", .type "Exception", .type "BaseException", .type "object"] "ValueError.__new__" = true
  x1 : PySem.W.excIn K (cs 1) [.type "ValueError", .type "Exception", .type "BaseException", .type "object"] "ValueError.__new__" = true
  x2 : PySem.W.excIn K (cs 2) [.type "ValueError", .type "Exception", .type "BaseException", .type "object"] "ValueError.__new__" = true
  zI : mg "isinstance" = none
  zR : mg "range" = none
  zP : mg "repr" = none
  zL : mg "list" = none
  zV : mg "ValueError" = none
/-- the eight with an own __init__ -/
structure Mks (P : Program) (w : World) (K : PySem.W.Frag) (mg : Str → Option Value) (base : Heap) (cs : Nat → Addr) : Prop where
  m3 : MkOf P w K mg base (cs 3) ["kind"] ["kind"] g1 g1
  m4 : MkOf P w K mg base (cs 4) ["mode"] ["mode"] g1 g1
  m5 : MkOf P w K mg base (cs 5) ["path"] ["path"] g1 g1
  m6 : MkOf P w K mg base (cs 6) ["path"] ["path"] g1 g1
  m7 : MkOf P w K mg base (cs 7) ["kind", "name"] ["name", "kind"] g2 g2
  m8 : MkOf P w K mg base (cs 8) ["lineno", "col_offset"] ["col_offset", "lineno"] g2 g2
  m9 : MkOf P w K mg base (cs 9) ["kind", "name"] ["name", "kind"] g2 g2
  m10 : MkOf P w K mg base (cs 10) ["name", "lineno", "col_offset"] ["col_offset", "name", "lineno"] g3 g3
def spMade (cs : Nat → Addr) : Sp := fun vs H Q _ => ∃ v1 v2 v3 : V, vs = [v1, v2, v3] ∧
  ∀ (p : Addr) (es : List Addr) (H' : Hp), Same H H' → H p = none → H' p = some (.lst (es.map V.ref)) → es.length = 11 → Errs H' (fun b => H b = none) cs v1 v2 v3 0 es → Q (.ref p) H'
abbrev sMade : Stmt := topS 17
abbrev sNamed : Stmt := topS 18
abbrev nMade : List Str := ["_law_one", "_law_two", "_law_three", "_law_found"]
theorem scMade : FnScope nMade ["_law_one", "_law_two", "_law_three"] (defScope sMade) := ⟨rfl, rfl, rfl, by decide +kernel, rfl, by decide +kernel, by decide +kernel⟩
theorem scNamed : FnScope nMade ["_law_one", "_law_two", "_law_three"] (defScope sNamed) := ⟨rfl, rfl, rfl, by decide +kernel, rfl, by decide +kernel, by decide +kernel⟩
section
variable {P : Program} {w : World} {K : PySem.W.Frag} {mg : Str → Option Value} {base : Heap}
theorem ok_made {f T : Addr} {cs : Nat → Addr} {fd : FuncData} (F : Fun K "_law_made" "_law_made" sMade f fd) (X : Txt K mg T cs) (M : Mks P w K mg base cs) : FnOk P w K mg base CX0 3 f fd ["_law_one", "_law_two", "_law_three"] (spMade cs) := by
  refine F.ok scMade (fun vs H Q E h => ?_) (fun cdv A outer s H vs Q E hr h => ?_)
  · obtain ⟨v1, v2, v3, rfl, _⟩ := h
    rfl
  obtain ⟨v1, v2, v3, rfl, q⟩ := h
  obtain ⟨f3, d3, i3, t3, G3, b3, k3⟩ := M.m3.ex
  obtain ⟨f4, d4, i4, t4, G4, b4, k4⟩ := M.m4.ex
  obtain ⟨f5, d5, i5, t5, G5, b5, k5⟩ := M.m5.ex
  obtain ⟨f6, d6, i6, t6, G6, b6, k6⟩ := M.m6.ex
  obtain ⟨f7, d7, i7, t7, G7, b7, k7⟩ := M.m7.ex
  obtain ⟨f8, d8, i8, t8, G8, b8, k8⟩ := M.m8.ex
  obtain ⟨f9, d9, i9, t9, G9, b9, k9⟩ := M.m9.ex
  obtain ⟨f10, d10, i10, t10, G10, b10, k10⟩ := M.m10.ex
  refine ⟨_, pss_cons (ps_set (i := 3) scMade.nd rfl (.inl rfl) (pe_lst (pa_cons (pe_mk0 PySem.F.excBase_ValueError X.x0 (X.err 0 (by decide)).kC rfl X.g0) (pa_cons (pe_mk0 PySem.F.excBase_ValueError X.x1 (X.err 1 (by decide)).kC rfl X.g1) (pa_cons (pe_mk0 PySem.F.excBase_ValueError X.x2 (X.err 2 (by decide)).kC rfl X.g2) (pa_cons (pe_mkE (X.err 3 (by decide)) i3 t3 G3 hr b3 rfl X.g3 (pa_cons (pv 0) pa_nil)) (pa_cons (pe_mkE (X.err 4 (by decide)) i4 t4 G4 hr b4 rfl X.g4 (pa_cons (pv 0) pa_nil)) (pa_cons (pe_mkE (X.err 5 (by decide)) i5 t5 G5 hr b5 rfl X.g5 (pa_cons (pv 0) pa_nil)) (pa_cons (pe_mkE (X.err 6 (by decide)) i6 t6 G6 hr b6 rfl X.g6 (pa_cons (pv 0) pa_nil)) pa_nil))))))))) (pss_cons (ps_set (i := 3) scMade.nd rfl (.inl rfl) (pe_op op_cat (pv 3) (pe_lst (pa_cons (pe_mkE (X.err 7 (by decide)) i7 t7 G7 hr b7 rfl X.g7 (pa_cons (pv 0) (pa_cons (pv 1) pa_nil))) (pa_cons (pe_mkE (X.err 8 (by decide)) i8 t8 G8 hr b8 rfl X.g8 (pa_cons (pv 0) (pa_cons (pv 1) pa_nil))) (pa_cons (pe_mkE (X.err 9 (by decide)) i9 t9 G9 hr b9 rfl X.g9 (pa_cons (pv 0) (pa_cons (pv 1) pa_nil))) (pa_cons (pe_mkE (X.err 10 (by decide)) i10 t10 G10 hr b10 rfl X.g10 (pa_cons (pv 0) (pa_cons (pv 1) (pa_cons (pv 2) pa_nil)))) pa_nil))))))) (pss_one (ps_ret (pv 3)))), ?_⟩
  refine fun a0 n0 => ?_
  obtain ⟨s0, e0⟩ := mk_step0 (C := cs 0) n0
  revert s0 e0
  generalize upd H a0 (ExO (.ref (cs 0)) a0) = H0
  intro s0 e0
  refine fun a1 n1 => ?_
  obtain ⟨s1, e1⟩ := mk_step0 (C := cs 1) n1
  revert s1 e1
  generalize upd H0 a1 (ExO (.ref (cs 1)) a1) = H1
  intro s1 e1
  refine fun a2 n2 => ?_
  obtain ⟨s2, e2⟩ := mk_step0 (C := cs 2) n2
  revert s2 e2
  generalize upd H1 a2 (ExO (.ref (cs 2)) a2) = H2
  intro s2 e2
  refine ⟨_, rfl, by show 1 ≤ 1000; decide, fun a3 n3 => ⟨a3, [v1], rfl, rfl, upd_same, fun x3 H3 nd3 da3 ea3 ed3 ek3 => ⟨rfl, ?_⟩⟩⟩
  obtain ⟨s3, e3⟩ := mk_step n3 nd3 da3 ea3 ed3 ek3
  refine ⟨_, rfl, by show 1 ≤ 1000; decide, fun a4 n4 => ⟨a4, [v1], rfl, rfl, upd_same, fun x4 H4 nd4 da4 ea4 ed4 ek4 => ⟨rfl, ?_⟩⟩⟩
  obtain ⟨s4, e4⟩ := mk_step n4 nd4 da4 ea4 ed4 ek4
  refine ⟨_, rfl, by show 1 ≤ 1000; decide, fun a5 n5 => ⟨a5, [v1], rfl, rfl, upd_same, fun x5 H5 nd5 da5 ea5 ed5 ek5 => ⟨rfl, ?_⟩⟩⟩
  obtain ⟨s5, e5⟩ := mk_step n5 nd5 da5 ea5 ed5 ek5
  refine ⟨_, rfl, by show 1 ≤ 1000; decide, fun a6 n6 => ⟨a6, [v1], rfl, rfl, upd_same, fun x6 H6 nd6 da6 ea6 ed6 ek6 => ⟨rfl, ?_⟩⟩⟩
  obtain ⟨s6, e6⟩ := mk_step n6 nd6 da6 ea6 ed6 ek6
  refine ⟨by show 7 ≤ sizeLine; decide, fun ls0 nls0 => ?_⟩
  have sls0 := same_new (o := .lst (([a0, a1, a2, a3, a4, a5, a6] : List Addr).map V.ref)) nls0
  have hls0 : (upd H6 ls0 (.lst (([a0, a1, a2, a3, a4, a5, a6] : List Addr).map V.ref))) ls0 = some (.lst (([a0, a1, a2, a3, a4, a5, a6] : List Addr).map V.ref)) := upd_same
  refine ⟨_, rfl, ?_⟩
  refine ⟨_, rfl, _, rfl, by show 2 ≤ 1000; decide, fun a7 n7 => ⟨a7, [v1, v2], rfl, rfl, upd_same, fun x7 H7 nd7 da7 ea7 ed7 ek7 => ⟨rfl, ?_⟩⟩⟩
  obtain ⟨s7, e7⟩ := mk_step n7 nd7 da7 ea7 ed7 ek7
  refine ⟨_, rfl, _, rfl, by show 2 ≤ 1000; decide, fun a8 n8 => ⟨a8, [v1, v2], rfl, rfl, upd_same, fun x8 H8 nd8 da8 ea8 ed8 ek8 => ⟨rfl, ?_⟩⟩⟩
  obtain ⟨s8, e8⟩ := mk_step n8 nd8 da8 ea8 ed8 ek8
  refine ⟨_, rfl, _, rfl, by show 2 ≤ 1000; decide, fun a9 n9 => ⟨a9, [v1, v2], rfl, rfl, upd_same, fun x9 H9 nd9 da9 ea9 ed9 ek9 => ⟨rfl, ?_⟩⟩⟩
  obtain ⟨s9, e9⟩ := mk_step n9 nd9 da9 ea9 ed9 ek9
  refine ⟨_, rfl, _, rfl, _, rfl, by show 3 ≤ 1000; decide, fun a10 n10 => ⟨a10, [v1, v2, v3], rfl, rfl, upd_same, fun x10 H10 nd10 da10 ea10 ed10 ek10 => ⟨rfl, ?_⟩⟩⟩
  obtain ⟨s10, e10⟩ := mk_step n10 nd10 da10 ea10 ed10 ek10
  refine ⟨by show 4 ≤ sizeLine; decide, fun ls1 nls1 => ?_⟩
  have sls1 := same_new (o := .lst (([a7, a8, a9, a10] : List Addr).map V.ref)) nls1
  have hls1 : (upd H10 ls1 (.lst (([a7, a8, a9, a10] : List Addr).map V.ref))) ls1 = some (.lst (([a7, a8, a9, a10] : List Addr).map V.ref)) := upd_same
  refine ⟨_, _, _, _, rfl, rfl, (s7.trans (s8.trans (s9.trans (s10.trans (sls1))))) _ _ hls0, hls1, by show 11 ≤ sizeLine; decide, fun lc1 nlc1 => ?_⟩
  have slc1 := same_new (o := .lst (([a0, a1, a2, a3, a4, a5, a6, a7, a8, a9, a10] : List Addr).map V.ref)) nlc1
  have hlc1 : (upd (upd H10 ls1 (.lst (([a7, a8, a9, a10] : List Addr).map V.ref))) lc1 (.lst (([a0, a1, a2, a3, a4, a5, a6, a7, a8, a9, a10] : List Addr).map V.ref))) lc1 = some (.lst (([a0, a1, a2, a3, a4, a5, a6, a7, a8, a9, a10] : List Addr).map V.ref)) := upd_same
  refine ⟨_, rfl, ?_⟩
  refine q lc1 [a0, a1, a2, a3, a4, a5, a6, a7, a8, a9, a10] _ (s0.trans (s1.trans (s2.trans (s3.trans (s4.trans (s5.trans (s6.trans (sls0.trans (s7.trans (s8.trans (s9.trans (s10.trans (sls1.trans (slc1)))))))))))))) ((s0.trans (s1.trans (s2.trans (s3.trans (s4.trans (s5.trans (s6.trans (sls0.trans (s7.trans (s8.trans (s9.trans (s10.trans (sls1))))))))))))).free nlc1) hlc1 rfl ?_
  exact ⟨e0.on (s1.trans (s2.trans (s3.trans (s4.trans (s5.trans (s6.trans (sls0.trans (s7.trans (s8.trans (s9.trans (s10.trans (sls1.trans (slc1))))))))))))) (Same.refl _), e1.on (s2.trans (s3.trans (s4.trans (s5.trans (s6.trans (sls0.trans (s7.trans (s8.trans (s9.trans (s10.trans (sls1.trans (slc1)))))))))))) (s0), e2.on (s3.trans (s4.trans (s5.trans (s6.trans (sls0.trans (s7.trans (s8.trans (s9.trans (s10.trans (sls1.trans (slc1))))))))))) (s0.trans (s1)), e3.on (s4.trans (s5.trans (s6.trans (sls0.trans (s7.trans (s8.trans (s9.trans (s10.trans (sls1.trans (slc1)))))))))) (s0.trans (s1.trans (s2))), e4.on (s5.trans (s6.trans (sls0.trans (s7.trans (s8.trans (s9.trans (s10.trans (sls1.trans (slc1))))))))) (s0.trans (s1.trans (s2.trans (s3)))), e5.on (s6.trans (sls0.trans (s7.trans (s8.trans (s9.trans (s10.trans (sls1.trans (slc1)))))))) (s0.trans (s1.trans (s2.trans (s3.trans (s4))))), e6.on (sls0.trans (s7.trans (s8.trans (s9.trans (s10.trans (sls1.trans (slc1))))))) (s0.trans (s1.trans (s2.trans (s3.trans (s4.trans (s5)))))), e7.on (s8.trans (s9.trans (s10.trans (sls1.trans (slc1))))) (s0.trans (s1.trans (s2.trans (s3.trans (s4.trans (s5.trans (s6.trans (sls0)))))))), e8.on (s9.trans (s10.trans (sls1.trans (slc1)))) (s0.trans (s1.trans (s2.trans (s3.trans (s4.trans (s5.trans (s6.trans (sls0.trans (s7))))))))), e9.on (s10.trans (sls1.trans (slc1))) (s0.trans (s1.trans (s2.trans (s3.trans (s4.trans (s5.trans (s6.trans (sls0.trans (s7.trans (s8)))))))))), e10.on (sls1.trans (slc1)) (s0.trans (s1.trans (s2.trans (s3.trans (s4.trans (s5.trans (s6.trans (sls0.trans (s7.trans (s8.trans (s9))))))))))), trivial⟩
theorem ok_named {f T : Addr} {cs : Nat → Addr} {fd : FuncData} (F : Fun K "_law_named" "_law_named" sNamed f fd) (X : Txt K mg T cs) (M : Mks P w K mg base cs) : FnOk P w K mg base CX0 3 f fd ["_law_one", "_law_two", "_law_three"] (spMade cs) := by
  refine F.ok scNamed (fun vs H Q E h => ?_) (fun cdv A outer s H vs Q E hr h => ?_)
  · obtain ⟨v1, v2, v3, rfl, _⟩ := h
    rfl
  obtain ⟨v1, v2, v3, rfl, q⟩ := h
  obtain ⟨f3, d3, i3, t3, G3, b3, k3⟩ := M.m3.ex
  obtain ⟨f4, d4, i4, t4, G4, b4, k4⟩ := M.m4.ex
  obtain ⟨f5, d5, i5, t5, G5, b5, k5⟩ := M.m5.ex
  obtain ⟨f6, d6, i6, t6, G6, b6, k6⟩ := M.m6.ex
  obtain ⟨f7, d7, i7, t7, G7, b7, k7⟩ := M.m7.ex
  obtain ⟨f8, d8, i8, t8, G8, b8, k8⟩ := M.m8.ex
  obtain ⟨f9, d9, i9, t9, G9, b9, k9⟩ := M.m9.ex
  obtain ⟨f10, d10, i10, t10, G10, b10, k10⟩ := M.m10.ex
  refine ⟨_, pss_cons (ps_set (i := 3) scNamed.nd rfl (.inl rfl) (pe_lst (pa_cons (pe_mk0 PySem.F.excBase_ValueError X.x0 (X.err 0 (by decide)).kC rfl X.g0) (pa_cons (pe_mk0 PySem.F.excBase_ValueError X.x1 (X.err 1 (by decide)).kC rfl X.g1) (pa_cons (pe_mk0 PySem.F.excBase_ValueError X.x2 (X.err 2 (by decide)).kC rfl X.g2) (pa_cons (pe_mkK (X.err 3 (by decide)) i3 t3 G3 hr k3 rfl X.g3 (pk_cons (pv 0) pk_nil)) (pa_cons (pe_mkK (X.err 4 (by decide)) i4 t4 G4 hr k4 rfl X.g4 (pk_cons (pv 0) pk_nil)) (pa_cons (pe_mkK (X.err 5 (by decide)) i5 t5 G5 hr k5 rfl X.g5 (pk_cons (pv 0) pk_nil)) pa_nil)))))))) (pss_cons (ps_set (i := 3) scNamed.nd rfl (.inl rfl) (pe_op op_cat (pv 3) (pe_lst (pa_cons (pe_mkK (X.err 6 (by decide)) i6 t6 G6 hr k6 rfl X.g6 (pk_cons (pv 0) pk_nil)) (pa_cons (pe_mkK (X.err 7 (by decide)) i7 t7 G7 hr k7 rfl X.g7 (pk_cons (pv 1) (pk_cons (pv 0) pk_nil))) (pa_cons (pe_mkK (X.err 8 (by decide)) i8 t8 G8 hr k8 rfl X.g8 (pk_cons (pv 1) (pk_cons (pv 0) pk_nil))) pa_nil)))))) (pss_one (ps_ret (pe_op op_cat (pv 3) (pe_lst (pa_cons (pe_mkK (X.err 9 (by decide)) i9 t9 G9 hr k9 rfl X.g9 (pk_cons (pv 1) (pk_cons (pv 0) pk_nil))) (pa_cons (pe_mkK (X.err 10 (by decide)) i10 t10 G10 hr k10 rfl X.g10 (pk_cons (pv 2) (pk_cons (pv 0) (pk_cons (pv 1) pk_nil)))) pa_nil))))))), ?_⟩
  refine fun a0 n0 => ?_
  obtain ⟨s0, e0⟩ := mk_step0 (C := cs 0) n0
  revert s0 e0
  generalize upd H a0 (ExO (.ref (cs 0)) a0) = H0
  intro s0 e0
  refine fun a1 n1 => ?_
  obtain ⟨s1, e1⟩ := mk_step0 (C := cs 1) n1
  revert s1 e1
  generalize upd H0 a1 (ExO (.ref (cs 1)) a1) = H1
  intro s1 e1
  refine fun a2 n2 => ?_
  obtain ⟨s2, e2⟩ := mk_step0 (C := cs 2) n2
  revert s2 e2
  generalize upd H1 a2 (ExO (.ref (cs 2)) a2) = H2
  intro s2 e2
  refine ⟨_, rfl, rfl, fun a3 n3 => ⟨a3, [v1], rfl, rfl, upd_same, fun x3 H3 nd3 da3 ea3 ed3 ek3 => ⟨rfl, ?_⟩⟩⟩
  obtain ⟨s3, e3⟩ := mk_step n3 nd3 da3 ea3 ed3 ek3
  refine ⟨_, rfl, rfl, fun a4 n4 => ⟨a4, [v1], rfl, rfl, upd_same, fun x4 H4 nd4 da4 ea4 ed4 ek4 => ⟨rfl, ?_⟩⟩⟩
  obtain ⟨s4, e4⟩ := mk_step n4 nd4 da4 ea4 ed4 ek4
  refine ⟨_, rfl, rfl, fun a5 n5 => ⟨a5, [v1], rfl, rfl, upd_same, fun x5 H5 nd5 da5 ea5 ed5 ek5 => ⟨rfl, ?_⟩⟩⟩
  obtain ⟨s5, e5⟩ := mk_step n5 nd5 da5 ea5 ed5 ek5
  refine ⟨by show 6 ≤ sizeLine; decide, fun ls0 nls0 => ?_⟩
  have sls0 := same_new (o := .lst (([a0, a1, a2, a3, a4, a5] : List Addr).map V.ref)) nls0
  have hls0 : (upd H5 ls0 (.lst (([a0, a1, a2, a3, a4, a5] : List Addr).map V.ref))) ls0 = some (.lst (([a0, a1, a2, a3, a4, a5] : List Addr).map V.ref)) := upd_same
  refine ⟨_, rfl, ?_⟩
  refine ⟨_, rfl, rfl, fun a6 n6 => ⟨a6, [v1], rfl, rfl, upd_same, fun x6 H6 nd6 da6 ea6 ed6 ek6 => ⟨rfl, ?_⟩⟩⟩
  obtain ⟨s6, e6⟩ := mk_step n6 nd6 da6 ea6 ed6 ek6
  refine ⟨_, rfl, _, rfl, rfl, fun a7 n7 => ⟨a7, [v1, v2], rfl, rfl, upd_same, fun x7 H7 nd7 da7 ea7 ed7 ek7 => ⟨rfl, ?_⟩⟩⟩
  obtain ⟨s7, e7⟩ := mk_step n7 nd7 da7 ea7 ed7 ek7
  refine ⟨_, rfl, _, rfl, rfl, fun a8 n8 => ⟨a8, [v1, v2], rfl, rfl, upd_same, fun x8 H8 nd8 da8 ea8 ed8 ek8 => ⟨rfl, ?_⟩⟩⟩
  obtain ⟨s8, e8⟩ := mk_step n8 nd8 da8 ea8 ed8 ek8
  refine ⟨by show 3 ≤ sizeLine; decide, fun ls1 nls1 => ?_⟩
  have sls1 := same_new (o := .lst (([a6, a7, a8] : List Addr).map V.ref)) nls1
  have hls1 : (upd H8 ls1 (.lst (([a6, a7, a8] : List Addr).map V.ref))) ls1 = some (.lst (([a6, a7, a8] : List Addr).map V.ref)) := upd_same
  refine ⟨_, _, _, _, rfl, rfl, (s6.trans (s7.trans (s8.trans (sls1)))) _ _ hls0, hls1, by show 9 ≤ sizeLine; decide, fun lc1 nlc1 => ?_⟩
  have slc1 := same_new (o := .lst (([a0, a1, a2, a3, a4, a5, a6, a7, a8] : List Addr).map V.ref)) nlc1
  have hlc1 : (upd (upd H8 ls1 (.lst (([a6, a7, a8] : List Addr).map V.ref))) lc1 (.lst (([a0, a1, a2, a3, a4, a5, a6, a7, a8] : List Addr).map V.ref))) lc1 = some (.lst (([a0, a1, a2, a3, a4, a5, a6, a7, a8] : List Addr).map V.ref)) := upd_same
  refine ⟨_, rfl, ?_⟩
  refine ⟨_, rfl, _, rfl, rfl, fun a9 n9 => ⟨a9, [v1, v2], rfl, rfl, upd_same, fun x9 H9 nd9 da9 ea9 ed9 ek9 => ⟨rfl, ?_⟩⟩⟩
  obtain ⟨s9, e9⟩ := mk_step n9 nd9 da9 ea9 ed9 ek9
  refine ⟨_, rfl, _, rfl, _, rfl, rfl, fun a10 n10 => ⟨a10, [v1, v2, v3], rfl, rfl, upd_same, fun x10 H10 nd10 da10 ea10 ed10 ek10 => ⟨rfl, ?_⟩⟩⟩
  obtain ⟨s10, e10⟩ := mk_step n10 nd10 da10 ea10 ed10 ek10
  refine ⟨by show 2 ≤ sizeLine; decide, fun ls2 nls2 => ?_⟩
  have sls2 := same_new (o := .lst (([a9, a10] : List Addr).map V.ref)) nls2
  have hls2 : (upd H10 ls2 (.lst (([a9, a10] : List Addr).map V.ref))) ls2 = some (.lst (([a9, a10] : List Addr).map V.ref)) := upd_same
  refine ⟨_, _, _, _, rfl, rfl, (s9.trans (s10.trans (sls2))) _ _ hlc1, hls2, by show 11 ≤ sizeLine; decide, fun lc2 nlc2 => ?_⟩
  have slc2 := same_new (o := .lst (([a0, a1, a2, a3, a4, a5, a6, a7, a8, a9, a10] : List Addr).map V.ref)) nlc2
  have hlc2 : (upd (upd H10 ls2 (.lst (([a9, a10] : List Addr).map V.ref))) lc2 (.lst (([a0, a1, a2, a3, a4, a5, a6, a7, a8, a9, a10] : List Addr).map V.ref))) lc2 = some (.lst (([a0, a1, a2, a3, a4, a5, a6, a7, a8, a9, a10] : List Addr).map V.ref)) := upd_same
  refine q lc2 [a0, a1, a2, a3, a4, a5, a6, a7, a8, a9, a10] _ (s0.trans (s1.trans (s2.trans (s3.trans (s4.trans (s5.trans (sls0.trans (s6.trans (s7.trans (s8.trans (sls1.trans (slc1.trans (s9.trans (s10.trans (sls2.trans (slc2)))))))))))))))) ((s0.trans (s1.trans (s2.trans (s3.trans (s4.trans (s5.trans (sls0.trans (s6.trans (s7.trans (s8.trans (sls1.trans (slc1.trans (s9.trans (s10.trans (sls2))))))))))))))).free nlc2) hlc2 rfl ?_
  exact ⟨e0.on (s1.trans (s2.trans (s3.trans (s4.trans (s5.trans (sls0.trans (s6.trans (s7.trans (s8.trans (sls1.trans (slc1.trans (s9.trans (s10.trans (sls2.trans (slc2))))))))))))))) (Same.refl _), e1.on (s2.trans (s3.trans (s4.trans (s5.trans (sls0.trans (s6.trans (s7.trans (s8.trans (sls1.trans (slc1.trans (s9.trans (s10.trans (sls2.trans (slc2)))))))))))))) (s0), e2.on (s3.trans (s4.trans (s5.trans (sls0.trans (s6.trans (s7.trans (s8.trans (sls1.trans (slc1.trans (s9.trans (s10.trans (sls2.trans (slc2))))))))))))) (s0.trans (s1)), e3.on (s4.trans (s5.trans (sls0.trans (s6.trans (s7.trans (s8.trans (sls1.trans (slc1.trans (s9.trans (s10.trans (sls2.trans (slc2)))))))))))) (s0.trans (s1.trans (s2))), e4.on (s5.trans (sls0.trans (s6.trans (s7.trans (s8.trans (sls1.trans (slc1.trans (s9.trans (s10.trans (sls2.trans (slc2))))))))))) (s0.trans (s1.trans (s2.trans (s3)))), e5.on (sls0.trans (s6.trans (s7.trans (s8.trans (sls1.trans (slc1.trans (s9.trans (s10.trans (sls2.trans (slc2)))))))))) (s0.trans (s1.trans (s2.trans (s3.trans (s4))))), e6.on (s7.trans (s8.trans (sls1.trans (slc1.trans (s9.trans (s10.trans (sls2.trans (slc2)))))))) (s0.trans (s1.trans (s2.trans (s3.trans (s4.trans (s5.trans (sls0))))))), e7.on (s8.trans (sls1.trans (slc1.trans (s9.trans (s10.trans (sls2.trans (slc2))))))) (s0.trans (s1.trans (s2.trans (s3.trans (s4.trans (s5.trans (sls0.trans (s6)))))))), e8.on (sls1.trans (slc1.trans (s9.trans (s10.trans (sls2.trans (slc2)))))) (s0.trans (s1.trans (s2.trans (s3.trans (s4.trans (s5.trans (sls0.trans (s6.trans (s7))))))))), e9.on (s10.trans (sls2.trans (slc2))) (s0.trans (s1.trans (s2.trans (s3.trans (s4.trans (s5.trans (sls0.trans (s6.trans (s7.trans (s8.trans (sls1.trans (slc1)))))))))))), e10.on (sls2.trans (slc2)) (s0.trans (s1.trans (s2.trans (s3.trans (s4.trans (s5.trans (sls0.trans (s6.trans (s7.trans (s8.trans (sls1.trans (slc1.trans (s9))))))))))))), trivial⟩
end
end K1

set_option maxHeartbeats 4000000
namespace K1
open PySem PySem.Spec PyProof.Rows L2
abbrev sFields : Stmt := topS 19
abbrev sKinds : Stmt := topS 20
theorem scFields : FnScope ["_law_k", "_law_e"] ["_law_k", "_law_e"] (defScope sFields) := ⟨rfl, rfl, rfl, by decide +kernel, rfl, by decide +kernel, by decide +kernel⟩
abbrev nKinds : List Str := ["_law_e", "_law_found", "_law_k"]
theorem scKinds : FnScope nKinds ["_law_e"] (defScope sKinds) := ⟨rfl, rfl, rfl, by decide +kernel, rfl, by decide +kernel, by decide +kernel⟩
/-- the fields of the error e of the k-th class -/
def spFields (cs : Nat → Addr) : Sp := fun vs H Q _ => ∃ (k : Nat) (e : Addr) (v1 v2 v3 : V), vs = [.int (k : Int), .ref e] ∧ k < 11 ∧ ErrAt H e (cs k) (fsOf k v1 v2 v3) ∧
  ∀ (p : Addr) (H' : Hp), Same H H' → H' p = some (.lst (ysOf k v1 v2 v3)) → Q (.ref p) H'
/-- the classes to which e belongs -/
def spKinds (cs : Nat → Addr) : Sp := fun vs H Q _ => ∃ (k : Nat) (e : Addr) (fs : List (Str × V)), vs = [.ref e] ∧ k < 11 ∧ ErrAt H e (cs k) fs ∧
  ∀ (p : Addr) (H' : Hp), Same H H' → H' p = some (.lst [.int (k : Int)]) → Q (.ref p) H'
/-- no field of that name stands in the class -/
def NoF (K : PySem.W.Frag) (cs : Nat → Addr) : Prop := ∀ k n, n ∈ namesOf k → PySem.W.findIn K (.ref (cs k)) n = some none
theorem ErrAt.dict {H : Hp} {e C : Addr} {f : Str × V} {fs : List (Str × V)} (h : ErrAt H e C (f :: fs)) : ∃ d, H e = some (exo e C (some d)) ∧ H d = some (exd d (f :: fs)) := by
  rcases h with ⟨a, _⟩ | h
  · cases a
  · exact h
theorem look_ne {f g : Str} {v : V} {fs : List (Str × V)} (h : (g == f) = false) : List.lookup g ((f, v) :: fs) = List.lookup g fs := by
  simp only [List.lookup, h]
theorem look_eq {f : Str} {v : V} {fs : List (Str × V)} : List.lookup f ((f, v) :: fs) = some v := by
  simp [List.lookup]
section
variable {P : Program} {w : World} {K : PySem.W.Frag} {mg : Str → Option Value} {base : Heap}
theorem ok_fields {f T : Addr} {cs : Nat → Addr} {fd : FuncData} (F : Fun K "_law_fields" "_law_fields" sFields f fd) (X : Txt K mg T cs) (N : NoF K cs) : FnOk P w K mg base CX0 1 f fd ["_law_k", "_law_e"] (spFields cs) := by
  refine F.ok scFields (fun vs H Q E h => ?_) (fun cdv A outer s H vs Q E hr h => ?_)
  · obtain ⟨k, e, v1, v2, v3, rfl, _⟩ := h
    rfl
  obtain ⟨k, e, v1, v2, v3, rfl, hk, hE, q⟩ := h
  refine ⟨_, pss_cons (ps_if (pt_cmpR op_lt (pv 0) pe_int (nomark _)) (pss_one (ps_ret (pe_lst pa_nil))) pss_nil)
    (pss_cons (ps_if (pt_cmpR op_lt (pv 0) pe_int (nomark _)) (pss_one (ps_ret (pe_ifExp (pt_cmpR op_eq (pv 0) pe_int (nomark _)) (pe_lst (pa_cons (pe_exa (pv 1)) pa_nil)) (pe_lst (pa_cons (pe_exa (pv 1)) pa_nil))))) pss_nil)
    (pss_cons (ps_if (pt_cmpR op_lt (pv 0) pe_int (nomark _)) (pss_one (ps_ret (pe_lst (pa_cons (pe_exa (pv 1)) pa_nil)))) pss_nil)
    (pss_cons (ps_if (pt_cmpR op_in_seq (pv 0) (pe_tup (pa_cons pe_int (pa_cons pe_int pa_nil))) (by rfl)) (pss_one (ps_ret (pe_lst (pa_cons (pe_exa (pv 1)) (pa_cons (pe_exa (pv 1)) pa_nil))))) pss_nil)
    (pss_one (ps_ret (pe_ifExp (pt_cmpR op_eq (pv 0) pe_int (nomark _)) (pe_lst (pa_cons (pe_exa (pv 1)) (pa_cons (pe_exa (pv 1)) pa_nil))) (pe_lst (pa_cons (pe_exa (pv 1)) (pa_cons (pe_exa (pv 1)) (pa_cons (pe_exa (pv 1)) pa_nil)))))))))), ?_⟩
  have fin : ∀ {p : Addr} {ys : List V} {H1 : Hp}, Same H H1 → H1 p = none → ys = ysOf k v1 v2 v3 → Q (.ref p) (upd H1 p (.lst ys)) := fun {p ys H1} s np ey => q p _ (s.trans (same_new np)) (by rw [upd_same, ey])
  refine ⟨_, rfl, _, _, rfl, rfl, _, rfl, ?_⟩
  refine ite2 (fun c => ?_) (fun c => ?_)
  · have c' : (k : Int) < 3 := of_decide_eq_true c
    refine ⟨Nat.zero_le _, fun p np => fin (Same.refl _) np ?_⟩
    unfold ysOf
    rw [if_pos (by omega)]
  have c3 : ¬ (k : Int) < 3 := fun z => c (decide_eq_true z)
  refine ⟨_, rfl, _, _, rfl, rfl, _, rfl, ?_⟩
  refine ite2 (fun c => ?_) (fun c => ?_)
  · have c' : (k : Int) < 5 := of_decide_eq_true c
    refine ⟨_, rfl, rfl, _, rfl, ?_⟩
    have hk34 : k = 3 ∨ k = 4 := by omega
    rcases hk34 with rfl | rfl
    · refine iteT ?_
      obtain ⟨d, he, hd⟩ := hE.dict
      exact ⟨_, rfl, e, cs 3, T, d, _, v1, rfl, X.err 3 hk, N 3 _ (by decide +kernel), he, hd, look_eq, by show 1 ≤ sizeLine; decide, fun p np => fin (Same.refl _) np rfl⟩
    · refine iteF ?_
      obtain ⟨d, he, hd⟩ := hE.dict
      exact ⟨_, rfl, e, cs 4, T, d, _, v1, rfl, X.err 4 hk, N 4 _ (by decide +kernel), he, hd, look_eq, by show 1 ≤ sizeLine; decide, fun p np => fin (Same.refl _) np rfl⟩
  have c5 : ¬ (k : Int) < 5 := fun z => c (decide_eq_true z)
  refine ⟨_, rfl, _, _, rfl, rfl, _, rfl, ?_⟩
  refine ite2 (fun c => ?_) (fun c => ?_)
  · have c' : (k : Int) < 7 := of_decide_eq_true c
    have hk56 : k = 5 ∨ k = 6 := by omega
    rcases hk56 with rfl | rfl
    · obtain ⟨d, he, hd⟩ := hE.dict
      exact ⟨_, rfl, e, cs 5, T, d, _, v1, rfl, X.err 5 hk, N 5 _ (by decide +kernel), he, hd, look_eq, by show 1 ≤ sizeLine; decide, fun p np => fin (Same.refl _) np rfl⟩
    · obtain ⟨d, he, hd⟩ := hE.dict
      exact ⟨_, rfl, e, cs 6, T, d, _, v1, rfl, X.err 6 hk, N 6 _ (by decide +kernel), he, hd, look_eq, by show 1 ≤ sizeLine; decide, fun p np => fin (Same.refl _) np rfl⟩
  have c7 : ¬ (k : Int) < 7 := fun z => c (decide_eq_true z)
  refine ⟨_, rfl, by show 2 ≤ sizeLine; decide, fun t nt => ?_⟩
  have st : Same H (upd H t (.tup [.int 7, .int 9])) := same_new nt
  refine ⟨t, _, rfl, .inr (SqT.of upd_same), rfl, by decide, _, rfl, ?_⟩
  have hE' := hE.keep st
  have hk4 : k = 7 ∨ k = 8 ∨ k = 9 ∨ k = 10 := by omega
  rcases hk4 with rfl | rfl | rfl | rfl
  · refine iteT ?_
    obtain ⟨d, he, hd⟩ := hE'.dict
    exact ⟨_, rfl, e, cs 7, T, d, _, v1, rfl, X.err 7 hk, N 7 _ (by decide +kernel), he, hd, Eq.trans (look_ne (by decide +kernel)) look_eq, _, rfl, e, cs 7, T, d, _, v2, rfl, X.err 7 hk, N 7 _ (by decide +kernel), he, hd, look_eq, by show 2 ≤ sizeLine; decide, fun p np => fin st np rfl⟩
  · refine iteF ?_
    refine ⟨_, rfl, rfl, _, rfl, iteT ?_⟩
    obtain ⟨d, he, hd⟩ := hE'.dict
    exact ⟨_, rfl, e, cs 8, T, d, _, v1, rfl, X.err 8 hk, N 8 _ (by decide +kernel), he, hd, Eq.trans (look_ne (by decide +kernel)) look_eq, _, rfl, e, cs 8, T, d, _, v2, rfl, X.err 8 hk, N 8 _ (by decide +kernel), he, hd, look_eq, by show 2 ≤ sizeLine; decide, fun p np => fin st np rfl⟩
  · refine iteT ?_
    obtain ⟨d, he, hd⟩ := hE'.dict
    exact ⟨_, rfl, e, cs 9, T, d, _, v1, rfl, X.err 9 hk, N 9 _ (by decide +kernel), he, hd, Eq.trans (look_ne (by decide +kernel)) look_eq, _, rfl, e, cs 9, T, d, _, v2, rfl, X.err 9 hk, N 9 _ (by decide +kernel), he, hd, look_eq, by show 2 ≤ sizeLine; decide, fun p np => fin st np rfl⟩
  · refine iteF ?_
    refine ⟨_, rfl, rfl, _, rfl, iteF ?_⟩
    obtain ⟨d, he, hd⟩ := hE'.dict
    exact ⟨_, rfl, e, cs 10, T, d, _, v1, rfl, X.err 10 hk, N 10 _ (by decide +kernel), he, hd, Eq.trans (look_ne (by decide +kernel)) (Eq.trans (look_ne (by decide +kernel)) look_eq), _, rfl, e, cs 10, T, d, _, v2, rfl, X.err 10 hk, N 10 _ (by decide +kernel), he, hd, Eq.trans (look_ne (by decide +kernel)) look_eq,
      _, rfl, e, cs 10, T, d, _, v3, rfl, X.err 10 hk, N 10 _ (by decide +kernel), he, hd, look_eq, by show 3 ≤ sizeLine; decide, fun p np => fin st np rfl⟩
theorem one_ix {T : Addr} {cs : Nat → Addr} {k j : Nat} (X : Txt K mg T cs) (hk : k < 11) (hj : j < 11) : PySem.W.kitOne K (.ref (cs k)) (.ref (cs j)) = some (decide (k = j)) := by
  rw [(X.err k hk).one (X.err j hj) (X.neT j hj)]
  congr 1
  by_cases e : k = j
  · rw [decide_eq_true e, decide_eq_true (congrArg cs e)]
  · rw [decide_eq_false e, decide_eq_false fun z => e (X.inj k j hk hj z)]
theorem ok_kinds {f T : Addr} {cs : Nat → Addr} {fd : FuncData} (F : Fun K "_law_kinds" "_law_kinds" sKinds f fd) (X : Txt K mg T cs) : FnOk P w K mg base CX0 1 f fd ["_law_e"] (spKinds cs) := by
  refine F.ok scKinds (fun vs H Q E h => ?_) (fun cdv A outer s H vs Q E hr h => ?_)
  · obtain ⟨k, e, fs, rfl, _⟩ := h
    rfl
  obtain ⟨k, e, fs, rfl, hk, hE, q⟩ := h
  refine ⟨_, pss_cons (ps_set (i := 1) scKinds.nd rfl (.inr rfl) (pe_lst (pa_cons (pe_callB (call_isX X.mach) (by rfl) X.zI (by decide +kernel) (pa_cons (pv 0) (pa_cons (pe_glob (v := .ref (cs 0)) rfl X.g0 rfl) pa_nil))) (pa_cons (pe_callB (call_isX X.mach) (by rfl) X.zI (by decide +kernel) (pa_cons (pv 0) (pa_cons (pe_glob (v := .ref (cs 1)) rfl X.g1 rfl) pa_nil))) (pa_cons (pe_callB (call_isX X.mach) (by rfl) X.zI (by decide +kernel) (pa_cons (pv 0) (pa_cons (pe_glob (v := .ref (cs 2)) rfl X.g2 rfl) pa_nil))) (pa_cons (pe_callB (call_isX X.mach) (by rfl) X.zI (by decide +kernel) (pa_cons (pv 0) (pa_cons (pe_glob (v := .ref (cs 3)) rfl X.g3 rfl) pa_nil))) pa_nil))))))
    (pss_cons (ps_set (i := 1) scKinds.nd rfl (.inr rfl) (pe_op op_cat (pv 1) (pe_lst (pa_cons (pe_callB (call_isX X.mach) (by rfl) X.zI (by decide +kernel) (pa_cons (pv 0) (pa_cons (pe_glob (v := .ref (cs 4)) rfl X.g4 rfl) pa_nil))) (pa_cons (pe_callB (call_isX X.mach) (by rfl) X.zI (by decide +kernel) (pa_cons (pv 0) (pa_cons (pe_glob (v := .ref (cs 5)) rfl X.g5 rfl) pa_nil))) (pa_cons (pe_callB (call_isX X.mach) (by rfl) X.zI (by decide +kernel) (pa_cons (pv 0) (pa_cons (pe_glob (v := .ref (cs 6)) rfl X.g6 rfl) pa_nil))) (pa_cons (pe_callB (call_isX X.mach) (by rfl) X.zI (by decide +kernel) (pa_cons (pv 0) (pa_cons (pe_glob (v := .ref (cs 7)) rfl X.g7 rfl) pa_nil))) pa_nil)))))))
    (pss_cons (ps_set (i := 1) scKinds.nd rfl (.inr rfl) (pe_op op_cat (pv 1) (pe_lst (pa_cons (pe_callB (call_isX X.mach) (by rfl) X.zI (by decide +kernel) (pa_cons (pv 0) (pa_cons (pe_glob (v := .ref (cs 8)) rfl X.g8 rfl) pa_nil))) (pa_cons (pe_callB (call_isX X.mach) (by rfl) X.zI (by decide +kernel) (pa_cons (pv 0) (pa_cons (pe_glob (v := .ref (cs 9)) rfl X.g9 rfl) pa_nil))) (pa_cons (pe_callB (call_isX X.mach) (by rfl) X.zI (by decide +kernel) (pa_cons (pv 0) (pa_cons (pe_glob (v := .ref (cs 10)) rfl X.g10 rfl) pa_nil))) pa_nil))))))
    (pss_one (ps_ret (pe_lc (own := [("_law_k", 2)]) (g := gName 2) (tt := tB (tOp (rIxL K) (tVar 1) (tVar 2))) rfl scKinds.nd (pi_range1 rfl X.zR (pa_cons pe_int pa_nil))
        (blkOk_by (own := [("_law_k", 2)]) (N := nKinds) (sc := defScope sKinds) (by decide +kernel)) (fun _ _ _ _ _ => pg_name (i := 2) scKinds.nd rfl (.inl rfl)) (fun _ _ _ _ _ => pts_one (pt_val (pe_ix ix_list (pv 1) (pv 2) (fun _ _ => rfl))))
        (fun _ _ _ _ _ => pv 2)))))), ?_⟩
  refine ⟨_, rfl, e, cs k, T, .ref (cs 0), .ref (cs 0), decide (k = 0), fs, rfl, fun u h => h, X.err k hk, hE, one_ix X hk (by decide), _, rfl, e, cs k, T, .ref (cs 1), .ref (cs 1), decide (k = 1), fs, rfl, fun u h => h, X.err k hk, hE, one_ix X hk (by decide), _, rfl, e, cs k, T, .ref (cs 2), .ref (cs 2), decide (k = 2), fs, rfl, fun u h => h, X.err k hk, hE, one_ix X hk (by decide), _, rfl, e, cs k, T, .ref (cs 3), .ref (cs 3), decide (k = 3), fs, rfl, fun u h => h, X.err k hk, hE, one_ix X hk (by decide), by show 4 ≤ sizeLine; decide, fun l1 n1 => ?_⟩
  have s1 := same_new (o := .lst (([0, 1, 2, 3] : List Nat).map fun j => V.bl (decide (k = j)))) n1
  have hE1 := hE.keep s1
  refine ⟨_, rfl, _, rfl, e, cs k, T, .ref (cs 4), .ref (cs 4), decide (k = 4), fs, rfl, fun u h => h, X.err k hk, hE1, one_ix X hk (by decide), _, rfl, e, cs k, T, .ref (cs 5), .ref (cs 5), decide (k = 5), fs, rfl, fun u h => h, X.err k hk, hE1, one_ix X hk (by decide), _, rfl, e, cs k, T, .ref (cs 6), .ref (cs 6), decide (k = 6), fs, rfl, fun u h => h, X.err k hk, hE1, one_ix X hk (by decide), _, rfl, e, cs k, T, .ref (cs 7), .ref (cs 7), decide (k = 7), fs, rfl, fun u h => h, X.err k hk, hE1, one_ix X hk (by decide), by show 4 ≤ sizeLine; decide, fun l2 n2 => ?_⟩
  have s2 := same_new (o := .lst (([4, 5, 6, 7] : List Nat).map fun j => V.bl (decide (k = j)))) n2
  have hE2 := hE1.keep s2
  have h12 := s2 l1 (.lst (([0, 1, 2, 3] : List Nat).map fun j => V.bl (decide (k = j)))) upd_same
  refine ⟨_, _, _, _, rfl, rfl, h12, upd_same, by show 8 ≤ sizeLine; decide, fun l3 n3 => ?_⟩
  have s3 := same_new (o := .lst (([0, 1, 2, 3, 4, 5, 6, 7] : List Nat).map fun j => V.bl (decide (k = j)))) n3
  have hE3 := hE2.keep s3
  refine ⟨_, rfl, _, rfl, e, cs k, T, .ref (cs 8), .ref (cs 8), decide (k = 8), fs, rfl, fun u h => h, X.err k hk, hE3, one_ix X hk (by decide), _, rfl, e, cs k, T, .ref (cs 9), .ref (cs 9), decide (k = 9), fs, rfl, fun u h => h, X.err k hk, hE3, one_ix X hk (by decide), _, rfl, e, cs k, T, .ref (cs 10), .ref (cs 10), decide (k = 10), fs, rfl, fun u h => h, X.err k hk, hE3, one_ix X hk (by decide), by show 3 ≤ sizeLine; decide, fun l4 n4 => ?_⟩
  have s4 := same_new (o := .lst (([8, 9, 10] : List Nat).map fun j => V.bl (decide (k = j)))) n4
  have h34 := s4 l3 (.lst (([0, 1, 2, 3, 4, 5, 6, 7] : List Nat).map fun j => V.bl (decide (k = j)))) upd_same
  refine ⟨_, _, _, _, rfl, rfl, h34, upd_same, by show 11 ≤ sizeLine; decide, fun l5 n5 => ?_⟩
  have s5 := same_new (o := .lst (([0, 1, 2, 3, 4, 5, 6, 7, 8, 9, 10] : List Nat).map fun j => V.bl (decide (k = j)))) n5
  have s05 := s1.trans (s2.trans (s3.trans (s4.trans s5)))
  refine ⟨11, rfl, by decide, by decide, fun D nD => ?_⟩
  have hD5 := same_new (o := .lst []) nD l5 (.lst ((List.range 11).map fun j => V.bl (decide (k = j)))) upd_same
  refine lc_range (lo := 0) (n := 11) (fun i H3 => Same H H3 ∧ H3 l5 = some (.lst ((List.range 11).map fun j => V.bl (decide (k = j)))) ∧ l5 ≠ D ∧ (∀ b o, H b = some o → b ≠ D) ∧ H3 D = some (.lst (if k < i then [.int (k : Int)] else []))) ?_ ?_ ?_
  · refine ⟨s05.trans (same_new nD), hD5, ne_of_none upd_same nD, fun b o e => ne_of_none (s05 _ _ e) nD, upd_same⟩
  · rintro i H3 hi ⟨sH, h5, n5D, nb, hD⟩
    refine ⟨rfl, ?_⟩
    have hat : atI ((List.range 11).map fun j => V.bl (decide (k = j))) ((i : Nat) : Int) = some (V.bl (decide (k = i))) := atI_nat (by rw [List.getElem?_map, List.getElem?_range hi]; rfl)
    refine ⟨_, rfl, _, rfl, l5, _, ((i : Nat) : Int), _, rfl, by show V.int (0 + (i : Int)) = _; rw [Int.zero_add], SqL.of h5, hat, _, rfl, ?_⟩
    refine ite2 (fun c => ?_) (fun c => ?_)
    · have ek : k = i := of_decide_eq_true c
      subst ek
      rw [if_neg (Nat.lt_irrefl _)] at hD
      refine ⟨_, rfl, [], hD, by show 0 < sizeLine; decide, ?_⟩
      refine ⟨fun b o e => by rw [upd_ne (nb b o e)]; exact sH b o e, by rw [upd_ne n5D]; exact h5, n5D, nb, ?_⟩
      rw [upd_same, if_pos (Nat.lt_succ_self _)]
      show some (HO.lst ([] ++ [V.int (0 + (k : Int))])) = _
      rw [Int.zero_add]
      rfl
    · have ek : k ≠ i := fun z => c (decide_eq_true z)
      refine ⟨sH, h5, n5D, nb, ?_⟩
      rw [hD]
      by_cases h : k < i
      · rw [if_pos h, if_pos (by omega)]
      · rw [if_neg h, if_neg (by omega)]
  · rintro H3 ⟨sH, _, _, _, hD⟩
    rw [if_pos hk] at hD
    exact q D H3 sH hD
end
end K1

set_option maxHeartbeats 4000000
namespace K1
open PySem PySem.Spec PyProof.Rows L2
/-! ### a def called at the very top, where no repr is under way -/
/-- the def at f keeps sp where it is called from outside -/
def TopOk (P : Program) (w : World) (K : PySem.W.Frag) (mg : Str → Option Value) (base : Heap) (f : Addr) (fd : FuncData) (ps : List Str) (sp : Sp) : Prop :=
  ∀ (s : Shared) (H : Hp) (args : Args) (us : List Value) (vs : List V) (Q : VK) (E : XK), Env0 P w K mg base callerA [] s H → BindsTo s fd args (ps.zip us) → Vals vs us → sp vs H Q E → codeAny (model P w) callerA (.call (.ref f) args) (CR CX0 [] P w H s Q E) s
theorem top_of {P : Program} {w : World} {K : PySem.W.Frag} {mg : Str → Option Value} {base : Heap} {k : Nat} {f : Addr} {x qual : Str} {st : Stmt} {fd : FuncData} {N ps : List Str} {sp : Sp} (F : Fun K x qual st f fd) (S : FnScope N ps (defScope st))
    (len : ∀ vs H Q E, sp vs H Q E → vs.length = ps.length) (hk : Room (k + 1) callerA)
    (hbody : ∀ (cdv : Value) (s : Shared) (H : Hp) (vs : List V) (Q : VK) (E : XK), sp vs H Q E →
      ∃ t, PSs (cxOf CX0 P w K mg base N qual (defScope st) f cdv callerA [] s H E).nox (defBody st) t ∧ t { nx := fun _ H' => Q .non H', rt := Q } (start N vs) H) : TopOk P w K mg base f fd ps sp := by
  obtain ⟨oc, od, kV, doc, pm, an, cdv, ct, osl, rfl, lk, hcd⟩ := F.ex
  intro s H args us vs Q E e0 hb r hsp
  have keepB : ∀ b o, base.get? b = some o → s.heap.get? b = some o := fun b o e => (e0.bs b o e).1
  have hl := len _ _ _ _ hsp
  have kinds : ∀ y ∈ ps.zip us, (defScope st).names.lookup y.1 = some .local ∨ ((defScope st).names.lookup y.1 = some .cell ∧ ((cellsFrom (s.heap.objs.size + 1) (defScope st).names []).lookup y.1).isSome = true) := by
    rintro ⟨n, v⟩ hy
    rcases S.par n (List.of_mem_zip hy).1 with z | z
    · exact Or.inl z
    · exact Or.inr ⟨z, PySem.W.cellsFrom_some _ _ _ (.inl z)⟩
  refine codeAny_call_function hk.depth ((e0.mod.kin.keeps keepB) _ _ lk) rfl S.co S.gen rfl (PySem.W.codeRec_of (e0.mod.kin.keeps keepB) hcd) (hb _ _ _ _ (wpAny_newFunctionEnv_cells S.kind kinds fun env he s1 z => ?_))
  subst he
  refine ⟨(e0.mod.nolimit.keeps keepB).keeps z.toInCall.keep, codeAny_func ?_⟩
  obtain ⟨t, ht, hq⟩ := hbody cdv s H vs Q E hsp
  have I : Inv (cxOf CX0 P w K mg base N qual (defScope st) f cdv callerA [] s H E) [] (start N vs) H s1 := inv_start S hk.hd e0 hl r z
  refine wpAny_mono (ht.nox.run [] s1 (start N vs) H _ I hq) (fun fl s' hs => ?_) fun e s' hs => hs
  cases fl with
  | ret u =>
    obtain ⟨v, σ', H', J, rv, q⟩ := hs
    exact ⟨v, H', J.os, J.bare, J.base, J.hok, rv, q⟩
  | next =>
    obtain ⟨σ', H', J, q⟩ := hs
    exact ⟨.non, H', J.os, J.bare, J.base, J.hok, rfl, q⟩
  | brk =>
    obtain ⟨_, _, _, q⟩ := hs
    exact q.elim
  | cont =>
    obtain ⟨_, _, _, q⟩ := hs
    exact q.elim
/-- one abstract heap for the script at a: nothing else is tracked -/
theorem top_one {P : Program} {w : World} {K : PySem.W.Frag} {mg mb : Str → Option Value} {fa a : Addr} {fd : FuncData} {x : Str} {sp : Sp} {s₁ : Shared} {vs : List Value} {n : Nat} {H : Hp}
    (KX : K.In s₁.heap) (hns : s₁.heap.Ns mainGlobals mg) (hb : s₁.heap.Ns builtinsNs mb) (hbb : ∀ x : Str, x ≠ "__name__" → mb x = bootBuiltins x) (hlim : s₁.heap.NoLimit) (hg : s₁.gens = #[])
    (ha : s₁.heap.get? a = some { cls := .type "list", data := .seq vs.toArray n }) (F : ∀ base : Heap, K.In base → base.Ns mainGlobals mg → TopOk P w K mg base fa fd [x] sp)
    (hbind : ∀ (s : Shared) (u : Value), BindsTo s fd ⟨[u], []⟩ [(x, u)]) (hsp : sp [.ref a] H (fun v _ => v = .bl true) fun _ _ _ => False) (hO : Only H) (hok : HOk P w H s₁.heap) (hA : ∀ b, H b ≠ none → b = a) (hK : H a ≠ none → K.lookup a = none) :
    codeAny (model P w) callerA (.call (.ref fa) ⟨[.ref a], []⟩) (fun r s' => r = .ok (.ret (.bool true)) ∧ PySem.OldK s₁.heap s'.heap ∧ s'.os = s₁.os ∧ AllBare s'.gens) s₁ := by
  have untracked : ∀ {b : Addr} {o : Obj}, s₁.heap.get? b = some o → (∀ n', o.data ≠ .seq vs.toArray n') → H b = none := fun {b o} e hd => by
    cases q : H b with
    | none => rfl
    | some u =>
      have eb : b = a := hA b (by rw [q]; simp)
      rw [eb, ha] at e
      cases e
      exact absurd rfl (hd n)
  have toNs : ∀ {b : Addr} {m : Str → Option Value}, s₁.heap.Ns b m → (hidT s₁.heap H).Ns b m := fun {b m} z => by
    obtain ⟨o, es, ep, e, d, r⟩ := z
    exact ⟨o, es, ep, hidT_get e (untracked e fun n' z => by rw [z] at d; cases d), d, r⟩
  have toK : K.In (hidT s₁.heap H) := fun b o e => hidT_get (KX b o e) (by
    cases q : H b with
    | none => rfl
    | some u =>
      have eb : b = a := hA b (by rw [q]; simp)
      rw [eb] at q e
      rw [hK (by rw [q]; simp)] at e
      cases e)
  have md : Mod K mg (hidT s₁.heap H) := by
    obtain ⟨mc, h1, h2⟩ := hlim
    exact ⟨toK, toNs hns, ⟨mb, toNs hb, hbb⟩, ⟨mc, toNs h1, h2⟩⟩
  have e0 : Env0 P w K mg (hidT s₁.heap H) callerA [] s₁ H :=
    { frames := rfl, mod := md, bs := fun b o e => of_hidT e, bsz := Nat.le_of_eq (hidT_size _ _), funs := trivial, frf := fun b z => absurd z (by simp [frs]), hok := hok, bare := .of_eq hg }
  refine codeAny_mono (F _ toK (toNs hns) s₁ H _ [.ref a] [.ref a] _ _ e0 (hbind s₁ (.ref a)) (.cons rfl .nil) hsp) fun r s' h => ?_
  cases r with
  | error e => exact (h : False).elim
  | ok fl =>
    cases fl with
    | next => exact (h : False).elim
    | brk => exact (h : False).elim
    | cont => exact (h : False).elim
    | ret u =>
      obtain ⟨v, H', os, bare, un, hok', rv, q⟩ := h
      obtain rfl : v = .bl true := q
      obtain rfl : u = Value.bool true := rv
      refine ⟨rfl, PySem.OldK.of_keep fun b o e => ?_, os, bare⟩
      cases q : H b with
      | none => exact un.keep b o e q (by simp [frs]) (by simp)
      | some u =>
        rcases hO b with z | ⟨ob, xs, z⟩
        · rw [q] at z; cases z
        · have e1 := (hok b _ z).1
          have e2 := (hok' b _ (un.frzs b ob _ z)).1
          rw [e] at e1
          cases e1
          exact e2
/-- the script handed to the law's def, whatever stands at it in the written part -/
theorem top_call {P : Program} {w : World} {K : PySem.W.Frag} {mg mb : Str → Option Value} {fa a : Addr} {fd : FuncData} {x : Str} {sp : Sp} {s₁ : Shared} {vs : List Value} {ns : List Int}
    (KX : K.In s₁.heap) (hns : s₁.heap.Ns mainGlobals mg) (hb : s₁.heap.Ns builtinsNs mb) (hbb : ∀ x : Str, x ≠ "__name__" → mb x = bootBuiltins x) (hlim : s₁.heap.NoLimit) (hg : s₁.gens = #[])
    (ha : s₁.heap.get? a = some { cls := .type "list", data := .seq vs.toArray }) (hi : IntsAre vs ns) (hl : ns.length ≤ sizeLine) (F : ∀ base : Heap, K.In base → base.Ns mainGlobals mg → TopOk P w K mg base fa fd [x] sp)
    (hbind : ∀ (s : Shared) (u : Value), BindsTo s fd ⟨[u], []⟩ [(x, u)]) (hsp : ∀ H : Hp, Only H → SqL K H a (ns.map V.int) → sp [.ref a] H (fun v _ => v = .bl true) fun _ _ _ => False) :
    codeAny (model P w) callerA (.call (.ref fa) ⟨[.ref a], []⟩) (fun r s' => r = .ok (.ret (.bool true)) ∧ PySem.OldK s₁.heap s'.heap ∧ s'.os = s₁.os ∧ AllBare s'.gens) s₁ := by
  have rv := vals_ints hi
  have len := hi.length
  cases hk : K.lookup a with
  | some o =>
    have e := KX a o hk
    rw [ha] at e
    cases e
    have O : Only fun _ => none := fun _ => .inl rfl
    exact top_one (H := fun _ => none) KX hns hb hbb hlim hg ha F hbind (hsp _ O (.inr ⟨_, vs.toArray, _, hk, rfl, rfl, rfl, by rw [List.size_toArray, len]; exact hl, by simpa using rv⟩)) O (fun b u z => nomatch z) (fun b z => absurd rfl z) fun z => absurd rfl z
  | none =>
    have atA : ∀ {b : Addr} {u : HO}, (upd (fun _ => none) a (.frz { cls := .type "list", data := .seq vs.toArray } (.lst (ns.map V.int)))) b = some u → b = a ∧ u = .frz { cls := .type "list", data := .seq vs.toArray } (.lst (ns.map V.int)) := fun {b u} z => by
      by_cases e : b = a
      · subst e
        rw [upd_same] at z
        exact ⟨rfl, (Option.some.inj z).symm⟩
      · rw [upd_ne e] at z
        cases z
    have O : Only (upd (fun _ => none) a (.frz { cls := .type "list", data := .seq vs.toArray } (.lst (ns.map V.int)))) := fun b => by
      by_cases e : b = a
      · exact .inr ⟨_, _, by rw [e]; exact upd_same⟩
      · exact .inl (by rw [upd_ne e])
    refine top_one (H := upd (fun _ => none) a (.frz { cls := .type "list", data := .seq vs.toArray } (.lst (ns.map V.int)))) KX hns hb hbb hlim hg ha F hbind (hsp _ O (.inl (.inr ⟨_, upd_same⟩))) O (fun b u z => ?_) (fun b z => ?_) fun _ => hk
    · obtain ⟨rfl, rfl⟩ := atA z
      exact ⟨ha, by rw [List.length_map]; exact hl, vs, _, rv, ha⟩
    · cases q : (upd (fun _ => none) a (.frz { cls := .type "list", data := .seq vs.toArray } (.lst (ns.map V.int)))) b with
      | none => exact absurd q z
      | some u => exact (atA q).1
/-- the goal that the head leaves -/
theorem walk_top {l : PySem.W.OpenLaw} {n : Nat} {q : Program} {loose : List Str} {XP : (Str → Option Value) → Heap → Prop} {YP : World → Heap → Prop} {d : DefRec} {K : Params → PySem.W.Frag} {sp : PySem.W.Frag → Sp} {x : Str}
    (hn : l.most = some n) (hn2 : n ≤ sizeLine) (hdf : d.params.defaults = []) (hY : ∀ (w : World) (h : Heap), YP w h → (K w.params).In h)
    (F : ∀ (w : World) (mg : Str → Option Value) (fa : Addr) (h : Heap), (K w.params).In h → h.Ns mainGlobals mg → mg d.name = some (.ref fa) →
      ∃ fd : FuncData, (∀ (s : Shared) (u : Value), BindsTo s fd ⟨[u], []⟩ [(x, u)]) ∧ ∀ base : Heap, (K w.params).In base → base.Ns mainGlobals mg → TopOk l.prog w (K w.params) mg base fa fd [x] (sp (K w.params)))
    (hsp : ∀ (K : PySem.W.Frag) (H : Hp) (a : Addr) (ns : List Int), ns.length ≤ n → Only H → SqL K H a (ns.map V.int) → sp K [.ref a] H (fun v _ => v = .bl true) fun _ _ _ => False) :
    PySem.W.WalkO q loose XP YP l.row.toRowW d [] (fun f vs => PySem.call f vs) := by
  refine Att.attach_call hn hdf fun w s₀ s₁ mg mb fa o pm cd doc a vs ns G Y ho hd hcd hmg hobj hints hlen hg => ?_
  obtain ⟨fd, hb, hF⟩ := F w mg fa _ (hY w _ Y) G.T.g hmg
  exact top_call (hY w _ Y) G.T.g G.T.b G.T.builtins G.T.nolimit hg hobj hints (Nat.le_trans hlen hn2) hF hb fun H hO hS => hsp _ H a ns hlen hO hS
end K1

set_option maxHeartbeats 8000000
namespace K1
open PySem PySem.Spec PyProof.Rows L2
abbrev sLaw : Stmt := topS 21
abbrev nLaw : List Str := ["_law_script", "_law_stream", "_law_kept", "_law_turn", "_law_k", "_law_things", "_law_kept_text", "_law_one", "_law_two", "_law_three", "_law_made_here", "_law_dues"]
theorem scLaw : FnScope nLaw ["_law_script"] (defScope sLaw) := ⟨rfl, rfl, rfl, by decide +kernel, rfl, by decide +kernel, by decide +kernel⟩
/-- three things at p, made behind H0: the first one apart from the others -/
structure Tri (H0 H : Hp) (p : Addr) (v1 v2 v3 : V) (d1 d2 d3 : PyData) (N1 N2 : Addr → Prop) : Prop where
  new : H0 p = none
  lst : H p = some (.lst [v1, v2, v3])
  n1 : ∀ b, N1 b → H0 b = none ∧ H b ≠ none ∧ b ≠ p ∧ ¬ N2 b
  n2 : ∀ b, N2 b → H0 b = none ∧ H b ≠ none ∧ b ≠ p
  a1 : Dn H N1 v1 d1
  a2 : Dn H N2 v2 d2
  a3 : Dn H N2 v3 d3
  z1 : Nice 1000 8 d1
  z2 : Nice 1000 8 d2
  z3 : Nice 1000 8 d3
theorem Tri.keep {H0 H H' : Hp} {p : Addr} {v1 v2 v3 : V} {d1 d2 d3 : PyData} {N1 N2 : Addr → Prop} (h : Tri H0 H p v1 v2 v3 d1 d2 d3 N1 N2) (k : ∀ b o, H0 b = none → H b = some o → H' b = some o) : Tri H0 H' p v1 v2 v3 d1 d2 d3 N1 N2 := by
  have up : ∀ b, H0 b = none → H b ≠ none → H' b ≠ none := fun b h0 hb z => by
    obtain ⟨o, e⟩ := Option.ne_none_iff_exists'.mp hb
    rw [k b o h0 e] at z
    cases z
  exact ⟨h.new, k _ _ h.new h.lst, fun b hb => ⟨(h.n1 b hb).1, up b (h.n1 b hb).1 (h.n1 b hb).2.1, (h.n1 b hb).2.2⟩, fun b hb => ⟨(h.n2 b hb).1, up b (h.n2 b hb).1 (h.n2 b hb).2.1, (h.n2 b hb).2.2⟩,
    h.a1.stay fun b o hb => k b o (h.n1 b hb).1, h.a2.stay fun b o hb => k b o (h.n2 b hb).1, h.a3.stay fun b o hb => k b o (h.n2 b hb).1, h.z1, h.z2, h.z3⟩
/-- what is kept of one turn: the tuple at t, all of it at addresses of Z -/
def RecOk (H : Hp) (cs : Nat → Addr) (Z : Addr → Prop) (t : Addr) : Prop := ∃ (m p : Addr) (es : List Addr) (v1 v2 v3 : V) (d1 d2 d3 : PyData) (N1 N2 : Addr → Prop),
  (Z t ∧ H t = some (.tup [.ref m, .ref p])) ∧ (Z m ∧ H m = some (.lst (es.map V.ref))) ∧ es.length = 11 ∧ Errs H Z cs v1 v2 v3 0 es ∧ (Z p ∧ H p = some (.lst [v1, v2, v3])) ∧
  (∀ b, N1 b → Z b ∧ b ≠ p ∧ b ≠ m ∧ ¬ N2 b) ∧ (∀ b, N2 b → Z b) ∧ Dn H N1 v1 d1 ∧ Dn H N2 v2 d2 ∧ Dn H N2 v3 d3 ∧ Nice 1000 8 d1 ∧ Nice 1000 8 d2 ∧ Nice 1000 8 d3
theorem RecOk.stay {H H' : Hp} {cs : Nat → Addr} {Z : Addr → Prop} {t : Addr} (h : RecOk H cs Z t) (k : ∀ b o, Z b → H b = some o → H' b = some o) : RecOk H' cs Z t := by
  obtain ⟨m, p, es, v1, v2, v3, d1, d2, d3, N1, N2, ⟨a1, a2⟩, ⟨a3, a4⟩, a5, a6, ⟨a7, a8⟩, a9, b1, b2, b3, b4, b5⟩ := h
  exact ⟨m, p, es, v1, v2, v3, d1, d2, d3, N1, N2, ⟨a1, k _ _ a1 a2⟩, ⟨a3, k _ _ a3 a4⟩, a5, a6.map fun e C fs z => z.stay k fun _ h => h, ⟨a7, k _ _ a7 a8⟩, a9, b1, b2.stay fun b o hb => k b o (a9 b hb).1, b3.stay fun b o hb => k b o (b1 b hb), b4.stay fun b o hb => k b o (b1 b hb), b5⟩
def Recs (H : Hp) (cs : Nat → Addr) : List (Addr × (Addr → Prop)) → Prop
  | [] => True
  | r :: rs => RecOk H cs r.2 r.1 ∧ (∀ q ∈ rs, ∀ b, r.2 b → ¬ q.2 b) ∧ Recs H cs rs
theorem Recs.stay {H H' : Hp} {cs : Nat → Addr} : ∀ {rs : List (Addr × (Addr → Prop))}, Recs H cs rs → (∀ q ∈ rs, ∀ b o, q.2 b → H b = some o → H' b = some o) → Recs H' cs rs
  | [], _, _ => trivial
  | r :: rs, h, k => ⟨h.1.stay (k r List.mem_cons_self), h.2.1, Recs.stay h.2.2 fun q hq => k q (List.mem_cons_of_mem _ hq)⟩
theorem Recs.snoc {H : Hp} {cs : Nat → Addr} {r : Addr × (Addr → Prop)} : ∀ {rs : List (Addr × (Addr → Prop))}, Recs H cs rs → RecOk H cs r.2 r.1 → (∀ q ∈ rs, ∀ b, q.2 b → ¬ r.2 b) → Recs H cs (rs ++ [r])
  | [], _, h, _ => ⟨h, fun q hq => by simp at hq, trivial⟩
  | s :: rs, h, k, d => ⟨h.1, fun q hq => by
      rcases List.mem_append.mp hq with hq | hq
      · exact h.2.1 q hq
      · rw [List.mem_singleton.mp hq]; exact d s List.mem_cons_self, Recs.snoc h.2.2 k fun q hq => d q (List.mem_cons_of_mem _ hq)⟩
/-- a list of data with one item more -/
theorem Nice.snoc {n k : Nat} {ds : List PyData} {i : Int} (h : Nice n k (.list ds)) (hi : Nice 6 1 (.int i)) : Nice (n + 1) (k + 1) (.list (ds ++ [.int i])) := by
  obtain ⟨h1, h2, h3, h4, h5⟩ := h
  simp only [PyData.leavesShort, PyData.showable, PyData.hasDict, PyData.depth, PyData.bulk] at h1 h2 h3 h4 h5
  have i1 := hi.ls
  have i2 := hi.sh
  have a1 : ∀ ds : List PyData, PyData.leavesShortAll 40 ds = true → PyData.leavesShortAll 40 (ds ++ [.int i]) = true := by
    intro ds
    induction ds with
    | nil => intro _; simp only [List.nil_append, PyData.leavesShortAll, i1, Bool.and_self]
    | cons d r ih => intro z; simp only [List.cons_append, PyData.leavesShortAll, Bool.and_eq_true] at z ⊢; exact ⟨z.1, ih z.2⟩
  have a2 : ∀ ds : List PyData, PyData.showableAll ds = true → PyData.showableAll (ds ++ [.int i]) = true := by
    intro ds
    induction ds with
    | nil => intro _; simp only [List.nil_append, PyData.showableAll, i2, Bool.and_self]
    | cons d r ih => intro z; simp only [List.cons_append, PyData.showableAll, Bool.and_eq_true] at z ⊢; exact ⟨z.1, ih z.2⟩
  have a3 : ∀ ds : List PyData, PyData.hasDictAll ds = false → PyData.hasDictAll (ds ++ [.int i]) = false := by
    intro ds
    induction ds with
    | nil => intro _; simp only [List.nil_append, PyData.hasDictAll, PyData.hasDict, Bool.or_self]
    | cons d r ih => intro z; simp only [List.cons_append, PyData.hasDictAll, Bool.or_eq_false_iff] at z ⊢; exact ⟨z.1, ih z.2⟩
  have a4 : ∀ ds : List PyData, PyData.depthAll (ds ++ [.int i]) = PyData.depthAll ds := by
    intro ds
    induction ds with
    | nil => simp only [List.nil_append, PyData.depthAll, PyData.depth, Nat.max_self]
    | cons d r ih => simp only [List.cons_append, PyData.depthAll, ih]
  have a5 : ∀ ds : List PyData, PyData.bulkAll (ds ++ [.int i]) = PyData.bulkAll ds + 1 := by
    intro ds
    induction ds with
    | nil => simp only [List.nil_append, PyData.bulkAll, PyData.bulk]
    | cons d r ih => simp only [List.cons_append, PyData.bulkAll, ih]; omega
  refine ⟨?_, ?_, ?_, ?_, ?_⟩ <;> simp only [PyData.leavesShort, PyData.showable, PyData.hasDict, PyData.depth, PyData.bulk]
  · exact a1 ds h1
  · exact a2 ds h2
  · exact a3 ds h3
  · rw [a4]; omega
  · rw [a5]; omega
theorem nice_seven : Nice 6 1 (.int 7) := chk_ok (by decide +kernel)
theorem nice_a : Nice 6 1 (.str "a") := chk_ok (by decide +kernel)
/-- the data of the k-th error's fields -/
def dsOf (k : Nat) (d1 d2 d3 : PyData) : List PyData := if k < 3 then [] else if k < 7 then [d1] else if k < 10 then [d1, d2] else [d1, d2, d3]
theorem dsOf_dp {K : PySem.W.Frag} {H : Hp} {v1 v2 v3 : V} {d1 d2 d3 : PyData} (h1 : Dp K H v1 d1) (h2 : Dp K H v2 d2) (h3 : Dp K H v3 d3) (k : Nat) : DpAll K H (ysOf k v1 v2 v3) (dsOf k d1 d2 d3) := by
  unfold ysOf dsOf
  split
  · exact .nil
  split
  · exact .cons h1 .nil
  split
  · exact .cons h1 (.cons h2 .nil)
  · exact .cons h1 (.cons h2 (.cons h3 .nil))
theorem dsOf_nice {d1 d2 d3 : PyData} (h1 : Nice 2000 10 d1) (h2 : Nice 2000 10 d2) (h3 : Nice 2000 10 d3) (k : Nat) : Nice 10000 11 (.list (dsOf k d1 d2 d3)) := by
  refine Nice.list (n := 2000) (k := 10) (fun d hd => ?_) ?_ <;> unfold dsOf at *
  · split at hd
    · simp at hd
    split at hd
    · rw [List.mem_singleton.mp hd]; exact h1
    split at hd
    · rcases List.mem_cons.mp hd with rfl | hd
      · exact h1
      · rw [List.mem_singleton.mp hd]; exact h2
    · rcases List.mem_cons.mp hd with rfl | hd
      · exact h1
      rcases List.mem_cons.mp hd with rfl | hd
      · exact h2
      · rw [List.mem_singleton.mp hd]; exact h3
  · split
    · exact Nat.le_of_ble_eq_true rfl
    split
    · exact Nat.le_of_ble_eq_true rfl
    split <;> exact Nat.le_of_ble_eq_true rfl
end K1

set_option maxHeartbeats 8000000
namespace K1
open PySem PySem.Spec PyProof.Rows L2
def spLaw (K : PySem.W.Frag) : Sp := fun vs H Q _ => ∃ (a : Addr) (ns : List Int), vs = [.ref a] ∧ SqL K H a (ns.map V.int) ∧ ns.length ≤ 63 ∧ ∀ H', Q (.bl true) H'
/-- the defs that the law calls -/
structure Defs (P : Program) (w : World) (K : PySem.W.Frag) (mg : Str → Option Value) (base : Heap) (cs : Nat → Addr) (fD fT fM fN fF fK : Addr) (dD dT dM dN dF dK : FuncData) : Prop where
  D : FnOk P w K mg base CX0 1 fD dD ["_law_stream", "_law_many"] spDraw
  bD : Binds K dD ["_law_stream", "_law_many"] []
  kD : PySem.W.keepIn K (.ref fD) = true
  mD : mg "_law_draw" = some (.ref fD)
  T : FnOk P w K mg base CX0 6 fT dT ["_law_stream", "_law_deep"] (spThing 4)
  bT : Binds K dT ["_law_stream", "_law_deep"] []
  kT : PySem.W.keepIn K (.ref fT) = true
  mT : mg "_law_thing" = some (.ref fT)
  M : FnOk P w K mg base CX0 3 fM dM ["_law_one", "_law_two", "_law_three"] (spMade cs)
  bM : Binds K dM ["_law_one", "_law_two", "_law_three"] []
  kM : PySem.W.keepIn K (.ref fM) = true
  mM : mg "_law_made" = some (.ref fM)
  N : FnOk P w K mg base CX0 3 fN dN ["_law_one", "_law_two", "_law_three"] (spMade cs)
  bN : Binds K dN ["_law_one", "_law_two", "_law_three"] []
  kN : PySem.W.keepIn K (.ref fN) = true
  mN : mg "_law_named" = some (.ref fN)
  F : FnOk P w K mg base CX0 1 fF dF ["_law_k", "_law_e"] (spFields cs)
  bF : Binds K dF ["_law_k", "_law_e"] []
  kF : PySem.W.keepIn K (.ref fF) = true
  mF : mg "_law_fields" = some (.ref fF)
  G : FnOk P w K mg base CX0 1 fK dK ["_law_e"] (spKinds cs)
  bG : Binds K dK ["_law_e"] []
  kG : PySem.W.keepIn K (.ref fK) = true
  mG : mg "_law_kinds" = some (.ref fK)
theorem ErrZ.put {H : Hp} {Z : Addr → Prop} {e C a : Addr} {fs : List (Str × V)} {xs ys : List V} (h : ErrZ H Z e C fs) (ha : H a = some (.lst xs)) : ErrZ (upd H a (.lst ys)) Z e C fs := by
  have ne : ∀ {b : Addr} {φ : Heap → Prop}, H b = some (.ext φ) → b ≠ a := fun {b φ} hb => ne_of hb ha (by intro z; cases z)
  rcases h with ⟨h1, h2, h3⟩ | ⟨d, h1, h2, h3, h4⟩
  · exact .inl ⟨h1, h2, by rw [upd_ne (ne h3)]; exact h3⟩
  · exact .inr ⟨d, h1, h2, by rw [upd_ne (ne h3)]; exact h3, by rw [upd_ne (ne h4)]; exact h4⟩
theorem room_top : Room 9 callerA := ⟨rfl, by decide, by decide⟩
section
variable {P : Program} {w : World} {K : PySem.W.Frag} {mg : Str → Option Value} {base : Heap}
theorem ok_law {f T fD fT fM fN fF fK : Addr} {cs : Nat → Addr} {fd dD dT dM dN dF dK : FuncData} (F : Fun K "law" "law" sLaw f fd) (X : Txt K mg T cs) (Y : Defs P w K mg base cs fD fT fM fN fF fK dD dT dM dN dF dK) :
    TopOk P w K mg base f fd ["_law_script"] (spLaw K) := by
  refine top_of (k := 8) F scLaw (fun vs H Q E h => ?_) room_top (fun cdv s H vs Q E h => ?_)
  · obtain ⟨a, ns, rfl, _⟩ := h
    rfl
  obtain ⟨sc, ns, rfl, hsc, h63, q⟩ := h
  have hr : Room 8 (callerA.deeper (envOfC "law" (defScope sLaw) s.heap.objs.size f cdv)) := room_top.deeper _
  have hr1 : Room 1 (callerA.deeper (envOfC "law" (defScope sLaw) s.heap.objs.size f cdv)) := hr.mono (by decide)
  have hr3 : Room 3 (callerA.deeper (envOfC "law" (defScope sLaw) s.heap.objs.size f cdv)) := hr.mono (by decide)
  have hr6 : Room 6 (callerA.deeper (envOfC "law" (defScope sLaw) s.heap.objs.size f cdv)) := hr.mono (by decide)
  refine ⟨_, pss_cons (ps_set (i := 1) scLaw.nd rfl (.inr rfl) (pe_lst (pa_cons (pe_callTy call_list_of (by rfl) X.zL (by decide +kernel) (pa_cons (pv 0) pa_nil)) (pa_cons (pe_int) (pa_cons (pe_int) (pa_cons (pe_int) pa_nil)))))) (pss_cons (ps_set (i := 2) scLaw.nd rfl (.inl rfl) (pe_lst pa_nil)) (C8.pss_cut (ps_for PassesOwn.never rfl (pi_range1 rfl X.zR (pa_cons pe_int pa_nil)) (pg_name (i := 3) scLaw.nd rfl (.inl rfl)) (pss_cons (ps_setLc (i := 5) (own := [("_law_k", 4)]) (g := gName 4) (tt := tYes) rfl scLaw.nd rfl rfl (sw_true rfl rfl rfl (by decide +kernel)) (pi_range1 rfl X.zR (pa_cons pe_int pa_nil)) (blkOk_by (own := [("_law_k", 4)]) (N := nLaw) (sc := defScope sLaw) (by decide +kernel)) (fun _ _ _ _ _ => pg_name (i := 4) scLaw.nd rfl (.inl rfl)) (fun _ _ _ _ _ => pts_nil) (fun _ _ _ _ _ => pe_call Y.T hr6 rfl Y.mT Y.kT Y.bT .nil pass0 (pa_cons (pv 1) (pa_cons (pe_int) pa_nil)))) (C8.pss_cut (ps_if (pt_cmpR op_eq (pe_call Y.D hr1 rfl Y.mD Y.kD Y.bD .nil pass0 (pa_cons (pv 1) (pa_cons (pe_int) pa_nil))) pe_int (nomark _)) (pss_one (ps_asg (pe_lst (pa_cons (pe_ix ix_list (pv 5) (pe_int) (fun _ _ => rfl)) (pa_cons (pe_str) pa_nil))) (pg_sub (pv 5) pe_int set_list))) pss_nil) (pss_cons (ps_set (i := 6) scLaw.nd rfl (.inl rfl) (pe_callB (call_reprD rfl hr) (by rfl) X.zP (by decide +kernel) (pa_cons (pv 5) pa_nil))) (pss_cons (ps_asg (pv 5) (pg_unl rfl (pgs_cons (pg_name (i := 7) scLaw.nd rfl (.inl rfl)) (pgs_cons (pg_name (i := 8) scLaw.nd rfl (.inl rfl)) (pgs_cons (pg_name (i := 9) scLaw.nd rfl (.inl rfl)) pgs_nil))))) (pss_cons (ps_set (i := 10) scLaw.nd rfl (.inl rfl) (pe_ifExp (pt_cmpR op_eq (pe_call Y.D hr1 rfl Y.mD Y.kD Y.bD .nil pass0 (pa_cons (pv 1) (pa_cons (pe_int) pa_nil))) pe_int (nomark _)) (pe_call Y.M hr3 rfl Y.mM Y.kM Y.bM .nil pass0 (pa_cons (pv 7) (pa_cons (pv 8) (pa_cons (pv 9) pa_nil)))) (pe_call Y.N hr3 rfl Y.mN Y.kN Y.bN .nil pass0 (pa_cons (pv 7) (pa_cons (pv 8) (pa_cons (pv 9) pa_nil)))))) (pss_cons (ps_expr (pe_bm PySem.F.plainAttrs_list PySem.F.slot_list_append PySem.F.type_list_append mt_append (pv 2) (pa_cons (pe_tup (pa_cons (pv 10) (pa_cons (pv 5) pa_nil))) pa_nil))) (pss_one (ps_if (pt_cmpR op_ne (pe_callB (call_reprD rfl hr) (by rfl) X.zP (by decide +kernel) (pa_cons (pv 5) pa_nil)) (pv 6) (nomark _)) (pss_one (ps_ret pe_bl)) pss_nil))))))))) (pss_cons (ps_for PassesOwn.never rfl (pi_list (pv 2)) (pg_tup rfl (pgs_cons (pg_name (i := 10) scLaw.nd rfl (.inl rfl)) (pgs_cons (pg_name (i := 5) scLaw.nd rfl (.inl rfl)) pgs_nil))) (C8.pss_cut (ps_if (pt_val (pe_callB call_isi (by rfl) X.zI (by decide +kernel) (pa_cons (pe_ix ix_list (pv 5) (pe_int) (fun _ _ => rfl)) (pa_cons (pe_bltn (v := .ty "list") (by rfl) X.zL (by decide +kernel) rfl) pa_nil)))) (pss_one (ps_expr (pe_bm PySem.F.plainAttrs_list PySem.F.slot_list_append PySem.F.type_list_append mt_append (pe_ix ix_list (pv 5) (pe_int) (fun _ _ => rfl)) (pa_cons pe_int pa_nil)))) pss_nil) (pss_cons (ps_set (i := 11) scLaw.nd rfl (.inl rfl) (pe_op op_cat (pe_op op_cat (pe_op op_cat (pe_op op_rep (pe_lst (pa_cons (pe_lst pa_nil) pa_nil)) (pe_int)) (pe_op op_rep (pe_lst (pa_cons (pe_slice sl_list (pv 5) po_none (po_some pe_int)) pa_nil)) (pe_int))) (pe_op op_rep (pe_lst (pa_cons (pe_slice sl_list (pv 5) po_none (po_some pe_int)) pa_nil)) (pe_int))) (pe_lst (pa_cons (pv 5) pa_nil)))) (pss_one (ps_for PassesOwn.never rfl (pi_range1 rfl X.zR (pa_cons pe_int pa_nil)) (pg_name (i := 4) scLaw.nd rfl (.inl rfl)) (pss_cons (ps_if (PW.pt (pw_or (pt_cmpR op_ne (pe_callB (call_reprD rfl hr) (by rfl) X.zP (by decide +kernel) (pa_cons (pe_call Y.F hr1 rfl Y.mF Y.kF Y.bF .nil pass0 (pa_cons (pv 4) (pa_cons (pe_ix ix_list (pv 10) (pv 4) (fun _ _ => rfl)) pa_nil))) pa_nil)) (pe_callB (call_reprD rfl hr) (by rfl) X.zP (by decide +kernel) (pa_cons (pe_ix ix_list (pv 11) (pv 4) (fun _ _ => rfl)) pa_nil)) (nomark _)) (pw_or1 (pt_cmpR (op_neD hr.units) (pe_call Y.G hr1 rfl Y.mG Y.kG Y.bG .nil pass0 (pa_cons (pe_ix ix_list (pv 10) (pv 4) (fun _ _ => rfl)) pa_nil)) (pe_lst (pa_cons (pv 4) pa_nil)) (nomark _))))) (pss_one (ps_ret pe_bl)) pss_nil) (pss_one (ps_if (PW.pt (pw_or (pt_not (pt_val (pe_callB (call_isX X.mach) (by rfl) X.zI (by decide +kernel) (pa_cons (pe_ix ix_list (pv 10) (pv 4) (fun _ _ => rfl)) (pa_cons (pe_glob (v := .ref T) rfl X.gT rfl) pa_nil))))) (pw_or1 (pt_not (pt_val (pe_callB (call_isX X.mach) (by rfl) X.zI (by decide +kernel) (pa_cons (pe_ix ix_list (pv 10) (pv 4) (fun _ _ => rfl)) (pa_cons (pe_bltn (v := .ty "ValueError") (by rfl) X.zV (by decide +kernel) rfl) pa_nil)))))))) (pss_one (ps_ret pe_bl)) pss_nil)))))))) (pss_one (ps_ret pe_bl))))), ?_⟩
  refine ⟨_, rfl, sc, _, rfl, .inl hsc, fun c0 nc0 => ⟨by show 4 ≤ sizeLine; decide, fun a0 na0 => ?_⟩⟩
  refine ⟨Nat.zero_le _, fun l nl => ?_⟩
  have cost3 : cost 3 = 120 := rfl
  have bulk3 : bulkOf 3 = 201 := rfl
  have ac : a0 ≠ c0 := fun z => by rw [z, upd_same] at na0; cases na0
  have la : l ≠ a0 := fun z => by rw [z, upd_same] at nl; cases nl
  have lc : l ≠ c0 := fun z => by rw [z, upd_ne ac.symm, upd_same] at nl; cases nl
  have h0 : StmAt (upd (upd (upd H c0 (.lst (ns.map V.int))) a0 (.lst [.ref c0, .int 0, .int 0, .int 0])) l (.lst [])) a0 c0 ⟨ns, 0, 0, 0⟩ :=
    ⟨by rw [upd_ne la.symm, upd_same], by rw [upd_ne lc.symm, upd_ne ac.symm, upd_same], ac, h63, Int.le_refl 0, Int.le_refl 0, Int.le_refl 0, by show (0 : Int) < 2147483647; decide⟩
  refine ⟨fun σ H1 => ∃ (rs : List (Addr × (Addr → Prop))) (x3 x4 x5 x6 x7 x8 x9 x10 x11 : Option V), σ = [some (.ref sc), some (.ref a0), some (.ref l), x3, x4, x5, x6, x7, x8, x9, x10, x11] ∧ H1 l = some (.lst (rs.map fun r => V.ref r.1)) ∧ Recs H1 cs rs ∧
      (∀ q ∈ rs, ∀ b, q.2 b → H1 b ≠ none ∧ b ≠ l), ?_, ?_⟩
  · refine ⟨3, rfl, by decide, by decide, for_range (lo := 0) (n := 3) (fun i σ H1 => ∃ (S : Stm) (rs : List (Addr × (Addr → Prop))) (x3 x4 x5 x6 x7 x8 x9 x10 x11 : Option V), σ = [some (.ref sc), some (.ref a0), some (.ref l), x3, x4, x5, x6, x7, x8, x9, x10, x11] ∧
        StmAt H1 a0 c0 S ∧ S.cnt ≤ (i : Int) * 1000 ∧ H1 l = some (.lst (rs.map fun r => V.ref r.1)) ∧ rs.length = i ∧ Recs H1 cs rs ∧ (∀ q ∈ rs, ∀ b, q.2 b → H1 b ≠ none ∧ b ≠ a0 ∧ b ≠ c0 ∧ b ≠ l)) ?_ ?_ ?_⟩
    · exact ⟨⟨ns, 0, 0, 0⟩, [], none, none, none, none, none, none, none, none, none, rfl, h0, by show (0 : Int) ≤ _; omega, upd_same, rfl, trivial, fun q hq => by simp at hq⟩
    · rintro i σ H1 hi ⟨S, rs, x3, x4, x5, x6, x7, x8, x9, x10, x11, rfl, h1, hc1, hl1, hlen, hrs, htr⟩
      refine ⟨3, rfl, by decide, by decide, fun D nD => ?_⟩
      have Da : D ≠ a0 := fun z => h1.a0 (z ▸ nD)
      have Dc : D ≠ c0 := fun z => h1.c0 (z ▸ nD)
      refine lc_range (lo := 0) (n := 3) (fun j H3 => ∃ (S3 : Stm) (xs : List V) (ds : List PyData) (N1 N2 : Addr → Prop), StmAt H3 a0 c0 S3 ∧ S3.cnt ≤ S.cnt + (j : Int) * 120 ∧ Kept a0 c0 H1 H3 ∧ H3 D = some (.lst xs) ∧ xs.length = j ∧ ds.length = j ∧
          (∀ b, N1 b → H1 b = none ∧ H3 b ≠ none ∧ b ≠ D ∧ ¬ N2 b) ∧ (∀ b, N2 b → H1 b = none ∧ H3 b ≠ none ∧ b ≠ D) ∧ (∀ v d, xs[0]? = some v → ds[0]? = some d → Dn H3 N1 v d) ∧ (∀ (m : Nat) v d, xs[m + 1]? = some v → ds[m + 1]? = some d → Dn H3 N2 v d) ∧ NiceL 201 4 ds) ?_ ?_ ?_
      · exact ⟨S, [], [], fun _ => False, fun _ => False, h1.keep (same_new nD), by omega, Kept.same (same_new nD), upd_same, rfl, rfl, fun b z => z.elim, fun b z => z.elim, fun v d e => by simp at e, fun m v d e => by simp at e, fun d hd => by simp at hd⟩
      · rintro j H3 hj ⟨S3, xs, ds, N1, N2, h3, hc3, k3, hD, hxl, hdl, hN1, hN2, hd1, hd2, ni⟩
        refine ⟨rfl, ?_⟩
        unfold tYes
        refine iteT ?_
        refine ⟨_, rfl, a0, c0, S3, 3, rfl, by decide, by decide, h3, by omega, fun H4 S4 v d h4 hc4 k4 dn4 ni4 => ?_⟩
        have hD4 : H4 D = some (.lst xs) := k4 _ _ Da Dc hD
        have s5 : ∀ b o, b ≠ D → H4 b = some o → (upd H4 D (.lst (xs ++ [v]))) b = some o := fun b o nb e => by rw [upd_ne nb]; exact e
        have k35 : ∀ b o, b ≠ D → H1 b = none → H3 b = some o → (upd H4 D (.lst (xs ++ [v]))) b = some o := fun b o nb n1 e => s5 b o nb (k4 b o (fun z => h1.a0 (z ▸ n1)) (fun z => h1.c0 (z ▸ n1)) e)
        have up35 : ∀ b, b ≠ D → H1 b = none → H3 b ≠ none → (upd H4 D (.lst (xs ++ [v]))) b ≠ none := fun b nb n1 e z => by
          obtain ⟨o, e⟩ := Option.ne_none_iff_exists'.mp e
          rw [k35 b o nb n1 e] at z
          cases z
        have newD : ∀ b, New H3 H4 b → H1 b = none ∧ (upd H4 D (.lst (xs ++ [v]))) b ≠ none ∧ b ≠ D := fun b hb => by
          have nb : b ≠ D := fun z => by
            have w := hb.1
            rw [z, hD] at w
            cases w
          exact ⟨k3.free h3.a0 h3.c0 hb.1, by rw [upd_ne nb]; exact hb.2, nb⟩
        have dn5 : Dn (upd H4 D (.lst (xs ++ [v]))) (New H3 H4) v d := dn4.stay fun b o hb e => s5 b o (newD b hb).2.2 e
        have ni5 : NiceL 201 4 (ds ++ [d]) := fun x hx => by
          rcases List.mem_append.mp hx with hx | hx
          · exact ni x hx
          · rw [List.mem_singleton.mp hx]; exact ni4
        have h5 : StmAt (upd H4 D (.lst (xs ++ [v]))) a0 c0 S4 := ⟨s5 _ _ (Ne.symm Da) h4.lst, s5 _ _ (Ne.symm Dc) h4.cel, h4.ne, h4.len, h4.cur0, h4.cnt0, h4.mix0, h4.mix1⟩
        have K5 : Kept a0 c0 H1 (upd H4 D (.lst (xs ++ [v]))) := fun b o n1 n2 e => s5 _ _ (ne_of_none e nD) (k4 _ _ n1 n2 (k3 _ _ n1 n2 e))
        refine ⟨xs, hD4, Nat.lt_of_le_of_lt (by omega : xs.length ≤ 3) (by decide), ?_⟩
        by_cases hj0 : j = 0
        · subst hj0
          have ex : xs = [] := List.eq_nil_of_length_eq_zero hxl
          have ed : ds = [] := List.eq_nil_of_length_eq_zero hdl
          subst ex
          subst ed
          refine ⟨S4, [v], [d], New H3 H4, fun _ => False, h5, by omega, K5, upd_same, rfl, rfl, fun b hb => ⟨(newD b hb).1, (newD b hb).2.1, (newD b hb).2.2, id⟩, fun b z => z.elim, fun v' d' e1 e2 => ?_, fun m v' d' e1 => by simp at e1, ni5⟩
          cases e1; cases e2
          exact dn5
        · refine ⟨S4, xs ++ [v], ds ++ [d], N1, fun b => N2 b ∨ New H3 H4 b, h5, by omega, K5, upd_same, by rw [List.length_append, hxl]; rfl, by rw [List.length_append, hdl]; rfl, fun b hb => ⟨(hN1 b hb).1, up35 b (hN1 b hb).2.2.1 (hN1 b hb).1 (hN1 b hb).2.1, (hN1 b hb).2.2.1, fun z => ?_⟩,
            fun b hb => ?_, fun v' d' e1 e2 => ?_, fun m v' d' e1 e2 => ?_, ni5⟩
          · rcases z with z | z
            · exact (hN1 b hb).2.2.2 z
            · exact (hN1 b hb).2.1 z.1
          · rcases hb with hb | hb
            · exact ⟨(hN2 b hb).1, up35 b (hN2 b hb).2.2 (hN2 b hb).1 (hN2 b hb).2.1, (hN2 b hb).2.2⟩
            · exact newD b hb
          · rw [List.getElem?_append_left (by omega)] at e1
            rw [List.getElem?_append_left (by omega)] at e2
            exact (hd1 v' d' e1 e2).stay fun b o hb e => k35 b o (hN1 b hb).2.2.1 (hN1 b hb).1 e
          · by_cases hm : m + 1 < xs.length
            · rw [List.getElem?_append_left hm] at e1
              rw [List.getElem?_append_left (by omega)] at e2
              exact ((hd2 m v' d' e1 e2).stay fun b o hb e => k35 b o (hN2 b hb).2.2 (hN2 b hb).1 e).mono fun b hb => .inl hb
            · have hl : m + 1 < (xs ++ [v]).length := (List.getElem?_eq_some_iff.mp e1).1
              rw [List.length_append, List.length_singleton] at hl
              have em : m + 1 = xs.length := by omega
              rw [List.getElem?_append_right (by omega), em, Nat.sub_self] at e1
              rw [List.getElem?_append_right (by omega), em, hxl, ← hdl, Nat.sub_self] at e2
              cases e1; cases e2
              exact dn5.mono fun b hb => .inr hb
      · rintro H3 ⟨S3, xs, ds, N1, N2, h3, hc3, k3, hD, hxl, hdl, hN1, hN2, hd1, hd2, ni⟩
        match xs, ds, hxl, hdl with
        | [v1, v2, v3], [d1, d2, d3], _, _ =>
        have T0 : Tri H1 H3 D v1 v2 v3 d1 d2 d3 N1 N2 := ⟨nD, hD, hN1, hN2, hd1 _ _ rfl rfl, hd2 0 _ _ rfl rfl, hd2 1 _ _ rfl rfl, (ni d1 (by simp)).mono (by decide) (by decide), (ni d2 (by simp)).mono (by decide) (by decide), (ni d3 (by simp)).mono (by decide) (by decide)⟩
        refine ⟨fun σ H4 => ∃ (S4 : Stm) (v1 : V) (d1 : PyData) (N1 : Addr → Prop), σ = [some (.ref sc), some (.ref a0), some (.ref l), some (.int (0 + (i : Int))), x4, some (.ref D), x6, x7, x8, x9, x10, x11] ∧ StmAt H4 a0 c0 S4 ∧ S4.cnt ≤ (i : Int) * 1000 + 400 ∧ Kept a0 c0 H1 H4 ∧
            Tri H1 H4 D v1 v2 v3 d1 d2 d3 N1 N2, ?_, ?_⟩
        · refine ⟨_, rfl, a0, c0, S3, 2, rfl, h3, by omega, by decide, by decide, fun H4 S4 r h4 hc4 k4 r0 r1 => ?_⟩
          have T4 : Tri H1 H4 D v1 v2 v3 d1 d2 d3 N1 N2 := T0.keep fun b o n1 e => k4 b o (fun z => h1.a0 (z ▸ n1)) (fun z => h1.c0 (z ▸ n1)) e
          refine ⟨rfl, _, rfl, ?_⟩
          refine ite2 (fun _ => ?_) (fun _ => ⟨S4, v1, d1, N1, rfl, h4, by omega, k3.trans k4, T4⟩)
          refine ⟨_, rfl, D, _, _, _, rfl, rfl, SqL.of T4.lst, rfl, by show 2 ≤ sizeLine; decide, fun w nw => ?_⟩
          have nDw : D ≠ w := ne_of_none T4.lst nw
          have hD5 : (upd H4 w (.lst [v1, .str "a"])) D = some (.lst [v1, v2, v3]) := by rw [upd_ne nDw]; exact T4.lst
          refine ⟨_, rfl, D, _, 0, 0, rfl, rfl, hD5, rfl, ?_⟩
          have w1 : H1 w = none := (k3.trans k4).free h4.a0 h4.c0 nw
          have s6 : ∀ b o, b ≠ D → H4 b = some o → (upd (upd H4 w (.lst [v1, .str "a"])) D (.lst [.ref w, v2, v3])) b = some o := fun b o nb e => by rw [upd_ne nb, upd_ne (ne_of_none e nw)]; exact e
          have up6 : ∀ b, b ≠ D → H4 b ≠ none → (upd (upd H4 w (.lst [v1, .str "a"])) D (.lst [.ref w, v2, v3])) b ≠ none := fun b nb e z => by
            obtain ⟨o, e⟩ := Option.ne_none_iff_exists'.mp e
            rw [s6 b o nb e] at z
            cases z
          have h6w : (upd (upd H4 w (.lst [v1, .str "a"])) D (.lst [.ref w, v2, v3])) w = some (.lst [v1, .str "a"]) := by rw [upd_ne nDw.symm, upd_same]
          refine ⟨S4, .ref w, .list [d1, .str "a"], fun b => N1 b ∨ b = w, rfl, ⟨s6 _ _ (Ne.symm Da) h4.lst, s6 _ _ (Ne.symm Dc) h4.cel, h4.ne, h4.len, h4.cur0, h4.cnt0, h4.mix0, h4.mix1⟩, by omega, fun b o n1 n2 e => s6 _ _ (ne_of_none e nD) (k4 _ _ n1 n2 (k3 _ _ n1 n2 e)), ?_⟩
          refine ⟨nD, upd_same, fun b hb => ?_, fun b hb => ⟨(T4.n2 b hb).1, up6 b (T4.n2 b hb).2.2 (T4.n2 b hb).2.1, (T4.n2 b hb).2.2⟩, ?_, T4.a2.stay fun b o hb e => s6 b o (T4.n2 b hb).2.2 e, T4.a3.stay fun b o hb e => s6 b o (T4.n2 b hb).2.2 e, ?_, T4.z2, T4.z3⟩
          · rcases hb with hb | rfl
            · exact ⟨(T4.n1 b hb).1, up6 b (T4.n1 b hb).2.2.1 (T4.n1 b hb).2.1, (T4.n1 b hb).2.2⟩
            · exact ⟨w1, (fun z => by have y := h6w.symm.trans z; cases y), nDw.symm, fun z => (T4.n2 b z).2.1 nw⟩
          · have nb : ∀ b, N1 b → b ≠ w := fun b hb z => (T4.n1 b hb).2.1 (z ▸ nw)
            refine .lst (N' := N1) (.inr rfl) (fun b hb => ⟨.inl hb, nb b hb⟩) h6w rfl (DnL.cons (T4.a1.stay fun b o hb e => s6 b o (T4.n1 b hb).2.2.1 e) (DnL.cons (.str _) DnL.nil)).2
          · refine (Nice.list (n := 201) (k := 4) (m := 1000) (fun d hd => ?_) (by show 2 * 202 ≤ 1000; decide)).mono (Nat.le_refl _) (by decide)
            rcases List.mem_cons.mp hd with rfl | hd
            · exact ni _ (by simp)
            · rw [List.mem_singleton.mp hd]; exact nice_a.mono (by decide) (by decide)
        · rintro σ H4 ⟨S4, v1, d1, N1, rfl, h4, hc4, k4, T4⟩
          have hdp : ∀ H9, Tri H1 H9 D v1 v2 v3 d1 d2 d3 N1 N2 → Dp K H9 (.ref D) (.list [d1, d2, d3]) := fun H9 T9 => .lst (SqL.of T9.lst) (.cons T9.a1.dp (.cons T9.a2.dp (.cons T9.a3.dp .nil)))
          have hni : Nice 10000 9 (.list [d1, d2, d3]) := Nice.list (n := 1000) (k := 8) (fun d hd => by
            rcases List.mem_cons.mp hd with rfl | hd
            · exact T4.z1
            rcases List.mem_cons.mp hd with rfl | hd
            · exact T4.z2
            · rw [List.mem_singleton.mp hd]; exact T4.z3) (by show 3 * 1001 ≤ 10000; decide)
          refine ⟨_, rfl, D, .list [d1, d2, d3], 10000, 9, rfl, hdp _ T4, hni, by decide, by decide, ?_⟩
          refine ⟨_, rfl, D, [v1, v2, v3], rfl, SqL.of T4.lst, rfl, v1, [v2, v3], rfl, v2, [v3], rfl, v3, [], rfl, rfl, ?_⟩
          refine ⟨_, rfl, a0, c0, S4, 2, rfl, h4, by omega, by decide, by decide, fun H6 S6 r6 h6 hc6 k6 r0 r1 => ?_⟩
          have T6 : Tri H1 H6 D v1 v2 v3 d1 d2 d3 N1 N2 := T4.keep fun b o n1 e => k6 b o (fun z => h1.a0 (z ▸ n1)) (fun z => h1.c0 (z ▸ n1)) e
          have K6 : Kept a0 c0 H1 H6 := k4.trans k6
          refine ⟨rfl, _, rfl, ?_⟩
          refine ite2 (fun _ => ?_) (fun _ => ?_)
          all_goals
            refine ⟨_, rfl, _, rfl, _, rfl, v1, v2, v3, rfl, fun m es H7 s7 nm hm les errs => ?_⟩
            have T7 : Tri H1 H7 D v1 v2 v3 d1 d2 d3 N1 N2 := T6.keep fun b o _ e => s7 b o e
            have hl7 : H7 l = some (.lst (rs.map fun r => V.ref r.1)) := s7 _ _ (K6 _ _ la lc hl1)
            refine ⟨_, rfl, .inl ⟨rfl, _, SqL.of hl7⟩, _, rfl, _, rfl, by show 2 ≤ sizeLine; decide, fun t nt => ?_⟩
            have s8 : Same H7 (upd H7 t (.tup [.ref m, .ref D])) := same_new nt
            refine ⟨l, _, _, rfl, rfl, s8 _ _ hl7, by rw [List.length_map, hlen]; exact Nat.lt_of_lt_of_le hi (by decide), ?_⟩
            have tl : t ≠ l := fun z => by rw [z, hl7] at nt; cases nt
            have h6n : ∀ b, H6 b = none → H1 b = none := fun b => K6.free h6.a0 h6.c0
            have t1 : H1 t = none := h6n t (s7.free nt)
            have n1l : H1 l ≠ none := by rw [hl1]; simp
            have s9 : ∀ b o, b ≠ l → H7 b = some o → (upd (upd H7 t (.tup [.ref m, .ref D])) l (.lst ((rs.map fun r => V.ref r.1) ++ [.ref t]))) b = some o := fun b o nb e => by rw [upd_ne nb]; exact s8 b o e
            have s9n : ∀ b o, H1 b = none → H7 b = some o → (upd (upd H7 t (.tup [.ref m, .ref D])) l (.lst ((rs.map fun r => V.ref r.1) ++ [.ref t]))) b = some o := fun b o n1 e => s9 b o (fun z => n1l (z ▸ n1)) e
            have h9t : (upd (upd H7 t (.tup [.ref m, .ref D])) l (.lst ((rs.map fun r => V.ref r.1) ++ [.ref t]))) t = some (.tup [.ref m, .ref D]) := by rw [upd_ne tl, upd_same]
            have h9l : (upd (upd H7 t (.tup [.ref m, .ref D])) l (.lst ((rs.map fun r => V.ref r.1) ++ [.ref t]))) l = some (.lst ((rs.map fun r => V.ref r.1) ++ [.ref t])) := upd_same
            have T9 := T7.keep s9n
            revert s9 s9n h9t h9l T9
            generalize (upd (upd H7 t (.tup [.ref m, .ref D])) l (.lst ((rs.map fun r => V.ref r.1) ++ [.ref t]))) = H9
            intro s9 s9n h9t h9l T9
            refine ⟨_, rfl, D, .list [d1, d2, d3], 10000, 9, rfl, hdp _ T9, hni, by decide, by decide, _, rfl, rfl, _, rfl, ?_⟩
            refine iteNS rfl ?_
            have la0 : a0 ≠ l := la.symm
            have lc0 : c0 ≠ l := lc.symm
            have hDt : H7 D = some (.lst [v1, v2, v3]) := T7.lst
            have k19 : ∀ b o, b ≠ a0 → b ≠ c0 → b ≠ l → H1 b = some o → H9 b = some o := fun b o n1 n2 n3 e => s9 b o n3 (s7 b o (K6 b o n1 n2 e))
            refine ⟨S6, rs ++ [(t, fun b => H1 b = none ∧ H9 b ≠ none)], _, _, _, _, _, _, _, _, _, rfl, ⟨s9 _ _ la0 (s7 _ _ h6.lst), s9 _ _ lc0 (s7 _ _ h6.cel), h6.ne, h6.len, h6.cur0, h6.cnt0, h6.mix0, h6.mix1⟩, by omega, by rw [h9l, List.map_append]; rfl, by rw [List.length_append, hlen]; rfl, ?_, ?_⟩
            · refine Recs.snoc (hrs.stay fun q hq b o hb e => k19 b o (htr q hq b hb).2.1 (htr q hq b hb).2.2.1 (htr q hq b hb).2.2.2 e) ?_ fun q hq b hb z => (htr q hq b hb).1 z.1
              refine ⟨m, D, es, v1, v2, v3, d1, d2, d3, N1, N2, ⟨⟨t1, by rw [h9t]; simp⟩, h9t⟩, ⟨⟨h6n m nm, by rw [s9n m _ (h6n m nm) hm]; simp⟩, s9n m _ (h6n m nm) hm⟩, les, ?_, ⟨⟨nD, by rw [T9.lst]; simp⟩, T9.lst⟩, fun b hb => ?_, fun b hb => ⟨(T9.n2 b hb).1, (T9.n2 b hb).2.1⟩, T9.a1, T9.a2, T9.a3, T9.z1, T9.z2, T9.z3⟩
              · exact errs.map fun e C fs z => ((z.stay (fun b o hb e => s9n b o (h6n b hb) e) fun _ h => h).there).stay (fun _ _ _ e => e) fun b hb => ⟨h6n b hb.1, hb.2⟩
              · refine ⟨⟨(T9.n1 b hb).1, (T9.n1 b hb).2.1⟩, (T9.n1 b hb).2.2.1, fun z => ?_, (T9.n1 b hb).2.2.2⟩
                exact (T6.n1 b hb).2.1 (z ▸ nm)
            · intro q hq b hb
              rcases List.mem_append.mp hq with hq | hq
              · obtain ⟨o, e⟩ := Option.ne_none_iff_exists'.mp (htr q hq b hb).1
                exact ⟨by rw [k19 b o (htr q hq b hb).2.1 (htr q hq b hb).2.2.1 (htr q hq b hb).2.2.2 e]; simp, (htr q hq b hb).2⟩
              · rw [List.mem_singleton.mp hq] at hb
                exact ⟨hb.2, fun z => h1.a0 (z ▸ hb.1), fun z => h1.c0 (z ▸ hb.1), fun z => n1l (z ▸ hb.1)⟩
    · rintro σ H1 ⟨S, rs, x3, x4, x5, x6, x7, x8, x9, x10, x11, rfl, h1, hc1, hl1, hlen, hrs, htr⟩
      exact ⟨rs, x3, x4, x5, x6, x7, x8, x9, x10, x11, rfl, hl1, hrs, fun q hq b hb => ⟨(htr q hq b hb).1, (htr q hq b hb).2.2.2⟩⟩
  · rintro σ H1 ⟨rs, x3, x4, x5, x6, x7, x8, x9, x10, x11, rfl, hl1, hrs, htr⟩
    have lenOf : ∀ ds : List PyData, ds.length ≤ PyData.bulkAll ds := fun ds => by
      induction ds with
      | nil => exact Nat.zero_le _
      | cons d r ih => simp only [PyData.bulkAll, List.length_cons]; omega
    refine ⟨_, rfl, l, rfl, ⟨_, SqL.of hl1⟩, for_list (K := K) (a := l) (xs := rs.map fun r => V.ref r.1) (fun i σ H2 => ∃ (y3 y4 y5 y6 y7 y8 y9 y10 y11 : Option V), σ = [some (.ref sc), some (.ref a0), some (.ref l), y3, y4, y5, y6, y7, y8, y9, y10, y11] ∧
        H2 l = some (.lst (rs.map fun r => V.ref r.1)) ∧ Recs H2 cs (rs.drop i) ∧ (∀ q ∈ rs, ∀ b, q.2 b → H2 b ≠ none ∧ b ≠ l)) ?_ (fun i σ H2 _ hP => ?_) ?_ ?_⟩
    · exact ⟨x3, x4, x5, x6, x7, x8, x9, x10, x11, rfl, hl1, hrs, htr⟩
    · obtain ⟨y3, y4, y5, y6, y7, y8, y9, y10, y11, _, hl2, _⟩ := hP
      exact SqL.of hl2
    · rintro i x σ H2 hi ⟨y3, y4, y5, y6, y7, y8, y9, y10, y11, rfl, hl2, hrs2, htr2⟩
      have hir : i < rs.length := by
        have z := (List.getElem?_eq_some_iff.mp hi).1
        rw [List.length_map] at z
        exact z
      rw [List.getElem?_map, List.getElem?_eq_getElem hir] at hi
      obtain rfl : V.ref rs[i].1 = x := Option.some.inj hi
      rw [List.drop_eq_getElem_cons hir] at hrs2
      obtain ⟨rc, hrc⟩ : ∃ rc, rs[i] = rc := ⟨_, rfl⟩
      have hrcm : rc ∈ rs := hrc ▸ List.getElem_mem hir
      rw [hrc] at hrs2 ⊢
      obtain ⟨⟨m, p, es, v1, v2, v3, d1, d2, d3, N1, N2, ⟨zt, ht⟩, ⟨zm, hm⟩, les, herr, ⟨zp, hp⟩, hN1, hN2, e1, e2, e3, z1, z2, z3⟩, hdis, hrest⟩ := hrs2
      have hmem : ∀ q ∈ rs.drop (i + 1), q ∈ rs := fun q hq => List.mem_of_mem_drop hq
      refine ⟨rc.1, [.ref m, .ref p], rfl, SqT.of ht, rfl, .ref m, [.ref p], rfl, .ref p, [], rfl, rfl, ?_⟩
      refine ⟨fun σ H3 => ∃ d1' : PyData, σ = [some (.ref sc), some (.ref a0), some (.ref l), y3, y4, some (.ref p), y6, y7, y8, y9, some (.ref m), y11] ∧ H3 l = some (.lst (rs.map fun r => V.ref r.1)) ∧ Recs H3 cs (rs.drop (i + 1)) ∧ (∀ q ∈ rs, ∀ b, q.2 b → H3 b ≠ none ∧ b ≠ l) ∧
          H3 m = some (.lst (es.map V.ref)) ∧ Errs H3 rc.2 cs v1 v2 v3 0 es ∧ H3 p = some (.lst [v1, v2, v3]) ∧ Dn H3 N1 v1 d1' ∧ Dn H3 N2 v2 d2 ∧ Dn H3 N2 v3 d3 ∧ Nice 2000 10 d1', ?_, ?_⟩
      · have same : ∀ {Q : Prop}, Q → Q := id
        have stay : ∃ d1' : PyData, [some (V.ref sc), some (.ref a0), some (.ref l), y3, y4, some (.ref p), y6, y7, y8, y9, some (.ref m), y11] = [some (V.ref sc), some (.ref a0), some (.ref l), y3, y4, some (.ref p), y6, y7, y8, y9, some (.ref m), y11] ∧ H2 l = some (.lst (rs.map fun r => V.ref r.1)) ∧ Recs H2 cs (rs.drop (i + 1)) ∧ (∀ q ∈ rs, ∀ b, q.2 b → H2 b ≠ none ∧ b ≠ l) ∧
          H2 m = some (.lst (es.map V.ref)) ∧ Errs H2 rc.2 cs v1 v2 v3 0 es ∧ H2 p = some (.lst [v1, v2, v3]) ∧ Dn H2 N1 v1 d1' ∧ Dn H2 N2 v2 d2 ∧ Dn H2 N2 v3 d3 ∧ Nice 2000 10 d1' := ⟨d1, rfl, hl2, hrest, htr2, hm, herr, hp, e1, e2, e3, z1.mono (by decide) (by decide)⟩
        refine ⟨_, rfl, p, _, _, _, rfl, rfl, SqL.of hp, rfl, v1, .ty "list", ?_⟩
        cases e1 with
        | non => exact ⟨_, _, false, rfl, .ty _, .base .non, kit_ty (by decide +kernel), _, rfl, iteF stay⟩
        | bl b => exact ⟨_, _, false, rfl, .ty _, .base (.bl b), kit_ty (by decide +kernel), _, rfl, iteF stay⟩
        | int j => exact ⟨_, _, false, rfl, .ty _, .base (.int j), kit_ty (by decide +kernel), _, rfl, iteF stay⟩
        | str z => exact ⟨_, _, false, rfl, .ty _, .base (.str z), kit_ty (by decide +kernel), _, rfl, iteF stay⟩
        | tup g1 g2 g3 g4 g5 => exact ⟨_, _, false, rfl, .ty _, .base (.tup g3), kit_ty (by decide +kernel), _, rfl, iteF stay⟩
        | @lst _ N' a1 xs ds g1 g2 g3 g4 g5 =>
          refine ⟨_, _, true, rfl, .ty _, .base (.lst g3), kit_ty (by decide +kernel), _, rfl, iteT ?_⟩
          have zb := z1.bk
          simp only [PyData.bulk] at zb
          have zl := lenOf ds
          refine ⟨_, rfl, p, _, _, _, rfl, rfl, SqL.of hp, rfl, .inl ⟨rfl, _, SqL.of g3⟩, a1, _, _, rfl, rfl, g3, Nat.lt_of_le_of_lt (by omega : xs.length ≤ 1000) (by decide), ?_⟩
          have za := hN1 a1 g1
          have al : a1 ≠ l := (htr2 rc hrcm a1 za.1).2
          have k1 : ∀ b o, b ≠ a1 → H2 b = some o → (upd H2 a1 (.lst (xs ++ [.int 7]))) b = some o := fun b o nb e => by rw [upd_ne nb]; exact e
          refine ⟨.list (ds ++ [.int 7]), rfl, k1 _ _ al.symm hl2, hrest.stay fun q hq b o hb e => k1 b o (fun z => hdis q hq a1 za.1 (z ▸ hb)) e, fun q hq b hb => ⟨fun z => ?_, (htr2 q hq b hb).2⟩, k1 _ _ za.2.2.1.symm hm, herr.map fun e C fs z => z.put g3, k1 _ _ za.2.1.symm hp,
            .lst (N' := N') g1 g2 upd_same (by rw [List.length_append, List.length_append, g4]; rfl) (DnL.snoc (show DnL _ N' xs ds from ⟨g4, fun i v d h1 h2 => (g5 i v d h1 h2).stay fun b o hb e => k1 b o (g2 b hb).2 e⟩) (.int 7)).2,
            e2.stay fun b o hb e => k1 b o (fun z => za.2.2.2 (z ▸ hb)) e, e3.stay fun b o hb e => k1 b o (fun z => za.2.2.2 (z ▸ hb)) e, (z1.snoc nice_seven).mono (by decide) (by decide)⟩
          by_cases e : b = a1
          · rw [e, upd_same] at z; cases z
          · rw [upd_ne e] at z
            exact (htr2 q hq b hb).1 z
      · rintro σ H3 ⟨d1', rfl, hl3, hrs3, htr3, hm3, herr3, hp3, f1, f2, f3, w1⟩
        refine ⟨Nat.zero_le _, fun z nz => ?_⟩
        have sz := same_new (o := .lst []) nz
        refine ⟨by show 1 ≤ sizeLine; decide, fun zz nzz => ?_⟩
        have szz := same_new (o := .lst [.ref z]) nzz
        refine ⟨_, _, _, rfl, rfl, upd_same, by decide, by decide, by show 1 * 3 ≤ sizeLine; decide, fun r1 nr1 => ?_⟩
        have sr1 := same_new (o := .lst [.ref z, .ref z, .ref z]) nr1
        refine ⟨_, rfl, _, rfl, p, _, rfl, SqL.of ((sz.trans (szz.trans (sr1))) _ _ hp3), fun s1 ns1 => ?_⟩
        have ss1 := same_new (o := .lst [v1]) ns1
        refine ⟨by show 1 ≤ sizeLine; decide, fun ss nss => ?_⟩
        have sss := same_new (o := .lst [.ref s1]) nss
        refine ⟨_, _, _, rfl, rfl, upd_same, by decide, by decide, by show 1 * 4 ≤ sizeLine; decide, fun r2 nr2 => ?_⟩
        have sr2 := same_new (o := .lst [.ref s1, .ref s1, .ref s1, .ref s1]) nr2
        refine ⟨_, _, _, _, rfl, rfl, ((ss1.trans (sss.trans (sr2))) r1 (.lst [.ref z, .ref z, .ref z]) upd_same), upd_same, by show 7 ≤ sizeLine; decide, fun c1 nc1 => ?_⟩
        have sc1 := same_new (o := .lst [.ref z, .ref z, .ref z, .ref s1, .ref s1, .ref s1, .ref s1]) nc1
        refine ⟨_, rfl, _, rfl, p, _, rfl, SqL.of ((sz.trans (szz.trans (sr1.trans (ss1.trans (sss.trans (sr2.trans (sc1))))))) _ _ hp3), fun t1 nt1 => ?_⟩
        have st1 := same_new (o := .lst [v1, v2]) nt1
        refine ⟨by show 1 ≤ sizeLine; decide, fun tt ntt => ?_⟩
        have stt := same_new (o := .lst [.ref t1]) ntt
        refine ⟨_, _, _, rfl, rfl, upd_same, by decide, by decide, by show 1 * 3 ≤ sizeLine; decide, fun r3 nr3 => ?_⟩
        have sr3 := same_new (o := .lst [.ref t1, .ref t1, .ref t1]) nr3
        refine ⟨_, _, _, _, rfl, rfl, ((st1.trans (stt.trans (sr3))) c1 (.lst [.ref z, .ref z, .ref z, .ref s1, .ref s1, .ref s1, .ref s1]) upd_same), upd_same, by show 10 ≤ sizeLine; decide, fun c2 nc2 => ?_⟩
        have sc2 := same_new (o := .lst [.ref z, .ref z, .ref z, .ref s1, .ref s1, .ref s1, .ref s1, .ref t1, .ref t1, .ref t1]) nc2
        refine ⟨_, rfl, by show 1 ≤ sizeLine; decide, fun w nw => ?_⟩
        have sw := same_new (o := .lst [.ref p]) nw
        refine ⟨_, _, _, _, rfl, rfl, ((sw) c2 (.lst [.ref z, .ref z, .ref z, .ref s1, .ref s1, .ref s1, .ref s1, .ref t1, .ref t1, .ref t1]) upd_same), upd_same, by show 11 ≤ sizeLine; decide, fun c3 nc3 => ?_⟩
        have sc3 := same_new (o := .lst [.ref z, .ref z, .ref z, .ref s1, .ref s1, .ref s1, .ref s1, .ref t1, .ref t1, .ref t1, .ref p]) nc3
        have s34 := sz.trans (szz.trans (sr1.trans (ss1.trans (sss.trans (sr2.trans (sc1.trans (st1.trans (stt.trans (sr3.trans (sc2.trans (sw.trans (sc3))))))))))))
        have hz := ((szz.trans (sr1.trans (ss1.trans (sss.trans (sr2.trans (sc1.trans (st1.trans (stt.trans (sr3.trans (sc2.trans (sw.trans (sc3)))))))))))) z (.lst []) upd_same)
        have hs1 := ((sss.trans (sr2.trans (sc1.trans (st1.trans (stt.trans (sr3.trans (sc2.trans (sw.trans (sc3))))))))) s1 (.lst [v1]) upd_same)
        have ht1 := ((stt.trans (sr3.trans (sc2.trans (sw.trans (sc3))))) t1 (.lst [v1, v2]) upd_same)
        have hp4 := s34 _ _ hp3
        have hc3 : (upd (upd (upd (upd (upd (upd (upd (upd (upd (upd (upd (upd (upd H3 z (.lst [])) zz (.lst [.ref z])) r1 (.lst [.ref z, .ref z, .ref z])) s1 (.lst [v1])) ss (.lst [.ref s1])) r2 (.lst [.ref s1, .ref s1, .ref s1, .ref s1])) c1 (.lst [.ref z, .ref z, .ref z, .ref s1, .ref s1, .ref s1, .ref s1])) t1 (.lst [v1, v2])) tt (.lst [.ref t1])) r3 (.lst [.ref t1, .ref t1, .ref t1])) c2 (.lst [.ref z, .ref z, .ref z, .ref s1, .ref s1, .ref s1, .ref s1, .ref t1, .ref t1, .ref t1])) w (.lst [.ref p])) c3 (.lst [.ref z, .ref z, .ref z, .ref s1, .ref s1, .ref s1, .ref s1, .ref t1, .ref t1, .ref t1, .ref p])) c3 = some (.lst [.ref z, .ref z, .ref z, .ref s1, .ref s1, .ref s1, .ref s1, .ref t1, .ref t1, .ref t1, .ref p]) := upd_same
        have hdue : ∀ k : Nat, k < 11 → ∃ u, ([.ref z, .ref z, .ref z, .ref s1, .ref s1, .ref s1, .ref s1, .ref t1, .ref t1, .ref t1, .ref p] : List V)[k]? = some (.ref u) ∧ (upd (upd (upd (upd (upd (upd (upd (upd (upd (upd (upd (upd (upd H3 z (.lst [])) zz (.lst [.ref z])) r1 (.lst [.ref z, .ref z, .ref z])) s1 (.lst [v1])) ss (.lst [.ref s1])) r2 (.lst [.ref s1, .ref s1, .ref s1, .ref s1])) c1 (.lst [.ref z, .ref z, .ref z, .ref s1, .ref s1, .ref s1, .ref s1])) t1 (.lst [v1, v2])) tt (.lst [.ref t1])) r3 (.lst [.ref t1, .ref t1, .ref t1])) c2 (.lst [.ref z, .ref z, .ref z, .ref s1, .ref s1, .ref s1, .ref s1, .ref t1, .ref t1, .ref t1])) w (.lst [.ref p])) c3 (.lst [.ref z, .ref z, .ref z, .ref s1, .ref s1, .ref s1, .ref s1, .ref t1, .ref t1, .ref t1, .ref p])) u = some (.lst (ysOf k v1 v2 v3)) := fun k hk => by
          match k, hk with
          | 0, _ => exact ⟨z, rfl, hz⟩
          | 1, _ => exact ⟨z, rfl, hz⟩
          | 2, _ => exact ⟨z, rfl, hz⟩
          | 3, _ => exact ⟨s1, rfl, hs1⟩
          | 4, _ => exact ⟨s1, rfl, hs1⟩
          | 5, _ => exact ⟨s1, rfl, hs1⟩
          | 6, _ => exact ⟨s1, rfl, hs1⟩
          | 7, _ => exact ⟨t1, rfl, ht1⟩
          | 8, _ => exact ⟨t1, rfl, ht1⟩
          | 9, _ => exact ⟨t1, rfl, ht1⟩
          | 10, _ => exact ⟨p, rfl, hp4⟩
        refine ⟨11, rfl, by decide, by decide, for_range (lo := 0) (n := 11) (fun k σ H5 => ∃ z4 : Option V, σ = [some (.ref sc), some (.ref a0), some (.ref l), y3, z4, some (.ref p), y6, y7, y8, y9, some (.ref m), some (.ref c3)] ∧ Same H3 H5 ∧ H5 c3 = some (.lst [.ref z, .ref z, .ref z, .ref s1, .ref s1, .ref s1, .ref s1, .ref t1, .ref t1, .ref t1, .ref p]) ∧
          (∀ k : Nat, k < 11 → ∃ u, ([.ref z, .ref z, .ref z, .ref s1, .ref s1, .ref s1, .ref s1, .ref t1, .ref t1, .ref t1, .ref p] : List V)[k]? = some (.ref u) ∧ H5 u = some (.lst (ysOf k v1 v2 v3)))) ?_ ?_ ?_⟩
        · exact ⟨y4, rfl, s34, hc3, hdue⟩
        · rintro k σ H5 hk ⟨z4, rfl, s5, hc5, hdue5⟩
          rw [show (0 : Int) + (k : Int) = (k : Int) from Int.zero_add _]
          have hke : k < es.length := by rw [les]; exact hk
          have hem : (es.map V.ref)[k]? = some (.ref es[k]) := by rw [List.getElem?_map, List.getElem?_eq_getElem hke]; rfl
          have hat : atI (es.map V.ref) (k : Int) = some (.ref es[k]) := atI_nat hem
          obtain ⟨u, hu1, hu2⟩ := hdue5 k hk
          have hau : atI ([.ref z, .ref z, .ref z, .ref s1, .ref s1, .ref s1, .ref s1, .ref t1, .ref t1, .ref t1, .ref p] : List V) (k : Int) = some (.ref u) := atI_nat hu1
          have hE : ErrAt H3 es[k] (cs k) (fsOf k v1 v2 v3) := by
            have g := herr3.get (List.getElem?_eq_getElem hke)
            rw [Nat.zero_add] at g
            exact g.at
          generalize es[k] = e at hat hE
          have hdp : ∀ {H9 : Hp} {b : Addr}, Same H3 H9 → H9 b = some (.lst (ysOf k v1 v2 v3)) → Dp K H9 (.ref b) (.list (dsOf k d1' d2 d3)) := fun {H9 b} s9 hb =>
            .lst (SqL.of hb) (dsOf_dp (f1.stay fun b o _ e => s9 b o e).dp (f2.stay fun b o _ e => s9 b o e).dp (f3.stay fun b o _ e => s9 b o e).dp k)
          have hni := dsOf_nice w1 (z2.mono (by decide : 1000 ≤ 2000) (by decide : 8 ≤ 10)) (z3.mono (by decide : 1000 ≤ 2000) (by decide : 8 ≤ 10)) k
          -- repr(fields) != repr(dues[k])
          refine ⟨_, rfl, _, rfl, _, rfl, m, _, _, _, rfl, rfl, SqL.of (s5 _ _ hm3), hat, k, e, v1, v2, v3, rfl, hk, hE.keep s5, fun fl H6 s6 hfl => ?_⟩
          refine ⟨fl, _, 10000, 11, rfl, hdp (s5.trans s6) hfl, hni, by decide, by decide, ?_⟩
          refine ⟨_, rfl, _, rfl, c3, _, _, _, rfl, rfl, SqL.of (s6 _ _ hc5), hau, u, _, 10000, 11, rfl, hdp (s5.trans s6) (s6 _ _ hu2), hni, by decide, by decide, ?_⟩
          refine ⟨rfl, _, rfl, ?_⟩
          refine iteNS rfl ?_
          -- kinds != [k]
          refine ⟨_, rfl, _, rfl, m, _, _, _, rfl, rfl, SqL.of (s6 _ _ (s5 _ _ hm3)), hat, k, e, _, rfl, hk, hE.keep (s5.trans s6), fun g H7 s7 hg => ?_⟩
          refine ⟨_, rfl, by show 1 ≤ sizeLine; decide, fun q1 nq1 => ?_⟩
          have s8 := same_new (o := .lst [.int (k : Int)]) nq1
          refine ⟨_, _, .lst (SqL.of (s8 _ _ hg)) (.cons (.int _) .nil), .lst (SqL.of upd_same) (.cons (.int _) .nil), shaped_ints [(k : Int)], shaped_ints [(k : Int)], _, rfl, ?_⟩
          have eqk : PyData.eqv (.list [.int (k : Int)]) (.list [.int (k : Int)]) = true := by simp [PyData.eqv, PyData.eqvAll]
          rw [eqk]
          refine iteF ?_
          have s38 := s5.trans (s6.trans (s7.trans s8))
          -- isinstance, twice
          refine ⟨_, rfl, _, rfl, m, _, _, _, rfl, rfl, SqL.of (s38 _ _ hm3), hat, e, cs k, T, .ref T, .ref T, true, _, rfl, fun u h => h, X.err k hk, hE.keep s38, (X.err k hk).base X.clT X.tyT, _, rfl, iteF ?_⟩
          refine ⟨_, rfl, _, rfl, m, _, _, _, rfl, rfl, SqL.of (s38 _ _ hm3), hat, e, cs k, T, .ty "ValueError", .type "ValueError", true, _, rfl, fun u h => h, X.err k hk, hE.keep s38, (X.err k hk).val, _, rfl, iteF ?_⟩
          refine ⟨_, rfl, s38, (s6.trans (s7.trans s8)) _ _ hc5, fun j hj => ?_⟩
          obtain ⟨u', g1, g2⟩ := hdue5 j hj
          exact ⟨u', g1, (s6.trans (s7.trans s8)) _ _ g2⟩
        · rintro σ H5 ⟨z4, rfl, s5, _, _⟩
          refine ⟨_, _, _, _, _, _, _, _, _, rfl, s5 _ _ hl3, hrs3.stay fun q _ b o _ e => s5 b o e, fun q hq b hb => ⟨fun z => ?_, (htr3 q hq b hb).2⟩⟩
          obtain ⟨o, e⟩ := Option.ne_none_iff_exists'.mp (htr3 q hq b hb).1
          rw [s5 b o e] at z
          cases z
    · rintro σ H2 ⟨y3, y4, y5, y6, y7, y8, y9, y10, y11, rfl, _⟩
      exact q H2
end
end K1

set_option maxHeartbeats 8000000
namespace K1
open PySem PySem.Spec PyProof.Rows L2
theorem nodup_getD {l : List Addr} (h : l.Nodup) {i j : Nat} (hi : i < l.length) (hj : j < l.length) (e : l.getD i 0 = l.getD j 0) : i = j := by
  rw [List.getD_eq_getElem?_getD, List.getD_eq_getElem?_getD, List.getElem?_eq_getElem hi, List.getElem?_eq_getElem hj] at e
  have p := List.pairwise_iff_getElem.mp h
  rcases Nat.lt_trichotomy i j with z | z | z
  · exact absurd e (p i j hi hj z)
  · exact z
  · exact absurd e.symm (p j i hj hi z)
set_option maxHeartbeats 16000000 in
theorem all_mk {P : Program} {w : World} {K : PySem.W.Frag} {h : Heap} {mg : Str → Option Value} {fa T C0 C1 C2 C3 C4 C5 C6 C7 C8 C9 C10 f3 f4 f5 f6 f7 f8 f9 f10 gD gP gT gM gN gF gG gL : Addr} (X : K.In h) (G : h.Ns mainGlobals mg) (hfa : mg "law" = some (.ref fa))
    {nm0 q0 : Str} {N0 : Addr} {bs0 sub0 : List Value} {sn0 : List Str} {ab0 : Bool} {col0 : Option Bool} {dd0 : Option Addr} {m0a m0b m0c m0d m0e : Option Value}
    {nm1 q1 : Str} {N1 : Addr} {bs1 sub1 : List Value} {sn1 : List Str} {ab1 : Bool} {col1 : Option Bool} {dd1 : Option Addr} {m1a m1b m1c m1d m1e : Option Value}
    {nm2 q2 : Str} {N2 : Addr} {bs2 sub2 : List Value} {sn2 : List Str} {ab2 : Bool} {col2 : Option Bool} {dd2 : Option Addr} {m2a m2b m2c m2d m2e : Option Value}
    {nm3 q3 : Str} {N3 : Addr} {bs3 sub3 : List Value} {sn3 : List Str} {ab3 : Bool} {col3 : Option Bool} {dd3 : Option Addr} {m3a m3b m3c m3d m3e : Option Value}
    {odI3 anI3 : Option Addr} {slI3 : Array (Option Value)} {ocI3 kvI3 dcI3 pmI3 cdI3 ctI3 : Value}
    {nm4 q4 : Str} {N4 : Addr} {bs4 sub4 : List Value} {sn4 : List Str} {ab4 : Bool} {col4 : Option Bool} {dd4 : Option Addr} {m4a m4b m4c m4d m4e : Option Value}
    {odI4 anI4 : Option Addr} {slI4 : Array (Option Value)} {ocI4 kvI4 dcI4 pmI4 cdI4 ctI4 : Value}
    {nm5 q5 : Str} {N5 : Addr} {bs5 sub5 : List Value} {sn5 : List Str} {ab5 : Bool} {col5 : Option Bool} {dd5 : Option Addr} {m5a m5b m5c m5d m5e : Option Value}
    {odI5 anI5 : Option Addr} {slI5 : Array (Option Value)} {ocI5 kvI5 dcI5 pmI5 cdI5 ctI5 : Value}
    {nm6 q6 : Str} {N6 : Addr} {bs6 sub6 : List Value} {sn6 : List Str} {ab6 : Bool} {col6 : Option Bool} {dd6 : Option Addr} {m6a m6b m6c m6d m6e : Option Value}
    {odI6 anI6 : Option Addr} {slI6 : Array (Option Value)} {ocI6 kvI6 dcI6 pmI6 cdI6 ctI6 : Value}
    {nm7 q7 : Str} {N7 : Addr} {bs7 sub7 : List Value} {sn7 : List Str} {ab7 : Bool} {col7 : Option Bool} {dd7 : Option Addr} {m7a m7b m7c m7d m7e : Option Value}
    {odI7 anI7 : Option Addr} {slI7 : Array (Option Value)} {ocI7 kvI7 dcI7 pmI7 cdI7 ctI7 : Value}
    {nm8 q8 : Str} {N8 : Addr} {bs8 sub8 : List Value} {sn8 : List Str} {ab8 : Bool} {col8 : Option Bool} {dd8 : Option Addr} {m8a m8b m8c m8d m8e : Option Value}
    {odI8 anI8 : Option Addr} {slI8 : Array (Option Value)} {ocI8 kvI8 dcI8 pmI8 cdI8 ctI8 : Value}
    {nm9 q9 : Str} {N9 : Addr} {bs9 sub9 : List Value} {sn9 : List Str} {ab9 : Bool} {col9 : Option Bool} {dd9 : Option Addr} {m9a m9b m9c m9d m9e : Option Value}
    {odI9 anI9 : Option Addr} {slI9 : Array (Option Value)} {ocI9 kvI9 dcI9 pmI9 cdI9 ctI9 : Value}
    {nm10 q10 : Str} {N10 : Addr} {bs10 sub10 : List Value} {sn10 : List Str} {ab10 : Bool} {col10 : Option Bool} {dd10 : Option Addr} {m10a m10b m10c m10d m10e : Option Value}
    {odI10 anI10 : Option Addr} {slI10 : Array (Option Value)} {ocI10 kvI10 dcI10 pmI10 cdI10 ctI10 : Value}
    {odD anD : Option Addr} {slD : Array (Option Value)} {ocD kvD dcD pmD cdD ctD : Value}
    {odP anP : Option Addr} {slP : Array (Option Value)} {ocP kvP dcP pmP cdP ctP : Value}
    {odT anT : Option Addr} {slT : Array (Option Value)} {ocT kvT dcT pmT cdT ctT : Value}
    {odM anM : Option Addr} {slM : Array (Option Value)} {ocM kvM dcM pmM cdM ctM : Value}
    {odN anN : Option Addr} {slN : Array (Option Value)} {ocN kvN dcN pmN cdN ctN : Value}
    {odF anF : Option Addr} {slF : Array (Option Value)} {ocF kvF dcF pmF cdF ctF : Value}
    {odG anG : Option Addr} {slG : Array (Option Value)} {ocG kvG dcG pmG cdG ctG : Value}
    {odL anL : Option Addr} {slL : Array (Option Value)} {ocL kvL dcL pmL cdL ctL : Value}
    (aT : PySem.W.nsIn K mainGlobals "TreeError" = some (some (.ref T)))
    (iT : PySem.W.isClsIn K T = true)
    (tT : PySem.W.typeIn K (.ref T) = some (.type "type"))
    (a0 : PySem.W.nsIn K mainGlobals "BadNode" = some (some (.ref C0)))
    (l0 : K.lookup C0 = some (excClassObj nm0 q0 C0 N0 bs0 [.ref T, .type "ValueError", .type "Exception", .type "BaseException", .type "object"] true sn0 sub0 ab0 col0 dd0 m0a m0b m0c m0d m0e "ValueError.__new__"))
    (sa0 : PySem.W.findIn K (.ref C0) "__setattr__" = some (some (.builtin "object.__setattr__")))
    (ga0 : PySem.W.findIn K (.ref C0) "__getattribute__" = some (some (.builtin "BaseException.__getattribute__")))
    (gg0 : PySem.W.findIn K (.ref C0) "__getattr__" = some none)
    (cl0 : PySem.W.findIn K (.ref C0) "__class__" = some (some (.builtin "object.__class__")))
    (kC0 : PySem.W.keepIn K (.ref C0) = true)
    (x0 : PySem.W.excIn K C0 [.type "ValueError", .type "Exception", .type "BaseException", .type "object"] "ValueError.__new__" = true)
    (a1 : PySem.W.nsIn K mainGlobals "BadPlace" = some (some (.ref C1)))
    (l1 : K.lookup C1 = some (excClassObj nm1 q1 C1 N1 bs1 [.ref T, .type "ValueError", .type "Exception", .type "BaseException", .type "object"] true sn1 sub1 ab1 col1 dd1 m1a m1b m1c m1d m1e "ValueError.__new__"))
    (sa1 : PySem.W.findIn K (.ref C1) "__setattr__" = some (some (.builtin "object.__setattr__")))
    (ga1 : PySem.W.findIn K (.ref C1) "__getattribute__" = some (some (.builtin "BaseException.__getattribute__")))
    (gg1 : PySem.W.findIn K (.ref C1) "__getattr__" = some none)
    (cl1 : PySem.W.findIn K (.ref C1) "__class__" = some (some (.builtin "object.__class__")))
    (kC1 : PySem.W.keepIn K (.ref C1) = true)
    (x1 : PySem.W.excIn K C1 [.type "ValueError", .type "Exception", .type "BaseException", .type "object"] "ValueError.__new__" = true)
    (a2 : PySem.W.nsIn K mainGlobals "BadFloat" = some (some (.ref C2)))
    (l2 : K.lookup C2 = some (excClassObj nm2 q2 C2 N2 bs2 [.ref T, .type "ValueError", .type "Exception", .type "BaseException", .type "object"] true sn2 sub2 ab2 col2 dd2 m2a m2b m2c m2d m2e "ValueError.__new__"))
    (sa2 : PySem.W.findIn K (.ref C2) "__setattr__" = some (some (.builtin "object.__setattr__")))
    (ga2 : PySem.W.findIn K (.ref C2) "__getattribute__" = some (some (.builtin "BaseException.__getattribute__")))
    (gg2 : PySem.W.findIn K (.ref C2) "__getattr__" = some none)
    (cl2 : PySem.W.findIn K (.ref C2) "__class__" = some (some (.builtin "object.__class__")))
    (kC2 : PySem.W.keepIn K (.ref C2) = true)
    (x2 : PySem.W.excIn K C2 [.type "ValueError", .type "Exception", .type "BaseException", .type "object"] "ValueError.__new__" = true)
    (a3 : PySem.W.nsIn K mainGlobals "BadKind" = some (some (.ref C3)))
    (l3 : K.lookup C3 = some (excClassObj nm3 q3 C3 N3 bs3 [.ref T, .type "ValueError", .type "Exception", .type "BaseException", .type "object"] true sn3 sub3 ab3 col3 dd3 m3a m3b m3c m3d m3e "ValueError.__new__"))
    (sa3 : PySem.W.findIn K (.ref C3) "__setattr__" = some (some (.builtin "object.__setattr__")))
    (ga3 : PySem.W.findIn K (.ref C3) "__getattribute__" = some (some (.builtin "BaseException.__getattribute__")))
    (gg3 : PySem.W.findIn K (.ref C3) "__getattr__" = some none)
    (cl3 : PySem.W.findIn K (.ref C3) "__class__" = some (some (.builtin "object.__class__")))
    (kC3 : PySem.W.keepIn K (.ref C3) = true)
    (i3 : PySem.W.findIn K (.ref C3) "__init__" = some (some (.ref f3)))
    (t3 : PySem.W.typeIn K (.ref f3) = some (.type "function"))
    (lf3 : K.lookup f3 = some ⟨ocI3, odI3, .func (PySem.W.fnOf "__init__" "BadKind.__init__" (defArgs sIni3) (defBody sIni3) (defScope sIni3) .none kvI3 dcI3 pmI3 anI3 cdI3 ctI3), slI3⟩)
    (cf3 : PySem.W.codeIn K cdI3 "BadKind.__init__" = true)
    (kf3 : PySem.W.keepIn K (.ref f3) = true)
    (n3_0 : PySem.W.findIn K (.ref C3) "kind" = some none)
    (a4 : PySem.W.nsIn K mainGlobals "BadMode" = some (some (.ref C4)))
    (l4 : K.lookup C4 = some (excClassObj nm4 q4 C4 N4 bs4 [.ref T, .type "ValueError", .type "Exception", .type "BaseException", .type "object"] true sn4 sub4 ab4 col4 dd4 m4a m4b m4c m4d m4e "ValueError.__new__"))
    (sa4 : PySem.W.findIn K (.ref C4) "__setattr__" = some (some (.builtin "object.__setattr__")))
    (ga4 : PySem.W.findIn K (.ref C4) "__getattribute__" = some (some (.builtin "BaseException.__getattribute__")))
    (gg4 : PySem.W.findIn K (.ref C4) "__getattr__" = some none)
    (cl4 : PySem.W.findIn K (.ref C4) "__class__" = some (some (.builtin "object.__class__")))
    (kC4 : PySem.W.keepIn K (.ref C4) = true)
    (i4 : PySem.W.findIn K (.ref C4) "__init__" = some (some (.ref f4)))
    (t4 : PySem.W.typeIn K (.ref f4) = some (.type "function"))
    (lf4 : K.lookup f4 = some ⟨ocI4, odI4, .func (PySem.W.fnOf "__init__" "BadMode.__init__" (defArgs sIni4) (defBody sIni4) (defScope sIni4) .none kvI4 dcI4 pmI4 anI4 cdI4 ctI4), slI4⟩)
    (cf4 : PySem.W.codeIn K cdI4 "BadMode.__init__" = true)
    (kf4 : PySem.W.keepIn K (.ref f4) = true)
    (n4_0 : PySem.W.findIn K (.ref C4) "mode" = some none)
    (a5 : PySem.W.nsIn K mainGlobals "NoText" = some (some (.ref C5)))
    (l5 : K.lookup C5 = some (excClassObj nm5 q5 C5 N5 bs5 [.ref T, .type "ValueError", .type "Exception", .type "BaseException", .type "object"] true sn5 sub5 ab5 col5 dd5 m5a m5b m5c m5d m5e "ValueError.__new__"))
    (sa5 : PySem.W.findIn K (.ref C5) "__setattr__" = some (some (.builtin "object.__setattr__")))
    (ga5 : PySem.W.findIn K (.ref C5) "__getattribute__" = some (some (.builtin "BaseException.__getattribute__")))
    (gg5 : PySem.W.findIn K (.ref C5) "__getattr__" = some none)
    (cl5 : PySem.W.findIn K (.ref C5) "__class__" = some (some (.builtin "object.__class__")))
    (kC5 : PySem.W.keepIn K (.ref C5) = true)
    (i5 : PySem.W.findIn K (.ref C5) "__init__" = some (some (.ref f5)))
    (t5 : PySem.W.typeIn K (.ref f5) = some (.type "function"))
    (lf5 : K.lookup f5 = some ⟨ocI5, odI5, .func (PySem.W.fnOf "__init__" "NoText.__init__" (defArgs sIni5) (defBody sIni5) (defScope sIni5) .none kvI5 dcI5 pmI5 anI5 cdI5 ctI5), slI5⟩)
    (cf5 : PySem.W.codeIn K cdI5 "NoText.__init__" = true)
    (kf5 : PySem.W.keepIn K (.ref f5) = true)
    (n5_0 : PySem.W.findIn K (.ref C5) "path" = some none)
    (a6 : PySem.W.nsIn K mainGlobals "NotLiteral" = some (some (.ref C6)))
    (l6 : K.lookup C6 = some (excClassObj nm6 q6 C6 N6 bs6 [.ref T, .type "ValueError", .type "Exception", .type "BaseException", .type "object"] true sn6 sub6 ab6 col6 dd6 m6a m6b m6c m6d m6e "ValueError.__new__"))
    (sa6 : PySem.W.findIn K (.ref C6) "__setattr__" = some (some (.builtin "object.__setattr__")))
    (ga6 : PySem.W.findIn K (.ref C6) "__getattribute__" = some (some (.builtin "BaseException.__getattribute__")))
    (gg6 : PySem.W.findIn K (.ref C6) "__getattr__" = some none)
    (cl6 : PySem.W.findIn K (.ref C6) "__class__" = some (some (.builtin "object.__class__")))
    (kC6 : PySem.W.keepIn K (.ref C6) = true)
    (i6 : PySem.W.findIn K (.ref C6) "__init__" = some (some (.ref f6)))
    (t6 : PySem.W.typeIn K (.ref f6) = some (.type "function"))
    (lf6 : K.lookup f6 = some ⟨ocI6, odI6, .func (PySem.W.fnOf "__init__" "NotLiteral.__init__" (defArgs sIni6) (defBody sIni6) (defScope sIni6) .none kvI6 dcI6 pmI6 anI6 cdI6 ctI6), slI6⟩)
    (cf6 : PySem.W.codeIn K cdI6 "NotLiteral.__init__" = true)
    (kf6 : PySem.W.keepIn K (.ref f6) = true)
    (n6_0 : PySem.W.findIn K (.ref C6) "path" = some none)
    (a7 : PySem.W.nsIn K mainGlobals "BadField" = some (some (.ref C7)))
    (l7 : K.lookup C7 = some (excClassObj nm7 q7 C7 N7 bs7 [.ref T, .type "ValueError", .type "Exception", .type "BaseException", .type "object"] true sn7 sub7 ab7 col7 dd7 m7a m7b m7c m7d m7e "ValueError.__new__"))
    (sa7 : PySem.W.findIn K (.ref C7) "__setattr__" = some (some (.builtin "object.__setattr__")))
    (ga7 : PySem.W.findIn K (.ref C7) "__getattribute__" = some (some (.builtin "BaseException.__getattribute__")))
    (gg7 : PySem.W.findIn K (.ref C7) "__getattr__" = some none)
    (cl7 : PySem.W.findIn K (.ref C7) "__class__" = some (some (.builtin "object.__class__")))
    (kC7 : PySem.W.keepIn K (.ref C7) = true)
    (i7 : PySem.W.findIn K (.ref C7) "__init__" = some (some (.ref f7)))
    (t7 : PySem.W.typeIn K (.ref f7) = some (.type "function"))
    (lf7 : K.lookup f7 = some ⟨ocI7, odI7, .func (PySem.W.fnOf "__init__" "BadField.__init__" (defArgs sIni7) (defBody sIni7) (defScope sIni7) .none kvI7 dcI7 pmI7 anI7 cdI7 ctI7), slI7⟩)
    (cf7 : PySem.W.codeIn K cdI7 "BadField.__init__" = true)
    (kf7 : PySem.W.keepIn K (.ref f7) = true)
    (n7_0 : PySem.W.findIn K (.ref C7) "kind" = some none)
    (n7_1 : PySem.W.findIn K (.ref C7) "name" = some none)
    (a8 : PySem.W.nsIn K mainGlobals "BadText" = some (some (.ref C8)))
    (l8 : K.lookup C8 = some (excClassObj nm8 q8 C8 N8 bs8 [.ref T, .type "ValueError", .type "Exception", .type "BaseException", .type "object"] true sn8 sub8 ab8 col8 dd8 m8a m8b m8c m8d m8e "ValueError.__new__"))
    (sa8 : PySem.W.findIn K (.ref C8) "__setattr__" = some (some (.builtin "object.__setattr__")))
    (ga8 : PySem.W.findIn K (.ref C8) "__getattribute__" = some (some (.builtin "BaseException.__getattribute__")))
    (gg8 : PySem.W.findIn K (.ref C8) "__getattr__" = some none)
    (cl8 : PySem.W.findIn K (.ref C8) "__class__" = some (some (.builtin "object.__class__")))
    (kC8 : PySem.W.keepIn K (.ref C8) = true)
    (i8 : PySem.W.findIn K (.ref C8) "__init__" = some (some (.ref f8)))
    (t8 : PySem.W.typeIn K (.ref f8) = some (.type "function"))
    (lf8 : K.lookup f8 = some ⟨ocI8, odI8, .func (PySem.W.fnOf "__init__" "BadText.__init__" (defArgs sIni8) (defBody sIni8) (defScope sIni8) .none kvI8 dcI8 pmI8 anI8 cdI8 ctI8), slI8⟩)
    (cf8 : PySem.W.codeIn K cdI8 "BadText.__init__" = true)
    (kf8 : PySem.W.keepIn K (.ref f8) = true)
    (n8_0 : PySem.W.findIn K (.ref C8) "lineno" = some none)
    (n8_1 : PySem.W.findIn K (.ref C8) "col_offset" = some none)
    (a9 : PySem.W.nsIn K mainGlobals "BadChange" = some (some (.ref C9)))
    (l9 : K.lookup C9 = some (excClassObj nm9 q9 C9 N9 bs9 [.ref T, .type "ValueError", .type "Exception", .type "BaseException", .type "object"] true sn9 sub9 ab9 col9 dd9 m9a m9b m9c m9d m9e "ValueError.__new__"))
    (sa9 : PySem.W.findIn K (.ref C9) "__setattr__" = some (some (.builtin "object.__setattr__")))
    (ga9 : PySem.W.findIn K (.ref C9) "__getattribute__" = some (some (.builtin "BaseException.__getattribute__")))
    (gg9 : PySem.W.findIn K (.ref C9) "__getattr__" = some none)
    (cl9 : PySem.W.findIn K (.ref C9) "__class__" = some (some (.builtin "object.__class__")))
    (kC9 : PySem.W.keepIn K (.ref C9) = true)
    (i9 : PySem.W.findIn K (.ref C9) "__init__" = some (some (.ref f9)))
    (t9 : PySem.W.typeIn K (.ref f9) = some (.type "function"))
    (lf9 : K.lookup f9 = some ⟨ocI9, odI9, .func (PySem.W.fnOf "__init__" "BadChange.__init__" (defArgs sIni9) (defBody sIni9) (defScope sIni9) .none kvI9 dcI9 pmI9 anI9 cdI9 ctI9), slI9⟩)
    (cf9 : PySem.W.codeIn K cdI9 "BadChange.__init__" = true)
    (kf9 : PySem.W.keepIn K (.ref f9) = true)
    (n9_0 : PySem.W.findIn K (.ref C9) "kind" = some none)
    (n9_1 : PySem.W.findIn K (.ref C9) "name" = some none)
    (a10 : PySem.W.nsIn K mainGlobals "BadScope" = some (some (.ref C10)))
    (l10 : K.lookup C10 = some (excClassObj nm10 q10 C10 N10 bs10 [.ref T, .type "ValueError", .type "Exception", .type "BaseException", .type "object"] true sn10 sub10 ab10 col10 dd10 m10a m10b m10c m10d m10e "ValueError.__new__"))
    (sa10 : PySem.W.findIn K (.ref C10) "__setattr__" = some (some (.builtin "object.__setattr__")))
    (ga10 : PySem.W.findIn K (.ref C10) "__getattribute__" = some (some (.builtin "BaseException.__getattribute__")))
    (gg10 : PySem.W.findIn K (.ref C10) "__getattr__" = some none)
    (cl10 : PySem.W.findIn K (.ref C10) "__class__" = some (some (.builtin "object.__class__")))
    (kC10 : PySem.W.keepIn K (.ref C10) = true)
    (i10 : PySem.W.findIn K (.ref C10) "__init__" = some (some (.ref f10)))
    (t10 : PySem.W.typeIn K (.ref f10) = some (.type "function"))
    (lf10 : K.lookup f10 = some ⟨ocI10, odI10, .func (PySem.W.fnOf "__init__" "BadScope.__init__" (defArgs sIni10) (defBody sIni10) (defScope sIni10) .none kvI10 dcI10 pmI10 anI10 cdI10 ctI10), slI10⟩)
    (cf10 : PySem.W.codeIn K cdI10 "BadScope.__init__" = true)
    (kf10 : PySem.W.keepIn K (.ref f10) = true)
    (n10_0 : PySem.W.findIn K (.ref C10) "name" = some none)
    (n10_1 : PySem.W.findIn K (.ref C10) "lineno" = some none)
    (n10_2 : PySem.W.findIn K (.ref C10) "col_offset" = some none)
    (aDD : PySem.W.nsIn K mainGlobals "_law_draw" = some (some (.ref gD)))
    (lDD : K.lookup gD = some ⟨ocD, odD, .func (PySem.W.fnOf "_law_draw" "_law_draw" (defArgs sDraw) (defBody sDraw) (defScope sDraw) .none kvD dcD pmD anD cdD ctD), slD⟩)
    (cDD : PySem.W.codeIn K cdD "_law_draw" = true)
    (kDD : PySem.W.keepIn K (.ref gD) = true)
    (aDP : PySem.W.nsIn K mainGlobals "_law_pick" = some (some (.ref gP)))
    (lDP : K.lookup gP = some ⟨ocP, odP, .func (PySem.W.fnOf "_law_pick" "_law_pick" (defArgs sPick) (defBody sPick) (defScope sPick) .none kvP dcP pmP anP cdP ctP), slP⟩)
    (cDP : PySem.W.codeIn K cdP "_law_pick" = true)
    (kDP : PySem.W.keepIn K (.ref gP) = true)
    (aDT : PySem.W.nsIn K mainGlobals "_law_thing" = some (some (.ref gT)))
    (lDT : K.lookup gT = some ⟨ocT, odT, .func (PySem.W.fnOf "_law_thing" "_law_thing" (defArgs sThing) (defBody sThing) (defScope sThing) .none kvT dcT pmT anT cdT ctT), slT⟩)
    (cDT : PySem.W.codeIn K cdT "_law_thing" = true)
    (kDT : PySem.W.keepIn K (.ref gT) = true)
    (aDM : PySem.W.nsIn K mainGlobals "_law_made" = some (some (.ref gM)))
    (lDM : K.lookup gM = some ⟨ocM, odM, .func (PySem.W.fnOf "_law_made" "_law_made" (defArgs sMade) (defBody sMade) (defScope sMade) .none kvM dcM pmM anM cdM ctM), slM⟩)
    (cDM : PySem.W.codeIn K cdM "_law_made" = true)
    (kDM : PySem.W.keepIn K (.ref gM) = true)
    (aDN : PySem.W.nsIn K mainGlobals "_law_named" = some (some (.ref gN)))
    (lDN : K.lookup gN = some ⟨ocN, odN, .func (PySem.W.fnOf "_law_named" "_law_named" (defArgs sNamed) (defBody sNamed) (defScope sNamed) .none kvN dcN pmN anN cdN ctN), slN⟩)
    (cDN : PySem.W.codeIn K cdN "_law_named" = true)
    (kDN : PySem.W.keepIn K (.ref gN) = true)
    (aDF : PySem.W.nsIn K mainGlobals "_law_fields" = some (some (.ref gF)))
    (lDF : K.lookup gF = some ⟨ocF, odF, .func (PySem.W.fnOf "_law_fields" "_law_fields" (defArgs sFields) (defBody sFields) (defScope sFields) .none kvF dcF pmF anF cdF ctF), slF⟩)
    (cDF : PySem.W.codeIn K cdF "_law_fields" = true)
    (kDF : PySem.W.keepIn K (.ref gF) = true)
    (aDG : PySem.W.nsIn K mainGlobals "_law_kinds" = some (some (.ref gG)))
    (lDG : K.lookup gG = some ⟨ocG, odG, .func (PySem.W.fnOf "_law_kinds" "_law_kinds" (defArgs sKinds) (defBody sKinds) (defScope sKinds) .none kvG dcG pmG anG cdG ctG), slG⟩)
    (cDG : PySem.W.codeIn K cdG "_law_kinds" = true)
    (kDG : PySem.W.keepIn K (.ref gG) = true)
    (aDL : PySem.W.nsIn K mainGlobals "law" = some (some (.ref gL)))
    (lDL : K.lookup gL = some ⟨ocL, odL, .func (PySem.W.fnOf "law" "law" (defArgs sLaw) (defBody sLaw) (defScope sLaw) .none kvL dcL pmL anL cdL ctL), slL⟩)
    (cDL : PySem.W.codeIn K cdL "law" = true)
    (kDL : PySem.W.keepIn K (.ref gL) = true)
    (z_int : PySem.W.nsIn K mainGlobals "int" = some none)
    (z_len : PySem.W.nsIn K mainGlobals "len" = some none)
    (z_range : PySem.W.nsIn K mainGlobals "range" = some none)
    (z_tuple : PySem.W.nsIn K mainGlobals "tuple" = some none)
    (z_isinstance : PySem.W.nsIn K mainGlobals "isinstance" = some none)
    (z_repr : PySem.W.nsIn K mainGlobals "repr" = some none)
    (z_list : PySem.W.nsIn K mainGlobals "list" = some none)
    (z_ValueError : PySem.W.nsIn K mainGlobals "ValueError" = some none)
    (sp : PySem.W.specialIn K (.builtin "object.__class__") "__get__" = some (some (.builtin "getset_descriptor.__get__")))
    (tk : PySem.W.takesIn K (.builtin "object.__class__") = some true)
    (nd : ((T :: [C0, C1, C2, C3, C4, C5, C6, C7, C8, C9, C10] : List Addr)).Nodup)
    : ∃ fd : FuncData, (∀ (s : Shared) (v : Value), BindsTo s fd ⟨[v], []⟩ [("_law_script", v)]) ∧ ∀ base : Heap, K.In base → base.Ns mainGlobals mg → TopOk P w K mg base fa fd ["_law_script"] (spLaw K) := by
  have e := hfa.symm.trans (PySem.W.mg_of X G aDL)
  cases e
  have E0 : Err K T C0 := ⟨⟨_, _, _, _, _, _, _, _, _, _, _, _, _, _, l0⟩, sa0, ga0, gg0, cl0, kC0⟩
  have E1 : Err K T C1 := ⟨⟨_, _, _, _, _, _, _, _, _, _, _, _, _, _, l1⟩, sa1, ga1, gg1, cl1, kC1⟩
  have E2 : Err K T C2 := ⟨⟨_, _, _, _, _, _, _, _, _, _, _, _, _, _, l2⟩, sa2, ga2, gg2, cl2, kC2⟩
  have E3 : Err K T C3 := ⟨⟨_, _, _, _, _, _, _, _, _, _, _, _, _, _, l3⟩, sa3, ga3, gg3, cl3, kC3⟩
  have E4 : Err K T C4 := ⟨⟨_, _, _, _, _, _, _, _, _, _, _, _, _, _, l4⟩, sa4, ga4, gg4, cl4, kC4⟩
  have E5 : Err K T C5 := ⟨⟨_, _, _, _, _, _, _, _, _, _, _, _, _, _, l5⟩, sa5, ga5, gg5, cl5, kC5⟩
  have E6 : Err K T C6 := ⟨⟨_, _, _, _, _, _, _, _, _, _, _, _, _, _, l6⟩, sa6, ga6, gg6, cl6, kC6⟩
  have E7 : Err K T C7 := ⟨⟨_, _, _, _, _, _, _, _, _, _, _, _, _, _, l7⟩, sa7, ga7, gg7, cl7, kC7⟩
  have E8 : Err K T C8 := ⟨⟨_, _, _, _, _, _, _, _, _, _, _, _, _, _, l8⟩, sa8, ga8, gg8, cl8, kC8⟩
  have E9 : Err K T C9 := ⟨⟨_, _, _, _, _, _, _, _, _, _, _, _, _, _, l9⟩, sa9, ga9, gg9, cl9, kC9⟩
  have E10 : Err K T C10 := ⟨⟨_, _, _, _, _, _, _, _, _, _, _, _, _, _, l10⟩, sa10, ga10, gg10, cl10, kC10⟩
  let cs : Nat → Addr := fun k => ([C0, C1, C2, C3, C4, C5, C6, C7, C8, C9, C10] : List Addr).getD k 0
  have nd2 := List.nodup_cons.mp nd
  have hE : ∀ k, k < 11 → Err K T (cs k) := fun k hk => match k, hk with
    | 0, _ => E0
    | 1, _ => E1
    | 2, _ => E2
    | 3, _ => E3
    | 4, _ => E4
    | 5, _ => E5
    | 6, _ => E6
    | 7, _ => E7
    | 8, _ => E8
    | 9, _ => E9
    | 10, _ => E10
  have hNT : ∀ k, k < 11 → cs k ≠ T := fun k hk z => nd2.1 (by
    have hk' : k < ([C0, C1, C2, C3, C4, C5, C6, C7, C8, C9, C10] : List Addr).length := hk
    have e : ([C0, C1, C2, C3, C4, C5, C6, C7, C8, C9, C10] : List Addr).getD k 0 = ([C0, C1, C2, C3, C4, C5, C6, C7, C8, C9, C10] : List Addr)[k] := by rw [List.getD_eq_getElem?_getD, List.getElem?_eq_getElem hk']; rfl
    rw [← show cs k = T from z, show cs k = ([C0, C1, C2, C3, C4, C5, C6, C7, C8, C9, C10] : List Addr)[k] from e]
    exact List.getElem_mem hk')
  have XT : Txt K mg T cs :=
    { err := hE, inj := fun i j hi hj e => nodup_getD nd2.2 hi hj e, neT := hNT, clT := iT, tyT := tT, mach := ⟨sp, tk⟩, gT := PySem.W.mg_of X G aT,
      g0 := PySem.W.mg_of X G a0, g1 := PySem.W.mg_of X G a1, g2 := PySem.W.mg_of X G a2, g3 := PySem.W.mg_of X G a3, g4 := PySem.W.mg_of X G a4, g5 := PySem.W.mg_of X G a5, g6 := PySem.W.mg_of X G a6, g7 := PySem.W.mg_of X G a7, g8 := PySem.W.mg_of X G a8, g9 := PySem.W.mg_of X G a9, g10 := PySem.W.mg_of X G a10, x0 := x0, x1 := x1, x2 := x2, zI := PySem.W.mg_none_of X G z_isinstance, zR := PySem.W.mg_none_of X G z_range, zP := PySem.W.mg_none_of X G z_repr, zL := PySem.W.mg_none_of X G z_list, zV := PySem.W.mg_none_of X G z_ValueError }
  have NF : NoF K cs := fun k n hn => by
    match k, hn with
    | 0, hn => exact absurd hn (by simp [namesOf])
    | 1, hn => exact absurd hn (by simp [namesOf])
    | 2, hn => exact absurd hn (by simp [namesOf])
    | 3, hn => rw [List.mem_singleton.mp hn]; exact n3_0
    | 4, hn => rw [List.mem_singleton.mp hn]; exact n4_0
    | 5, hn => rw [List.mem_singleton.mp hn]; exact n5_0
    | 6, hn => rw [List.mem_singleton.mp hn]; exact n6_0
    | 7, hn =>
      rcases List.mem_cons.mp hn with e | hn
      · rw [e]; exact n7_0
      · rw [List.mem_singleton.mp hn]; exact n7_1
    | 8, hn =>
      rcases List.mem_cons.mp hn with e | hn
      · rw [e]; exact n8_0
      · rw [List.mem_singleton.mp hn]; exact n8_1
    | 9, hn =>
      rcases List.mem_cons.mp hn with e | hn
      · rw [e]; exact n9_0
      · rw [List.mem_singleton.mp hn]; exact n9_1
    | 10, hn =>
      rcases List.mem_cons.mp hn with e | hn
      · rw [e]; exact n10_0
      rcases List.mem_cons.mp hn with e | hn
      · rw [e]; exact n10_1
      · rw [List.mem_singleton.mp hn]; exact n10_2
    | k + 11, hn => exact absurd hn (by simp [namesOf])
  have FD := fun_mk (st := sDraw) lDD cDD kDD
  have bD := FD.binds (ps := ["_law_stream", "_law_many"]) fun _ _ _ _ _ _ us hl => match us, hl with | [_, _], _ => rfl
  have FP := fun_mk (st := sPick) lDP cDP kDP
  have bP := FP.binds (ps := ["_law_stream", "_law_some"]) fun _ _ _ _ _ _ us hl => match us, hl with | [_, _], _ => rfl
  have FT := fun_mk (st := sThing) lDT cDT kDT
  have bT := FT.binds (ps := ["_law_stream", "_law_deep"]) fun _ _ _ _ _ _ us hl => match us, hl with | [_, _], _ => rfl
  have FM := fun_mk (st := sMade) lDM cDM kDM
  have bM := FM.binds (ps := ["_law_one", "_law_two", "_law_three"]) fun _ _ _ _ _ _ us hl => match us, hl with | [_, _, _], _ => rfl
  have FN := fun_mk (st := sNamed) lDN cDN kDN
  have bN := FN.binds (ps := ["_law_one", "_law_two", "_law_three"]) fun _ _ _ _ _ _ us hl => match us, hl with | [_, _, _], _ => rfl
  have FF := fun_mk (st := sFields) lDF cDF kDF
  have bF := FF.binds (ps := ["_law_k", "_law_e"]) fun _ _ _ _ _ _ us hl => match us, hl with | [_, _], _ => rfl
  have FG := fun_mk (st := sKinds) lDG cDG kDG
  have bG := FG.binds (ps := ["_law_e"]) fun _ _ _ _ _ _ us hl => match us, hl with | [_], _ => rfl
  have FL := fun_mk (st := sLaw) lDL cDL kDL
  have FI3 := fun_mk (st := sIni3) lf3 cf3 kf3
  have bI3 := FI3.binds (ps := ["self", "kind"]) fun _ _ _ _ _ _ us hl => match us, hl with | [_, _], _ => rfl
  have FI4 := fun_mk (st := sIni4) lf4 cf4 kf4
  have bI4 := FI4.binds (ps := ["self", "mode"]) fun _ _ _ _ _ _ us hl => match us, hl with | [_, _], _ => rfl
  have FI5 := fun_mk (st := sIni5) lf5 cf5 kf5
  have bI5 := FI5.binds (ps := ["self", "path"]) fun _ _ _ _ _ _ us hl => match us, hl with | [_, _], _ => rfl
  have FI6 := fun_mk (st := sIni6) lf6 cf6 kf6
  have bI6 := FI6.binds (ps := ["self", "path"]) fun _ _ _ _ _ _ us hl => match us, hl with | [_, _], _ => rfl
  have FI7 := fun_mk (st := sIni7) lf7 cf7 kf7
  have bI7 := FI7.binds (ps := ["self", "kind", "name"]) fun _ _ _ _ _ _ us hl => match us, hl with | [_, _, _], _ => rfl
  have FI8 := fun_mk (st := sIni8) lf8 cf8 kf8
  have bI8 := FI8.binds (ps := ["self", "lineno", "col_offset"]) fun _ _ _ _ _ _ us hl => match us, hl with | [_, _, _], _ => rfl
  have FI9 := fun_mk (st := sIni9) lf9 cf9 kf9
  have bI9 := FI9.binds (ps := ["self", "kind", "name"]) fun _ _ _ _ _ _ us hl => match us, hl with | [_, _, _], _ => rfl
  have FI10 := fun_mk (st := sIni10) lf10 cf10 kf10
  have bI10 := FI10.binds (ps := ["self", "name", "lineno", "col_offset"]) fun _ _ _ _ _ _ us hl => match us, hl with | [_, _, _, _], _ => rfl
  refine ⟨PySem.W.fnOf "law" "law" (defArgs sLaw) (defBody sLaw) (defScope sLaw) .none kvL dcL pmL anL cdL ctL, fun s v => .of_eq rfl, fun base _ _ => ?_⟩
  have mks : Mks P w K mg base cs := {
    m3 := ⟨f3, _, i3, t3, ok_ini3 FI3 E3 n3_0, bI3, ⟨fun s us ws _ l1 l2 => match us, ws, l1, l2 with | [u], [a], _, _ => .of_eq rfl, fun r1 r2 => Vals.append r1 r2⟩⟩,
    m4 := ⟨f4, _, i4, t4, ok_ini4 FI4 E4 n4_0, bI4, ⟨fun s us ws _ l1 l2 => match us, ws, l1, l2 with | [u], [a], _, _ => .of_eq rfl, fun r1 r2 => Vals.append r1 r2⟩⟩,
    m5 := ⟨f5, _, i5, t5, ok_ini5 FI5 E5 n5_0, bI5, ⟨fun s us ws _ l1 l2 => match us, ws, l1, l2 with | [u], [a], _, _ => .of_eq rfl, fun r1 r2 => Vals.append r1 r2⟩⟩,
    m6 := ⟨f6, _, i6, t6, ok_ini6 FI6 E6 n6_0, bI6, ⟨fun s us ws _ l1 l2 => match us, ws, l1, l2 with | [u], [a], _, _ => .of_eq rfl, fun r1 r2 => Vals.append r1 r2⟩⟩,
    m7 := ⟨f7, _, i7, t7, ok_ini7 FI7 E7 n7_0 n7_1, bI7, ⟨fun s us ws _ l1 l2 => match us, ws, l1, l2 with | [u], [a, b], _, _ => .of_eq rfl, fun r1 r2 => rel2 r1 r2⟩⟩,
    m8 := ⟨f8, _, i8, t8, ok_ini8 FI8 E8 n8_0 n8_1, bI8, ⟨fun s us ws _ l1 l2 => match us, ws, l1, l2 with | [u], [a, b], _, _ => .of_eq rfl, fun r1 r2 => rel2 r1 r2⟩⟩,
    m9 := ⟨f9, _, i9, t9, ok_ini9 FI9 E9 n9_0 n9_1, bI9, ⟨fun s us ws _ l1 l2 => match us, ws, l1, l2 with | [u], [a, b], _, _ => .of_eq rfl, fun r1 r2 => rel2 r1 r2⟩⟩,
    m10 := ⟨f10, _, i10, t10, ok_ini10 FI10 E10 n10_0 n10_1 n10_2, bI10, ⟨fun s us ws _ l1 l2 => match us, ws, l1, l2 with | [u], [a, b, c], _, _ => .of_eq rfl, fun r1 r2 => rel3 r1 r2⟩⟩ }
  have mi := PySem.W.mg_none_of X G z_int
  have ml := PySem.W.mg_none_of X G z_len
  have mr := PySem.W.mg_none_of X G z_range
  have mt := PySem.W.mg_none_of X G z_tuple
  have GD : FnOk P w K mg base CX0 1 gD _ ["_law_stream", "_law_many"] spDraw := ok_draw FD mi
  have GP : FnOk P w K mg base CX0 2 gP _ ["_law_stream", "_law_some"] (spPick K) := ok_pick FP GD bD kDD (PySem.W.mg_of X G aDD) ml
  have GT := things (P := P) (w := w) (base := base) FT bT (PySem.W.mg_of X G aDT) GD bD kDD (PySem.W.mg_of X G aDD) GP bP kDP (PySem.W.mg_of X G aDP) mr mt 4
  exact ok_law FL XT
    { D := GD, bD := bD, kD := kDD, mD := PySem.W.mg_of X G aDD, T := GT, bT := bT, kT := kDT, mT := PySem.W.mg_of X G aDT, M := ok_made FM XT mks, bM := bM, kM := kDM, mM := PySem.W.mg_of X G aDM,
      N := ok_named FN XT mks, bN := bN, kN := kDN, mN := PySem.W.mg_of X G aDN, F := ok_fields FF XT NF, bF := bF, kF := kDF, mF := PySem.W.mg_of X G aDF, G := ok_kinds FG XT, bG := bG, kG := kDG, mG := PySem.W.mg_of X G aDG }
end K1
open PySem PySem.W PyProof.Rows
set_option maxRecDepth 100000 in
set_option maxHeartbeats 0 in
theorem PySem.Challenge.cw_treequill_k01_errors_made_holds : PySem.Challenge.rw_treequill_k01_errors_made.Holds := by
  w_on; o_law; k_head; (case hw => w_witness2)
  k_fill
  refine K1.walk_top (l := PySem.Challenge.rw_treequill_k01_errors_made) (n := 63) (sp := K1.spLaw) (x := "_law_script") rfl (by decide) rfl (fun w h Y => PySem.W.kIn_of Y) ?F ?S
  case F =>
    intro w mg fa h KX G hmg
    refine' K1.all_mk KX G hmg ?aT ?iT ?tT ?a0 ?l0 ?sa0 ?ga0 ?gg0 ?cl0 ?kC0 ?x0 ?a1 ?l1 ?sa1 ?ga1 ?gg1 ?cl1 ?kC1 ?x1 ?a2 ?l2 ?sa2 ?ga2 ?gg2 ?cl2 ?kC2 ?x2 ?a3 ?l3 ?sa3 ?ga3 ?gg3 ?cl3 ?kC3 ?i3 ?t3 ?lf3 ?cf3 ?kf3 ?n3_0 ?a4 ?l4 ?sa4 ?ga4 ?gg4 ?cl4 ?kC4 ?i4 ?t4 ?lf4 ?cf4 ?kf4 ?n4_0 ?a5 ?l5 ?sa5 ?ga5 ?gg5 ?cl5 ?kC5 ?i5 ?t5 ?lf5 ?cf5 ?kf5 ?n5_0 ?a6 ?l6 ?sa6 ?ga6 ?gg6 ?cl6 ?kC6 ?i6 ?t6 ?lf6 ?cf6 ?kf6 ?n6_0 ?a7 ?l7 ?sa7 ?ga7 ?gg7 ?cl7 ?kC7 ?i7 ?t7 ?lf7 ?cf7 ?kf7 ?n7_0 ?n7_1 ?a8 ?l8 ?sa8 ?ga8 ?gg8 ?cl8 ?kC8 ?i8 ?t8 ?lf8 ?cf8 ?kf8 ?n8_0 ?n8_1 ?a9 ?l9 ?sa9 ?ga9 ?gg9 ?cl9 ?kC9 ?i9 ?t9 ?lf9 ?cf9 ?kf9 ?n9_0 ?n9_1 ?a10 ?l10 ?sa10 ?ga10 ?gg10 ?cl10 ?kC10 ?i10 ?t10 ?lf10 ?cf10 ?kf10 ?n10_0 ?n10_1 ?n10_2 ?aDD ?lDD ?cDD ?kDD ?aDP ?lDP ?cDP ?kDP ?aDT ?lDT ?cDT ?kDT ?aDM ?lDM ?cDM ?kDM ?aDN ?lDN ?cDN ?kDN ?aDF ?lDF ?cDF ?kDF ?aDG ?lDG ?cDG ?kDG ?aDL ?lDL ?cDL ?kDL ?z_int ?z_len ?z_range ?z_tuple ?z_isinstance ?z_repr ?z_list ?z_ValueError ?sp ?tk ?nd
    (case aT => k_is)
    (case iT => k_is)
    (case tT => k_is)
    (case a0 => k_is)
    (case l0 => k_is)
    (case sa0 => k_is)
    (case ga0 => k_is)
    (case gg0 => k_is)
    (case cl0 => k_is)
    (case kC0 => k_is)
    (case x0 => k_exc)
    (case a1 => k_is)
    (case l1 => k_is)
    (case sa1 => k_is)
    (case ga1 => k_is)
    (case gg1 => k_is)
    (case cl1 => k_is)
    (case kC1 => k_is)
    (case x1 => k_exc)
    (case a2 => k_is)
    (case l2 => k_is)
    (case sa2 => k_is)
    (case ga2 => k_is)
    (case gg2 => k_is)
    (case cl2 => k_is)
    (case kC2 => k_is)
    (case x2 => k_exc)
    (case a3 => k_is)
    (case l3 => k_is)
    (case sa3 => k_is)
    (case ga3 => k_is)
    (case gg3 => k_is)
    (case cl3 => k_is)
    (case kC3 => k_is)
    (case i3 => k_is)
    (case t3 => k_is)
    (case lf3 => k_is)
    (case cf3 => k_is)
    (case kf3 => k_is)
    (case n3_0 => k_is)
    (case a4 => k_is)
    (case l4 => k_is)
    (case sa4 => k_is)
    (case ga4 => k_is)
    (case gg4 => k_is)
    (case cl4 => k_is)
    (case kC4 => k_is)
    (case i4 => k_is)
    (case t4 => k_is)
    (case lf4 => k_is)
    (case cf4 => k_is)
    (case kf4 => k_is)
    (case n4_0 => k_is)
    (case a5 => k_is)
    (case l5 => k_is)
    (case sa5 => k_is)
    (case ga5 => k_is)
    (case gg5 => k_is)
    (case cl5 => k_is)
    (case kC5 => k_is)
    (case i5 => k_is)
    (case t5 => k_is)
    (case lf5 => k_is)
    (case cf5 => k_is)
    (case kf5 => k_is)
    (case n5_0 => k_is)
    (case a6 => k_is)
    (case l6 => k_is)
    (case sa6 => k_is)
    (case ga6 => k_is)
    (case gg6 => k_is)
    (case cl6 => k_is)
    (case kC6 => k_is)
    (case i6 => k_is)
    (case t6 => k_is)
    (case lf6 => k_is)
    (case cf6 => k_is)
    (case kf6 => k_is)
    (case n6_0 => k_is)
    (case a7 => k_is)
    (case l7 => k_is)
    (case sa7 => k_is)
    (case ga7 => k_is)
    (case gg7 => k_is)
    (case cl7 => k_is)
    (case kC7 => k_is)
    (case i7 => k_is)
    (case t7 => k_is)
    (case lf7 => k_is)
    (case cf7 => k_is)
    (case kf7 => k_is)
    (case n7_0 => k_is)
    (case n7_1 => k_is)
    (case a8 => k_is)
    (case l8 => k_is)
    (case sa8 => k_is)
    (case ga8 => k_is)
    (case gg8 => k_is)
    (case cl8 => k_is)
    (case kC8 => k_is)
    (case i8 => k_is)
    (case t8 => k_is)
    (case lf8 => k_is)
    (case cf8 => k_is)
    (case kf8 => k_is)
    (case n8_0 => k_is)
    (case n8_1 => k_is)
    (case a9 => k_is)
    (case l9 => k_is)
    (case sa9 => k_is)
    (case ga9 => k_is)
    (case gg9 => k_is)
    (case cl9 => k_is)
    (case kC9 => k_is)
    (case i9 => k_is)
    (case t9 => k_is)
    (case lf9 => k_is)
    (case cf9 => k_is)
    (case kf9 => k_is)
    (case n9_0 => k_is)
    (case n9_1 => k_is)
    (case a10 => k_is)
    (case l10 => k_is)
    (case sa10 => k_is)
    (case ga10 => k_is)
    (case gg10 => k_is)
    (case cl10 => k_is)
    (case kC10 => k_is)
    (case i10 => k_is)
    (case t10 => k_is)
    (case lf10 => k_is)
    (case cf10 => k_is)
    (case kf10 => k_is)
    (case n10_0 => k_is)
    (case n10_1 => k_is)
    (case n10_2 => k_is)
    (case aDD => k_is)
    (case lDD => k_is)
    (case cDD => k_is)
    (case kDD => k_is)
    (case aDP => k_is)
    (case lDP => k_is)
    (case cDP => k_is)
    (case kDP => k_is)
    (case aDT => k_is)
    (case lDT => k_is)
    (case cDT => k_is)
    (case kDT => k_is)
    (case aDM => k_is)
    (case lDM => k_is)
    (case cDM => k_is)
    (case kDM => k_is)
    (case aDN => k_is)
    (case lDN => k_is)
    (case cDN => k_is)
    (case kDN => k_is)
    (case aDF => k_is)
    (case lDF => k_is)
    (case cDF => k_is)
    (case kDF => k_is)
    (case aDG => k_is)
    (case lDG => k_is)
    (case cDG => k_is)
    (case kDG => k_is)
    (case aDL => k_is)
    (case lDL => k_is)
    (case cDL => k_is)
    (case kDL => k_is)
    (case z_int => k_is)
    (case z_len => k_is)
    (case z_range => k_is)
    (case z_tuple => k_is)
    (case z_isinstance => k_is)
    (case z_repr => k_is)
    (case z_list => k_is)
    (case z_ValueError => k_is)
    (case sp => k_is)
    (case tk => k_is)
    (case nd => decide)
  case S =>
    intro K H a ns hl _ hS
    exact ⟨a, ns, rfl, hS, hl, fun _ => rfl⟩
#print axioms PySem.Challenge.cw_treequill_k01_errors_made_holds
