import PyProof.Rows.All
import Wide.All
import OpenK.AllK
import Wide.FinOn
import HandS.ForMost
import HandS.Wide
import HandS.Codes
import HandS.OwnEq
import HandS.IsInst
import KE.KEqSeq
import PySem.Challenge.RW_treequill_k08_floats_read
import HandS.WideBits
import HandS.StrMore
import HandS.ReplaceLit
import HandS.Text
import HandS.WordsExc
import HandS.Exc
import HandS.ExcOwn
import HandS.ExcIs
import HandS.RaiseMore
import PyProof.StrBlock2
import HandS.ForSpec
import HandS.Head0
import HandS.Head1
import HandS.Head2
import HandS.HeadEnd
import HandS.HeadHook1
import HandS.HeadHook2
import HandS.HeadHook3
set_option Elab.async false
set_option linter.all false
set_option pp.maxSteps 1500
set_option maxRecDepth 100000
set_option maxHeartbeats 16000000
set_option exponentiation.threshold 20000
namespace KN
open PySem PySem.Spec PyProof.Rows L2
def topS (i : Nat) : Stmt := PySem.Challenge.pw_treequill_k08_floats_read.main.body.getD i (.Pass ⟨0, 0, 0, 0⟩)
abbrev sDraw : Stmt := topS 23
abbrev sPick : Stmt := topS 24
theorem scDraw : FnScope ["_law_stream", "_law_many", "_law_digit", "_law_mixed", "_law_last"] ["_law_stream", "_law_many"] (defScope sDraw) := ⟨rfl, rfl, rfl, by decide +kernel, rfl, by decide +kernel, by decide +kernel⟩
theorem scPick : FnScope ["_law_stream", "_law_some"] ["_law_stream", "_law_some"] (defScope sPick) := ⟨rfl, rfl, rfl, by decide +kernel, rfl, by decide +kernel, by decide +kernel⟩
/-- the stream's state: what is left of the cells, the great cell at hand, how many were mixed, the mixed number -/
structure Stm where
  cells : List Int
  cur : Int
  cnt : Int
  mix : Int
structure StmAt (H : Hp) (a c : Addr) (S : Stm) : Prop where
  lst : H a = some (.lst [.ref c, .int S.cur, .int S.cnt, .int S.mix])
  cel : H c = some (.lst (S.cells.map V.int))
  ne : a ≠ c
  len : S.cells.length ≤ 63
  cur0 : 0 ≤ S.cur
  cnt0 : 0 ≤ S.cnt
  mix0 : 0 ≤ S.mix
  mix1 : S.mix < 2147483647
/-- all that stood but the stream stands -/
def Kept (a c : Addr) (H H' : Hp) : Prop := ∀ b o, b ≠ a → b ≠ c → H b = some o → H' b = some o
theorem Kept.refl (a c : Addr) (H : Hp) : Kept a c H H := fun _ _ _ _ h => h
theorem Kept.trans {a c : Addr} {H H1 H2 : Hp} (x : Kept a c H H1) (y : Kept a c H1 H2) : Kept a c H H2 := fun b o n1 n2 h => y b o n1 n2 (x b o n1 n2 h)
theorem Kept.updA {a c : Addr} {H H1 : Hp} {o : HO} (x : Kept a c H H1) : Kept a c H (upd H1 a o) := fun b u n1 n2 h => by
  rw [upd_ne n1]; exact x b u n1 n2 h
theorem Kept.updC {a c : Addr} {H H1 : Hp} {o : HO} (x : Kept a c H H1) : Kept a c H (upd H1 c o) := fun b u n1 n2 h => by
  rw [upd_ne n2]; exact x b u n1 n2 h
theorem Kept.new {a c p : Addr} {H H1 : Hp} {o : HO} (x : Kept a c H H1) (h : H1 p = none) : Kept a c H (upd H1 p o) := fun b u n1 n2 e => by
  rw [upd_ne (ne_of_none (x b u n1 n2 e) h)]; exact x b u n1 n2 e
theorem Kept.same {a c : Addr} {H H1 : Hp} (x : Same H H1) : Kept a c H H1 := fun b u _ _ h => x b u h
def spDraw : Sp := fun vs H Q _ => ∃ (a c : Addr) (S : Stm) (m : Int), vs = [.ref a, .int m] ∧ StmAt H a c S ∧ S.cnt < 1000000 ∧ 0 < m ∧ m < 1000000000 ∧
  ∀ (H' : Hp) (S' : Stm) (r : Int), StmAt H' a c S' → S'.cnt ≤ S.cnt + 1 → Kept a c H H' → 0 ≤ r → r < m → Q (.int r) H'
theorem dp_ints {K : PySem.W.Frag} {H : Hp} : ∀ ns : List Int, DpAll K H (ns.map V.int) (ns.map PyData.int)
  | [] => .nil
  | n :: r => .cons (.int n) (dp_ints r)
theorem shaped_ints (ns : List Int) : SeqAt.shaped (.list (ns.map PyData.int)) = true := by first | exact ke_shaped_ints ns | exact PySem.W.ke_shaped_ints ns | exact PyProof.Rows.ke_shaped_ints ns
theorem eqv_ints_nil : ∀ ns : List Int, PyData.eqv (.list (ns.map PyData.int)) (.list []) = ns.isEmpty
  | [] => rfl
  | _ :: _ => rfl
section
variable {P : Program} {w : World} {K : PySem.W.Frag} {mg : Str → Option Value} {base : Heap}
theorem ok_draw {f : Addr} {fd : FuncData} (F : Fun K "_law_draw" "_law_draw" sDraw f fd) (mi : mg "int" = none) : FnOk P w K mg base CX0 1 f fd ["_law_stream", "_law_many"] spDraw := by
  refine F.ok scDraw (fun vs H Q E h => ?_) (fun cdv A outer s H vs Q E hr h => ?_)
  · obtain ⟨a, c, S, m, rfl, _⟩ := h
    rfl
  obtain ⟨a, c, S, m, rfl, hS, hcnt, hm0, hm1, q⟩ := h
  refine ⟨_, C8.pss_cut (ps_while PassesOwn.never
      (PW.pt (pw_and (pt_cmpR op_eq (pe_ix ix_list (pv 0) pe_int (fun _ _ => rfl)) pe_int (nomark _))
        (pw_and1 (pt_cmpR (op_neD hr.units) (pe_ix ix_list (pv 0) pe_int (fun _ _ => rfl)) (pe_lst pa_nil) (nomark _)))))
      (pss_cons (ps_asg (pe_bm PySem.F.plainAttrs_list PySem.F.slot_list_pop PySem.F.type_list_pop mt_popAt (pe_ix ix_list (pv 0) pe_int (fun _ _ => rfl)) (pa_cons pe_int pa_nil)) (pg_sub (pv 0) pe_int set_list))
      (pss_one (ps_if (pt_cmpR op_lt (pe_ix ix_list (pv 0) pe_int (fun _ _ => rfl)) (pe_op op_pow pe_int pe_int) (nomark _))
        (pss_cons (ps_asg (pe_op op_mod (pe_callTy call_int1 (by rfl) mi (by decide +kernel) (pa_cons (pe_op op_add (pe_op op_add (pe_op op_mul (pe_ix ix_list (pv 0) pe_int (fun _ _ => rfl)) pe_int) (pe_ix ix_list (pv 0) pe_int (fun _ _ => rfl))) pe_int) pa_nil)) pe_int) (pg_sub (pv 0) pe_int set_list))
        (pss_one (ps_asg pe_int (pg_sub (pv 0) pe_int set_list)))) pss_nil))))
    (pss_cons (ps_if (pt_cmpR op_gt (pe_ix ix_list (pv 0) pe_int (fun _ _ => rfl)) pe_int (nomark _))
        (pss_cons (ps_set (i := 2) scDraw.nd rfl (.inl rfl) (pe_op op_mod (pe_callTy call_int1 (by rfl) mi (by decide +kernel) (pa_cons (pe_ix ix_list (pv 0) pe_int (fun _ _ => rfl)) pa_nil)) (pv 1)))
        (pss_cons (ps_asg (pe_op op_fdivN (pe_ix ix_list (pv 0) pe_int (fun _ _ => rfl)) (pv 1)) (pg_sub (pv 0) pe_int set_list))
        (pss_one (ps_ret (pv 2))))) pss_nil)
    (pss_cons (ps_asg (pe_op op_add (pe_ix ix_list (pv 0) pe_int (fun _ _ => rfl)) pe_int) (pg_sub (pv 0) pe_int set_list))
    (pss_cons (ps_set (i := 3) scDraw.nd rfl (.inl rfl) (pe_op op_mod (pe_callTy call_int1 (by rfl) mi (by decide +kernel) (pa_cons (pe_op op_pow (pe_op op_add (pe_op op_add (pe_ix ix_list (pv 0) pe_int (fun _ _ => rfl)) (pe_op op_mul pe_int (pe_ix ix_list (pv 0) pe_int (fun _ _ => rfl)))) pe_int) pe_int) pa_nil)) pe_int))
    (pss_cons (ps_set (i := 4) scDraw.nd rfl (.inl rfl) (pe_op op_mod (pe_callTy call_int1 (by rfl) mi (by decide +kernel) (pa_cons (pe_op op_pow (pe_op op_add (pe_op op_add (pe_op op_mul (pv 3) pe_int) (pe_op op_mul (pe_op op_mul pe_int (pe_ix ix_list (pv 0) pe_int (fun _ _ => rfl))) (pe_ix ix_list (pv 0) pe_int (fun _ _ => rfl)))) pe_int) pe_int) pa_nil)) pe_int))
    (pss_one (ps_ret (pe_op op_mod (pe_callTy call_int1 (by rfl) mi (by decide +kernel) (pa_cons (pv 4) pa_nil)) (pv 1)))))))), ?_⟩
  refine ⟨fun σ H1 => ∃ S1 : Stm, σ = [some (.ref a), some (.int m), none, none, none] ∧ StmAt H1 a c S1 ∧ S1.cnt = S.cnt ∧ Kept a c H H1,
    ⟨fun n σ H1 => ∃ S1 : Stm, σ = [some (.ref a), some (.int m), none, none, none] ∧ StmAt H1 a c S1 ∧ S1.cnt = S.cnt ∧ Kept a c H H1 ∧ S1.cells.length = n, ⟨_, S, rfl, hS, rfl, .refl _ _ _, rfl⟩, ?_⟩, ?_⟩
  · rintro n σ H1 ⟨S1, rfl, h1, ec, k1, el⟩
    refine ⟨_, rfl, a, _, _, _, rfl, rfl, SqL.of h1.lst, rfl, rfl, _, rfl, ?_⟩
    have l0 := h1.cur0
    have l1 := h1.cnt0
    have l2 := h1.mix0
    have l3 := h1.mix1
    refine ite2 (fun c1 => ?_) (fun c1 => ?_)
    · -- the cells: != []
      have c1' : S1.cur = 0 := by simpa using c1
      refine ⟨_, rfl, a, _, _, _, rfl, rfl, SqL.of h1.lst, rfl, Nat.zero_le _, fun l nl => ?_⟩
      have na : a ≠ l := ne_of_none h1.lst nl
      have nc : c ≠ l := ne_of_none h1.cel nl
      have h2 : StmAt (upd H1 l (.lst [])) a c S1 := ⟨by rw [upd_ne na]; exact h1.lst, by rw [upd_ne nc]; exact h1.cel, h1.ne, h1.len, h1.cur0, h1.cnt0, h1.mix0, h1.mix1⟩
      have k2 : Kept a c H (upd H1 l (.lst [])) := k1.new nl
      refine ⟨_, _, .lst (SqL.of h2.cel) (dp_ints S1.cells), .lst (SqL.of upd_same) .nil, shaped_ints _, rfl, _, rfl, ?_⟩
      rw [eqv_ints_nil]
      generalize upd H1 l (.lst []) = H2 at h2 k2
      cases hS1 : S1.cells with
      | nil =>
        refine iteF ?_
        exact ⟨S1, rfl, h2, ec, k2⟩
      | cons v r =>
        refine iteT ?_
        refine ⟨fun σ' H' => ∃ S3 : Stm, σ' = [some (.ref a), some (.int m), none, none, none] ∧ StmAt H' a c S3 ∧ S3.cnt = S.cnt ∧ Kept a c H H' ∧ S3.cells.length < n, fun σ' H' ⟨S3, e, h3, e3, k3, l3⟩ => ⟨_, l3, S3, e, h3, e3, k3, rfl⟩, ?_⟩
        have eL : S1.cells.length = r.length + 1 := by rw [hS1]; rfl
        have hcel : H2 c = some (.lst (.int v :: r.map V.int)) := by have := h2.cel; rw [hS1] at this; exact this
        have h63 := h1.len
        -- pop(0), the store
        refine ⟨_, rfl, a, _, _, _, rfl, rfl, SqL.of h2.lst, rfl, .inl ⟨rfl, _, SqL.of hcel⟩, c, _, 0, 0, _, rfl, rfl, hcel, by decide, by decide, ?_, rfl, ?_⟩
        · show (if (decide (0 ≤ (0 : Int)) && decide ((0 : Int) < ((V.int v :: r.map V.int).length : Nat))) = true then some _ else none) = some 0
          simp
        have hlst2 : (upd H2 c (.lst (r.map V.int))) a = some (.lst [.ref c, .int S1.cur, .int S1.cnt, .int S1.mix]) := by rw [upd_ne h1.ne]; exact h2.lst
        refine ⟨_, rfl, a, _, 1, 1, rfl, rfl, hlst2, rfl, ?_⟩
        have k3 : Kept a c H (upd (upd H2 c (.lst (r.map V.int))) a (.lst [.ref c, .int v, .int S1.cnt, .int S1.mix])) := k2.updC.updA
        have h3l : (upd (upd H2 c (.lst (r.map V.int))) a (.lst [.ref c, .int v, .int S1.cnt, .int S1.mix])) a = some (.lst [.ref c, .int v, .int S1.cnt, .int S1.mix]) := upd_same
        have h3c : (upd (upd H2 c (.lst (r.map V.int))) a (.lst [.ref c, .int v, .int S1.cnt, .int S1.mix])) c = some (.lst (r.map V.int)) := by rw [upd_ne h1.ne.symm]; exact upd_same
        refine ⟨_, rfl, a, _, _, _, rfl, rfl, SqL.of h3l, rfl, _, _, rfl, rfl, ⟨by decide, by decide, by decide⟩, _, _, rfl, rfl, _, rfl, ?_⟩
        have hl : r.length ≤ 63 := by omega
        refine ite2 (fun c2 => ?_) (fun c2 => ?_)
        · refine ⟨_, rfl, a, _, _, _, rfl, rfl, SqL.of h3l, rfl, _, _, rfl, rfl, .inl ⟨by omega, by omega⟩, _, rfl, a, _, _, _, rfl, rfl, SqL.of h3l, rfl, _, _, rfl, rfl, _, _, rfl, rfl, .inl ⟨_, rfl, _, _, rfl, rfl, (by show (0 : Int) < 2147483647; decide), ?_⟩⟩
          refine ⟨_, rfl, a, _, 3, 3, rfl, rfl, h3l, rfl, ?_⟩
          refine ⟨_, rfl, a, _, 1, 1, rfl, rfl, upd_same, rfl, ?_⟩
          refine ⟨⟨r, 0, S1.cnt, (S1.mix * 31 + v + 7) % 2147483647⟩, rfl, ⟨upd_same, ?_, h1.ne, hl, Int.le_refl 0, l1, Int.emod_nonneg _ (by decide), Int.emod_lt_of_pos _ (by decide)⟩, ec, k3.updA.updA, by show r.length < _; omega⟩
          rw [upd_ne h1.ne.symm, upd_ne h1.ne.symm]
          exact h3c
        · have c2' : ¬ v < 10 ^ 18 := by simpa using c2
          refine ⟨⟨r, v, S1.cnt, S1.mix⟩, rfl, ⟨h3l, h3c, h1.ne, hl, by show 0 ≤ v; omega, l1, l2, l3⟩, ec, k3, by show r.length < _; omega⟩
    · exact ⟨S1, rfl, h1, ec, k1⟩
  · rintro σ H1 ⟨S1, rfl, h1, ec, k1⟩
    have l0 := h1.cur0
    have l1 := h1.cnt0
    have l2 := h1.mix0
    have l3 := h1.mix1
    refine ⟨_, rfl, a, _, _, _, rfl, rfl, SqL.of h1.lst, rfl, _, _, rfl, rfl, _, rfl, ?_⟩
    refine ite2 (fun c1 => ?_) (fun c1 => ?_)
    · have c1' : 0 < S1.cur := by simpa using c1
      refine ⟨_, rfl, a, _, _, _, rfl, rfl, SqL.of h1.lst, rfl, .inl ⟨_, rfl, _, rfl, _, _, rfl, rfl, hm0, ?_⟩⟩
      refine ⟨_, rfl, a, _, _, _, rfl, rfl, SqL.of h1.lst, rfl, _, rfl, _, _, rfl, rfl, ⟨by omega, by omega⟩, ?_⟩
      refine ⟨_, rfl, a, _, 1, 1, rfl, rfl, h1.lst, rfl, _, rfl, ?_⟩
      refine q _ ⟨S1.cells, S1.cur.fdiv m, S1.cnt, S1.mix⟩ _ ⟨upd_same, ?_, h1.ne, h1.len, ?_, l1, l2, l3⟩ (by show S1.cnt ≤ _; omega) k1.updA (Int.emod_nonneg _ (by omega)) (Int.emod_lt_of_pos _ hm0)
      · rw [upd_ne h1.ne.symm]; exact h1.cel
      · show 0 ≤ S1.cur.fdiv m
        rw [Int.fdiv_eq_ediv_of_nonneg _ (by omega)]
        exact Int.ediv_nonneg (by omega) (by omega)
    · refine ⟨_, rfl, a, _, _, _, rfl, rfl, SqL.of h1.lst, rfl, _, _, rfl, rfl, ?_⟩
      refine ⟨_, rfl, a, _, 2, 2, rfl, rfl, h1.lst, rfl, ?_⟩
      have h2l : (upd H1 a (.lst [.ref c, .int S1.cur, .int (S1.cnt + 1), .int S1.mix])) a = some (.lst [.ref c, .int S1.cur, .int (S1.cnt + 1), .int S1.mix]) := upd_same
      refine ⟨_, rfl, a, _, _, _, rfl, rfl, SqL.of h2l, rfl, _, rfl, a, _, _, _, rfl, rfl, SqL.of h2l, rfl, _, _, rfl, rfl, .inl ⟨by decide, by decide⟩, _, _, rfl, rfl, _, _, rfl, rfl, _, _, rfl, rfl, ⟨by decide, by decide, by show (S1.mix + 104729 * (S1.cnt + 1) + 17).natAbs < 2 ^ 64; omega⟩, .inl ⟨_, rfl, _, _, rfl, rfl, (by show (0 : Int) < 2147483629; decide), ?_⟩⟩
      obtain ⟨M, eM⟩ : ∃ M : Int, (S1.mix + 104729 * (S1.cnt + 1) + 17) ^ (5 : Int).toNat % 2147483629 = M := ⟨_, rfl⟩
      have m0 : 0 ≤ M := by rw [← eM]; exact Int.emod_nonneg _ (by decide)
      have m1 : M < 2147483629 := by rw [← eM]; exact Int.emod_lt_of_pos _ (by decide)
      refine ⟨_, rfl, _, _, rfl, rfl, .inl ⟨by rw [eM]; omega, by rw [eM]; omega⟩, _, rfl, a, _, _, _, rfl, rfl, SqL.of h2l, rfl, _, _, rfl, rfl, .inl ⟨by decide, by decide⟩, _, rfl, a, _, _, _, rfl, rfl, SqL.of h2l, rfl, _, _, rfl, rfl, .inl ⟨by omega, by omega⟩, _, _, rfl, rfl, _, _, rfl, rfl, _, _, rfl, rfl, ⟨by decide, by decide, ?_⟩, .inl ⟨_, rfl, _, _, rfl, rfl, (by show (0 : Int) < 1000000007; decide), ?_⟩⟩
      · have n1 : (S1.cnt + 1) * (S1.cnt + 1) ≤ 1000000 * 1000000 := Int.mul_le_mul (by omega) (by omega) (by omega) (by omega)
        have n2 : 0 ≤ (S1.cnt + 1) * (S1.cnt + 1) := Int.mul_nonneg (by omega) (by omega)
        have n3 : 40503 * (S1.cnt + 1) * (S1.cnt + 1) = 40503 * ((S1.cnt + 1) * (S1.cnt + 1)) := Int.mul_assoc _ _ _
        show ((S1.mix + 104729 * (S1.cnt + 1) + 17) ^ (5 : Int).toNat % 2147483629 * 48271 + 40503 * (S1.cnt + 1) * (S1.cnt + 1) + 13).natAbs < 2 ^ 64
        rw [n3, eM]
        omega
      refine ⟨_, rfl, .inl ⟨_, rfl, _, rfl, _, _, rfl, rfl, hm0, ?_⟩⟩
      refine q _ ⟨S1.cells, S1.cur, S1.cnt + 1, S1.mix⟩ _ ⟨h2l, ?_, h1.ne, h1.len, l0, by show 0 ≤ S1.cnt + 1; omega, l2, l3⟩ (by show S1.cnt + 1 ≤ _; omega) k1.updA (Int.emod_nonneg _ (by omega)) (Int.emod_lt_of_pos _ hm0)
      rw [upd_ne h1.ne.symm]; exact h1.cel
/-- _law_pick: an item of the list or tuple at l -/
def spPick (K : PySem.W.Frag) : Sp := fun vs H Q _ => ∃ (a c l : Addr) (S : Stm) (xs : List V), vs = [.ref a, .ref l] ∧ StmAt H a c S ∧ S.cnt < 1000000 ∧ H l = some (.lst xs) ∧ l ≠ a ∧ l ≠ c ∧ 0 < xs.length ∧ xs.length < 1000000 ∧
  ∀ (H' : Hp) (S' : Stm) (x : V), StmAt H' a c S' → S'.cnt ≤ S.cnt + 1 → Kept a c H H' → x ∈ xs → Q x H'
theorem ok_pick {f g : Addr} {fd gd : FuncData} (F : Fun K "_law_pick" "_law_pick" sPick f fd) (D : FnOk P w K mg base CX0 1 g gd ["_law_stream", "_law_many"] spDraw) (bD : Binds K gd ["_law_stream", "_law_many"] []) (kD : PySem.W.keepIn K (.ref g) = true) (mD : mg "_law_draw" = some (.ref g)) (ml : mg "len" = none) :
    FnOk P w K mg base CX0 2 f fd ["_law_stream", "_law_some"] (spPick K) := by
  refine F.ok scPick (fun vs H Q E h => ?_) (fun cdv A outer s H vs Q E hr h => ?_)
  · obtain ⟨a, c, l, S, xs, rfl, _⟩ := h
    rfl
  obtain ⟨a, c, l, S, xs, rfl, hS, hcnt, hl, la, lc, h0, h1, q⟩ := h
  refine ⟨_, pss_one (ps_ret (pe_ix ix_list (pv 1) (pe_call D hr rfl mD kD bD .nil pass0 (pa_cons (pv 0) (pa_cons (pe_callB call_len_seq rfl ml PySem.boot_len (pa_cons (pv 1) pa_nil)) pa_nil))) (fun _ _ => rfl))), ?_⟩
  refine ⟨_, rfl, _, rfl, _, rfl, l, _, rfl, .inl (SqL.of hl), a, c, S, _, rfl, hS, hcnt, by omega, by omega, fun H' S' r h' hc k hr0 hr1 => ?_⟩
  have hl' := k l _ la lc hl
  obtain ⟨j, rfl⟩ : ∃ j : Nat, r = (j : Int) := ⟨r.toNat, by omega⟩
  have hj : j < xs.length := by omega
  exact ⟨l, _, _, _, rfl, rfl, SqL.of hl', atI_nat (List.getElem?_eq_getElem hj), q H' S' _ h' hc k (List.getElem_mem hj)⟩
/-- _law_pick: a sign of a text -/
def spPickS : Sp := fun vs H Q _ => ∃ (a c : Addr) (S : Stm) (x : Str), vs = [.ref a, .str x] ∧ StmAt H a c S ∧ S.cnt < 1000000 ∧ 0 < x.length ∧ x.length < 1000000 ∧
  ∀ (H' : Hp) (S' : Stm) (n : Nat), StmAt H' a c S' → S'.cnt ≤ S.cnt + 1 → Kept a c H H' → n ∈ x.cps.toList → Q (.str ⟨#[n]⟩) H'
theorem ok_pickS {f g : Addr} {fd gd : FuncData} (F : Fun K "_law_pick" "_law_pick" sPick f fd) (D : FnOk P w K mg base CX0 1 g gd ["_law_stream", "_law_many"] spDraw) (bD : Binds K gd ["_law_stream", "_law_many"] []) (kD : PySem.W.keepIn K (.ref g) = true) (mD : mg "_law_draw" = some (.ref g)) (ml : mg "len" = none) :
    FnOk P w K mg base CX0 2 f fd ["_law_stream", "_law_some"] spPickS := by
  refine F.ok scPick (fun vs H Q E h => ?_) (fun cdv A outer s H vs Q E hr h => ?_)
  · obtain ⟨a, c, S, x, rfl, _⟩ := h
    rfl
  obtain ⟨a, c, S, x, rfl, hS, hcnt, h0, h1, q⟩ := h
  refine ⟨_, pss_one (ps_ret (pe_ix ix_str (pv 1) (pe_call D hr rfl mD kD bD .nil pass0 (pa_cons (pv 0) (pa_cons (pe_callB call_len_str rfl ml PySem.boot_len (pa_cons (pv 1) pa_nil)) pa_nil))) (fun _ _ => rfl))), ?_⟩
  have z : (1000000 : Nat) < sizeLine := by decide
  refine ⟨_, rfl, _, rfl, _, rfl, _, rfl, by omega, a, c, S, _, rfl, hS, hcnt, by omega, by omega, fun H' S' r h' hc k hr0 hr1 => ?_⟩
  obtain ⟨j, rfl⟩ : ∃ j : Nat, r = (j : Int) := ⟨r.toNat, by omega⟩
  have hj : j < x.cps.toList.length := by
    have : x.length = x.cps.toList.length := by simp [Str.length]
    omega
  refine ⟨_, _, _, rfl, rfl, by omega, atI_nat (List.getElem?_eq_getElem hj), q H' S' _ h' hc k (List.getElem_mem hj)⟩
end
theorem Kept.free {a c : Addr} {H H1 : Hp} (k : Kept a c H H1) (ha : H1 a ≠ none) (hc : H1 c ≠ none) {b : Addr} (h : H1 b = none) : H b = none := by
  cases e : H b with
  | none => rfl
  | some o =>
    have na : b ≠ a := fun z => ha (z ▸ h)
    have nc : b ≠ c := fun z => hc (z ▸ h)
    rw [k b o na nc e] at h
    cases h
theorem StmAt.a0 {H : Hp} {a c : Addr} {S : Stm} (h : StmAt H a c S) : H a ≠ none := by rw [h.lst]; simp
theorem StmAt.c0 {H : Hp} {a c : Addr} {S : Stm} (h : StmAt H a c S) : H c ≠ none := by rw [h.cel]; simp
theorem StmAt.keep {H H' : Hp} {a c : Addr} {S : Stm} (h : StmAt H a c S) (k : Same H H') : StmAt H' a c S := ⟨k _ _ h.lst, k _ _ h.cel, h.ne, h.len, h.cur0, h.cnt0, h.mix0, h.mix1⟩
theorem same_new {H : Hp} {p : Addr} {o : HO} (h : H p = none) : Same H (upd H p o) := fun b u e => by rw [upd_ne (ne_of_none e h)]; exact e
end KN

namespace KN
/-! the nearest number: by natural numbers alone -/
/-- the number nearest to X over D: of two the even one -/
def rnd (X D : Nat) : Nat := if 2 * (X % D) > D ∨ (2 * (X % D) = D ∧ X / D % 2 = 1) then X / D + 1 else X / D
structure Near (X D m : Nat) : Prop where
  hi : 2 * X ≤ (2 * m + 1) * D
  lo : 2 * m * D ≤ 2 * X + D
  hi1 : m % 2 = 1 → 2 * X < (2 * m + 1) * D
  lo1 : m % 2 = 1 → 2 * m * D < 2 * X + D
theorem rnd_near {X D : Nat} (hD : 0 < D) : Near X D (rnd X D) := by
  have e : D * (X / D) + X % D = X := Nat.div_add_mod X D
  have lt : X % D < D := Nat.mod_lt _ hD
  unfold rnd
  generalize hq : X / D = q at *
  generalize hr : X % D = r at *
  have eP : D * q = q * D := Nat.mul_comm _ _
  split
  · rename_i c
    have e1 : (2 * (q + 1) + 1) * D = 2 * (q * D) + 3 * D := by rw [Nat.add_mul, Nat.mul_assoc, Nat.add_mul]; omega
    have e2 : 2 * (q + 1) * D = 2 * (q * D) + 2 * D := by rw [Nat.mul_assoc, Nat.add_mul]; omega
    refine ⟨?_, ?_, fun o => ?_, fun o => ?_⟩
    all_goals first | rw [e1] | rw [e2]
    all_goals omega
  · rename_i c
    have e1 : (2 * q + 1) * D = 2 * (q * D) + D := by rw [Nat.add_mul, Nat.mul_assoc]; omega
    have e2 : 2 * q * D = 2 * (q * D) := by rw [Nat.mul_assoc]
    refine ⟨?_, ?_, fun o => ?_, fun o => ?_⟩
    all_goals first | rw [e1] | rw [e2]
    all_goals omega
theorem rnd_scale {X D c : Nat} (hc : 0 < c) : rnd (X * c) (D * c) = rnd X D := by
  unfold rnd
  rw [Nat.mul_div_mul_right _ _ hc, Nat.mul_mod_mul_right]
  have h1 : (2 * (X % D * c) > D * c) = (2 * (X % D) > D) := by
    rw [← Nat.mul_assoc]
    exact propext ⟨fun h => Nat.lt_of_mul_lt_mul_right h, fun h => Nat.mul_lt_mul_of_pos_right h hc⟩
  have h2 : (2 * (X % D * c) = D * c) = (2 * (X % D) = D) := by
    rw [← Nat.mul_assoc]
    exact propext ⟨fun h => Nat.eq_of_mul_eq_mul_right hc h, fun h => by rw [h]⟩
  simp only [h1, h2]
/-- what the rounding is: m and the D it stands for; either m itself, or one bit less -/
structure Got (X D0 D m : Nat) (first : Prop) : Prop where
  near : Near X D m
  le : m ≤ 9007199254740992
  /-- the mantissa is full, or the exponent is the least one -/
  full : first ∨ 4503599627370496 ≤ m
  /-- the lower border of a power of two -/
  low : ¬ first → (4 * 4503599627370496 - 1) * D ≤ 4 * X
  top : X < 9007199254740992 * D
/-- the first rounding: X over D0 is below 2^54; above 2^52, or the exponent is the least one -/
theorem got_first {X D0 : Nat} {least : Prop} (hD : 0 < D0) (lo : least ∨ 4503599627370496 * D0 ≤ X) (c : rnd X D0 < 9007199254740992) : Got X D0 D0 (rnd X D0) least := by
  have n := rnd_near (X := X) hD
  generalize hm : rnd X D0 = m at *
  have t : X < 9007199254740992 * D0 := by
    have h := n.hi
    have h2 := n.hi1
    have e1 : (2 * m + 1) * D0 = 2 * (m * D0) + D0 := by rw [Nat.add_mul, Nat.mul_assoc]; omega
    rw [e1] at h
    have l : m * D0 ≤ 9007199254740991 * D0 := Nat.mul_le_mul_right _ (by omega)
    by_cases z : m = 9007199254740991
    · subst z
      have := h2 (by decide)
      omega
    · have l : m * D0 ≤ 9007199254740990 * D0 := Nat.mul_le_mul_right _ (by omega)
      omega
  refine ⟨n, by omega, ?_, fun k => ?_, t⟩
  · rcases lo with l | l
    · exact .inl l
    · refine .inr ?_
      have h := n.hi
      have e1 : (2 * m + 1) * D0 = 2 * (m * D0) + D0 := by rw [Nat.add_mul, Nat.mul_assoc]; omega
      rw [e1] at h
      by_cases z : 4503599627370496 ≤ m
      · exact z
      · have l : m * D0 ≤ 4503599627370495 * D0 := Nat.mul_le_mul_right _ (by omega)
        omega
  · rcases lo with l | l
    · exact absurd l k
    · omega
/-- the second rounding, over twice as much -/
theorem got_second {X D0 : Nat} {l : Prop} (hD : 0 < D0) (hi : X < 18014398509481984 * D0) (c : 9007199254740992 ≤ rnd X D0) : Got X D0 (D0 * 2) (rnd X (D0 * 2)) l := by
  have n0 := rnd_near (X := X) hD
  have n := rnd_near (X := X) (D := D0 * 2) (by omega)
  generalize hm : rnd X (D0 * 2) = m at *
  generalize hm0 : rnd X D0 = m0 at *
  have l0 : 9007199254740992 * D0 ≤ m0 * D0 := Nat.mul_le_mul_right _ c
  have e0 : 2 * m0 * D0 = 2 * (m0 * D0) := by rw [Nat.mul_assoc]
  have h0 := n0.lo
  rw [e0] at h0
  have e0' : m * (D0 * 2) = m * D0 * 2 := (Nat.mul_assoc _ _ _).symm
  have e1 : (2 * m + 1) * (D0 * 2) = 4 * (m * D0) + 2 * D0 := by rw [Nat.add_mul, Nat.mul_assoc 2 m]; omega
  have e2 : 2 * m * (D0 * 2) = 4 * (m * D0) := by rw [Nat.mul_assoc 2 m]; omega
  have h1 := n.hi
  have h2 := n.lo
  rw [e1] at h1
  rw [e2] at h2
  refine ⟨n, ?_, .inr ?_, fun _ => by omega, by omega⟩
  · by_cases z : m ≤ 9007199254740992
    · exact z
    · have l : 9007199254740993 * D0 ≤ m * D0 := Nat.mul_le_mul_right _ (by omega)
      omega
  · by_cases z : 4503599627370496 ≤ m
    · exact z
    · have l : m * D0 ≤ 4503599627370495 * D0 := Nat.mul_le_mul_right _ (by omega)
      omega
end KN

namespace KN
open PySem PySem.Spec PyProof.Rows L2
/-! ### a token is out: expressions that leave one, statements behind them, functions that are called with one -/
def PE1 (X : Cx) (e : Expr) (t : TE) : Prop := ∀ (pins : List (Addr × Obj)) (s : Shared) (σ : L2.St) (H : Hp) (Q : VK), L2.Inv X pins σ H s → t σ H Q → wpAny (model X.prog X.w) X.A (eval e X.env) (fun u s' => 1 ≤ s'.toks ∧ EP X pins σ Q u s') X.xe s
def PA1 (X : Cx) (es : List Expr) (t : TA) : Prop := ∀ (pos : Pos) (pins : List (Addr × Obj)) (s : Shared) (σ : L2.St) (H : Hp) (Q : List V → Hp → Prop), L2.Inv X pins σ H s → t σ H Q → wpAny (model X.prog X.w) X.A (spliced (backTo pos (starEach es X.env))) (fun us s' => 1 ≤ s'.toks ∧ AP X pins σ Q us s') X.xe s
theorem pe1_int {X : Cx} {i : Int} {j : Nat} {pos : Pos} : PE1 X (Expr.Constant (Const.int i) j pos) (tC (V.int i)) :=
  fun _ s _ H _ I h => wpAny_Constant_int ⟨Nat.succ_le_succ (Nat.zero_le _), .int i, H, I.tok (s.toks + 1), ⟨s.toks, rfl⟩, h⟩
theorem pa1_one {X : Cx} {e : Expr} {te : TE} (h : PE1 X e te) (hs : starEach [e] X.env = [(false, eval e X.env)] := by rfl) : PA1 X [e] (tCons te tNil) := by
  intro pos pins s σ H Q I q
  rw [hs]
  refine Calls.spliced_cons (thn (h pins s σ H _ I q) ?_)
  rintro u s1 ⟨k, x, H1, I1, r1, q1⟩
  exact Calls.spliced_nil ⟨k, [x], H1, I1, Paired.cons r1 Paired.nil, q1⟩
theorem pa1_cons {X : Cx} {e : Expr} {es : List Expr} {te : TE} {t : TA} (ha : PE X e te) (hr : PA1 X es t) (hs : starEach (e :: es) X.env = (false, eval e X.env) :: starEach es X.env := by rfl) : PA1 X (e :: es) (tCons te t) := by
  intro pos pins s σ H Q I q
  rw [hs]
  refine Calls.spliced_cons (thn (ha.run pins s σ H _ I q) ?_)
  rintro u s1 ⟨x, H1, I1, r1, q1⟩
  refine thn (hr pos pins s1 σ H1 _ I1 q1) ?_
  rintro us s2 ⟨k, xs, H2, I2, r2, q2⟩
  exact ⟨k, x :: xs, H2, I2, Paired.cons r1 r2, q2⟩
theorem pe1_call {X : Cx} {CX : CXT} {k : Nat} {f : Addr} {fd : FuncData} {ps : List Str} {sp : Sp} {dvs : List V} {ds : List Value} {E : XK} {x : Str} {p pos : Pos} {e : Expr} {es : List Expr} {t : TA}
    (F : FnOk X.prog X.w X.K X.mg X.base CX k f fd ps sp) (hr : Room k X.A) (hg : Gl X x) (hm : X.mg x = some (Value.ref f)) (hk : W.keepIn X.K (Value.ref f) = true) (hb : L2.Binds X.K fd ps ds) (hd : Vals dvs ds) (hx : Passes CX X E) (ha : PA1 X (e :: es) t)
    (hdb : (x == Str.ofString "__debug__") = false := by rfl) (he : starEach (e :: es) X.env = (false, eval e X.env) :: starEach es X.env := by rfl) (hpl : ((backTo pos (starEach es X.env)).any fun x => x.1) = false := by rfl) :
    PE1 X ((Expr.Name x p).Call (e :: es) [] pos) (tCall sp dvs E t) := by
  intro pins s σ H Q I h
  refine wpAny_Call_Name_kw (ld_glob I hg hm (W.callWith_K I.ok.mod.kin hk (thn (ha pos pins s σ H (fun vs H1 => sp (vs ++ dvs) H1 Q E) I h) ?_) he hpl) hdb)
  rintro us s1 ⟨k1, vs, H1, I1, r, q⟩
  refine ⟨Inv.kIn I1, ?_⟩
  exact wpAny_mono (wpAny_toks (run_fn F hr hb hd hx I1 r q)) (fun v s2 z => ⟨Nat.le_trans k1 z.1, z.2⟩) (fun _ _ z => z.2)
theorem pss_cons1 {X : Cx} {tg e : Expr} {te : TE} {g : TG} {rest : List Stmt} {u : TS} {pos : Pos} (he : PE1 X e te) (hg : PG X tg g) (hR : PSsT X rest u)
    (hs : swapsWithSole [tg] e pos.line X.env = pure false := by rfl) (hw : swappedStores [tg] e X.env = pure none := by rfl) (h1 : List.map (fun x => x.2) (assignEach [tg] X.env) = [assign tg X.env] := by rfl) :
    PSs X (Stmt.Assign [tg] e pos :: rest) (tSeq (tAsg te g) u) := by
  refine ⟨fun pins s σ H D I h => ?_⟩
  refine wpAny_execs_cons (wpAny_Assign_stores (thn (he pins s σ H _ I h) ?_) hs hw)
  rintro v s1 ⟨k1, x, H1, I1, r1, q1⟩
  rw [h1]
  refine wpAny_mono (wpAny_toks (hg.run pins s1 σ H1 x v _ I1 r1 q1)) ?_ (fun _ _ z => z.2)
  rintro _ s2 ⟨k2, σ2, H2, I2, q2⟩
  exact hR pins s2 σ2 H2 D (Nat.le_trans k1 k2) I2 q2
theorem PSt.of {X : Cx} {st : Stmt} {t : TS} (h : PS X st t) : PST X st t := fun pins s σ H D _ I q => h.run pins s σ H D I q
theorem psst_cons {X : Cx} {st : Stmt} {rest : List Stmt} {t u : TS} (h1 : PST X st t) (h2 : PSsT X rest u) : PSsT X (st :: rest) (tSeq t u) := by
  intro pins s σ H D k I h
  refine wpAny_execs_cons (wpAny_mono (wpAny_toks (h1 pins s σ H { nx := u D, rt := D.rt, bk := D.bk, ct := D.ct } k I h)) ?_ (fun _ _ z => z.2))
  rintro f s1 ⟨k1, q⟩
  cases f with
  | next =>
    obtain ⟨σ', H', I', q'⟩ := q
    exact h2 pins s1 σ' H' D (Nat.le_trans k k1) I' q'
  | brk => exact q
  | cont => exact q
  | ret v => exact q
theorem pst_asg {X : Cx} {pos : Pos} {tg e : Expr} {te : TE} {g : TG} (he : PET X e te) (hg : PG X tg g)
    (hs : swapsWithSole [tg] e pos.line X.env = pure false := by rfl) (hw : swappedStores [tg] e X.env = pure none := by rfl) (h1 : List.map (fun x => x.2) (assignEach [tg] X.env) = [assign tg X.env] := by rfl) :
    PST X (Stmt.Assign [tg] e pos) (tAsg te g) := by
  intro pins s σ H D k I h
  refine wpAny_Assign_stores (thn (he pins s σ H _ k I h) ?_) hs hw
  rintro v s1 ⟨x, H1, I1, r1, q1⟩
  rw [h1]
  exact thn (hg.run pins s1 σ H1 x v D.nx I1 r1 q1) (fun _ _ q => q)
def PAT (X : Cx) (es : List Expr) (t : TA) : Prop := ∀ (pos : Pos) (pins : List (Addr × Obj)) (s : Shared) (σ : L2.St) (H : Hp) (Q : List V → Hp → Prop), 1 ≤ s.toks → L2.Inv X pins σ H s → t σ H Q → wpAny (model X.prog X.w) X.A (spliced (backTo pos (starEach es X.env))) (AP X pins σ Q) X.xe s
theorem pat_one {X : Cx} {e : Expr} {te : TE} (h : PET X e te) (hs : starEach [e] X.env = [(false, eval e X.env)] := by rfl) : PAT X [e] (tCons te tNil) := by
  intro pos pins s σ H Q k I q
  rw [hs]
  refine Calls.spliced_cons (thn (h pins s σ H _ k I q) ?_)
  rintro u s1 ⟨x, H1, I1, r1, q1⟩
  exact Calls.spliced_nil ⟨[x], H1, I1, Paired.cons r1 Paired.nil, q1⟩
theorem PAT.of {X : Cx} {es : List Expr} {t : TA} (h : PA X es t) : PAT X es t := fun pos pins s σ H Q _ I q => h.run pos pins s σ H Q I q
theorem pat_cons {X : Cx} {e : Expr} {es : List Expr} {te : TE} {t : TA} (ha : PET X e te) (hr : PAT X es t) (hs : starEach (e :: es) X.env = (false, eval e X.env) :: starEach es X.env := by rfl) : PAT X (e :: es) (tCons te t) := by
  intro pos pins s σ H Q k I q
  rw [hs]
  refine Calls.spliced_cons (wpAny_mono (wpAny_toks (ha pins s σ H _ k I q)) ?_ (fun _ _ z => z.2))
  rintro u s1 ⟨k1, x, H1, I1, r1, q1⟩
  refine thn (hr pos pins s1 σ H1 _ (Nat.le_trans k k1) I1 q1) ?_
  rintro us s2 ⟨xs, H2, I2, r2, q2⟩
  exact ⟨x :: xs, H2, I2, Paired.cons r1 r2, q2⟩
theorem pet_callB {X : Cx} {x : Str} {p pos : Pos} {e : Expr} {es : List Expr} {t : TA} {id : String} {r : List V → Hp → VK → Prop}
    (hc : CallR X (Value.builtin id) r) (hg : Gl X x) (hm : X.mg x = none) (hv : bootBuiltins x = some (Value.builtin id)) (ha : PAT X (e :: es) t)
    (hn : x ≠ Str.ofString "__name__" := by decide) (hdb : (x == Str.ofString "__debug__") = false := by rfl) (he : starEach (e :: es) X.env = (false, eval e X.env) :: starEach es X.env := by rfl) (hpl : ((backTo pos (starEach es X.env)).any fun x => x.1) = false := by rfl) :
    PET X ((Expr.Name x p).Call (e :: es) [] pos) (tCB r t) := by
  intro pins s σ H Q k I h
  refine wpAny_Call_Name_kw (ld_blt I hg hm hv (PyProof.Rows.callWith_builtin1 (thn (ha pos pins s σ H (fun vs H1 => r vs H1 Q) k I h) ?_) he hpl) hn hdb)
  rintro us s1 ⟨vs, H1, I1, r1, q1⟩
  exact hc pins s1 σ H1 vs us Q I1 r1 q1
/-- a method of a builtin, of what is made with a token out -/
theorem pet_bm {X : Cx} {o e : Expr} {es : List Expr} {to : TE} {t : TA} {name : Str} {apos cpos : Pos} {T id : String} {r : V → List V → Hp → VK → Prop}
    (pa : PlainAttrs T) (slot : Slot T name id) (hty : typeOf (Value.builtin id) = pure (Value.type "method_descriptor")) (hm : MtR X id r) (ho : PET X o to) (ha : PA X (e :: es) t)
    (hbase : attributeBase o name X.env (eval o X.env) = eval o X.env := by rfl)
    (hfew : (((backTo cpos (starEach (e :: es) X.env)).all fun x => !x.1) && ((backToKw cpos (keywordEach [] X.env)).all fun x => x.1.isSome) && (decide (((e :: es).length + ([] : List Keyword).length + if ([] : List Keyword).isEmpty = true then 0 else 1) < 30))) = true := by rfl)
    (hline : (apos.endLine == cpos.line) = true := by rfl) (hs : starEach (e :: es) X.env = (false, eval e X.env) :: starEach es X.env := by rfl) (hpl : ((backTo cpos (starEach es X.env)).any fun x => x.1) = false := by rfl) :
    PET X ((o.Attribute name apos).Call (e :: es) [] cpos) (tBM X.K T r to t) := by
  intro pins s σ H Q k I h
  refine wpAny_Call_method_late hbase hfew hline rfl (thn (ho pins s σ H (fun x H1 => tyV X.K T x H1 ∧ t σ H1 fun xs H2 => r x xs H2 Q) k I h) ?_)
  rintro v s1 ⟨x, H1, I1, r1, ty, q1⟩
  obtain ⟨h1, h2⟩ := tyV_is I1 r1 ty
  refine ⟨T, id, pa, slot, hty, h1, h2, ?_⟩
  have hA := ha.run cpos pins s1 σ H1 (fun xs H2 => r x xs H2 Q) I1 q1
  rw [hs] at hA ⊢
  refine Calls.callWith_builtin (by show (false || ((backTo cpos (starEach es X.env)).any fun x => x.1)) = false; rw [hpl]; rfl) (Calls.evalArgs_plain (thn hA ?_))
  rintro us s2 ⟨vs, H2, I2, r2, q2⟩
  exact hm pins s2 σ H2 x vs v us Q I2 r1 r2 q2
/-! ### functions that are called with a token out -/
structure FnOkT (P : Program) (w : World) (K : PySem.W.Frag) (mg : Str → Option Value) (base : Heap) (CX : CXT) (k : Nat) (f : Addr) (fd : FuncData) (ps : List Str) (sp : Sp) : Prop where
  len : ∀ (vs : List V) (H : Hp) (Q : VK) (E : XK), sp vs H Q E → vs.length = ps.length
  run : ∀ (A : Around) (outer : List Env) (s : Shared) (H : Hp) (args : Args) (us : List Value) (vs : List V) (Q : VK) (E : XK), 1 ≤ s.toks → Room k A → Env0 P w K mg base A outer s H → BindsTo s fd args (ps.zip us) → Vals vs us → sp vs H Q E → codeAny (model P w) A (Code.call (Value.ref f) args) (CR CX outer P w H s Q E) s
theorem fn_ofT {CX : CXT} {P : Program} {w : World} {K : PySem.W.Frag} {mg : Str → Option Value} {base : Heap} {k : Nat} {f : Addr} {name qual : Str} {params : Arguments} {body : List Stmt} {scope : Scope} {dV kV doc pm cdv ct oc : Value} {an od : Option Addr} {osl : Array (Option Value)} {N ps : List Str} {sp : Sp}
    (lk : List.lookup f K = some { cls := oc, dict := od, data := Data.func (PySem.W.fnOf name qual params body scope dV kV doc pm an cdv ct), slots := osl }) (hcd : PySem.W.codeIn K cdv qual = true) (S : FnScope N ps scope)
    (len : ∀ (vs : List V) (H : Hp) (Q : VK) (E : XK), sp vs H Q E → vs.length = ps.length)
    (hbody : ∀ (A : Around) (outer : List Env) (s : Shared) (H : Hp) (vs : List V) (Q : VK) (E : XK), Room k (A.deeper (envOfC qual scope s.heap.objs.size f cdv)) → sp vs H Q E → ∃ t, PSsT (cxOf CX P w K mg base N qual scope f cdv A outer s H E) body t ∧ t { nx := fun x H' => Q V.non H', rt := Q } (L2.start N vs) H) :
    FnOkT P w K mg base CX (k + 1) f (PySem.W.fnOf name qual params body scope dV kV doc pm an cdv ct) ps sp := by
  refine ⟨len, fun A outer s H args us vs Q E hk hr e0 hb r hsp => ?_⟩
  have hl := len vs H Q E hsp
  have KX := PySem.W.Frag.In.keeps e0.mod.kin fun b o e => (e0.bs b o e).1
  have lim := Heap.NoLimit.keeps e0.mod.nolimit fun b o e => (e0.bs b o e).1
  have hkind : ∀ x, x ∈ ps.zip us → List.lookup x.1 scope.names = some NameKind.local ∨ List.lookup x.1 scope.names = some NameKind.cell ∧ (List.lookup x.1 (cellsFrom (s.heap.objs.size + 1) scope.names [])).isSome = true := by
    rintro ⟨n, v⟩ hy
    rcases S.par n (List.of_mem_zip hy).1 with q | q
    · exact .inl q
    · exact .inr ⟨q, PySem.W.cellsFrom_some scope.names (s.heap.objs.size + 1) [] (.inl q)⟩
  refine codeAny_call_function (Room.depth hr) (KX f _ lk) rfl S.co S.gen rfl (PySem.W.codeRec_of KX hcd) (hb _ _ _ _ ?_)
  refine wpAny_mono (wpAny_toks (Q := fun env s1 => ∃ _ : env = envOfC qual scope s.heap.objs.size f cdv, InCallC s env.locals (bindL env.kindOf (ps.zip us) fun x => none) env.cells (bindC env.kindOf (ps.zip us) fun x => none) s1) (wpAny_newFunctionEnv_cells S.kind hkind (fun env he s1 x => ⟨he, x⟩))) ?_ (fun _ _ z => z.2)
  rintro env s1 ⟨k1, rfl, x⟩
  refine ⟨Heap.NoLimit.keeps lim x.toInCall.keep, codeAny_func ?_⟩
  obtain ⟨t, ht, hq⟩ := hbody A outer s H vs Q E (Room.deeper hr (envOfC qual scope s.heap.objs.size f cdv)) hsp
  have I := inv_start (CX := CX) (E := E) S hr.hd e0 hl r x
  refine wpAny_mono (ht [] s1 (L2.start N vs) H { nx := fun x H' => Q V.non H', rt := Q } (Nat.le_trans hk k1) I hq) ?_ (fun e s' hs => hs)
  intro fl s' hs
  have fin : ∀ {σ' : L2.St} {H' : Hp} {v : V} {u : Value}, L2.Inv (cxOf CX P w K mg base N qual scope f cdv A outer s H E) [] σ' H' s' → L2.RelV v u → Q v H' → CR CX outer P w H s Q E (Except.ok (Flow.ret u)) s' := fun {σ' H' v u} J rv q => ⟨v, H', J.os, J.bare, J.base, J.hok, rv, q⟩
  cases fl with
  | next =>
    obtain ⟨σ', H', J, q⟩ := hs
    exact fin (v := V.non) (u := Value.none) J rfl q
  | brk =>
    obtain ⟨_, _, _, q⟩ := hs
    exact q.elim
  | cont =>
    obtain ⟨_, _, _, q⟩ := hs
    exact q.elim
  | ret u =>
    obtain ⟨v, σ', H', J, rv, q⟩ := hs
    exact fin J rv q
theorem Fun.okT {P : Program} {w : World} {K : PySem.W.Frag} {mg : Str → Option Value} {base : Heap} {x qual : Str} {st : Stmt} {f : Addr} {fd : FuncData} {N ps : List Str} {k : Nat} {sp : Sp} (F : Fun K x qual st f fd) (S : FnScope N ps (defScope st))
    (len : ∀ (vs : List V) (H : Hp) (Q : VK) (E : XK), sp vs H Q E → vs.length = ps.length)
    (hbody : ∀ (cdv : Value) (A : Around) (outer : List Env) (s : Shared) (H : Hp) (vs : List V) (Q : VK) (E : XK), Room k (A.deeper (envOfC qual (defScope st) s.heap.objs.size f cdv)) → sp vs H Q E → ∃ t, PSsT (cxOf CX0 P w K mg base N qual (defScope st) f cdv A outer s H E) (defBody st) t ∧ t { nx := fun x H' => Q V.non H', rt := Q } (L2.start N vs) H) :
    FnOkT P w K mg base CX0 (k + 1) f fd ps sp := by
  obtain ⟨oc, od, kV, doc, pm, an, cdv, ct, osl, rfl, lk, hcd⟩ := F.ex
  exact fn_ofT lk hcd S len fun A outer s H vs Q E hr hsp => hbody cdv A outer s H vs Q E hr hsp
theorem run_fnT {X : Cx} {CX : CXT} {k : Nat} {f : Addr} {fd : FuncData} {ps : List Str} {sp : Sp} {dvs : List V} {ds : List Value} {E : XK} {pins : List (Addr × Obj)} {σ : L2.St} {H : Hp} {s : Shared} {Q : VK} {us : List Value} {vs : List V}
    (F : FnOkT X.prog X.w X.K X.mg X.base CX k f fd ps sp) (hk : 1 ≤ s.toks) (hr : Room k X.A) (hb : L2.Binds X.K fd ps ds) (hd : Vals dvs ds) (hx : Passes CX X E) (I : L2.Inv X pins σ H s) (r : Vals vs us) (h : sp (vs ++ dvs) H Q E) :
    wpAny (model X.prog X.w) X.A (call (Value.ref f) us) (EP X pins σ Q) X.xe s := by
  have r2 := Vals.append r hd
  have hl : (us ++ ds).length = ps.length := by rw [← Vals.length r2]; exact F.len (vs ++ dvs) H Q E h
  refine wpAny_call (codeAny_mono (F.run X.A X.stack s H { pos := us } (us ++ ds) (vs ++ dvs) Q E hk hr (Inv.env0 I) (hb s us (Inv.kIn I) hl) r2 h) ?_)
  intro r s' hq
  cases r with
  | error e => exact hx pins σ H s e s' I hq
  | ok fl =>
    cases fl with
    | next => exact hq.elim
    | brk => exact hq.elim
    | cont => exact hq.elim
    | ret u => exact Inv.after I hq
theorem pet_call {X : Cx} {CX : CXT} {k : Nat} {f : Addr} {fd : FuncData} {ps : List Str} {sp : Sp} {dvs : List V} {ds : List Value} {E : XK} {x : Str} {p pos : Pos} {e : Expr} {es : List Expr} {t : TA}
    (F : FnOkT X.prog X.w X.K X.mg X.base CX k f fd ps sp) (hr : Room k X.A) (hg : Gl X x) (hm : X.mg x = some (Value.ref f)) (hk : W.keepIn X.K (Value.ref f) = true) (hb : L2.Binds X.K fd ps ds) (hd : Vals dvs ds) (hx : Passes CX X E) (ha : PA X (e :: es) t)
    (hdb : (x == Str.ofString "__debug__") = false := by rfl) (he : starEach (e :: es) X.env = (false, eval e X.env) :: starEach es X.env := by rfl) (hpl : ((backTo pos (starEach es X.env)).any fun x => x.1) = false := by rfl) :
    PET X ((Expr.Name x p).Call (e :: es) [] pos) (tCall sp dvs E t) := by
  intro pins s σ H Q k0 I h
  refine wpAny_Call_Name_kw (ld_glob I hg hm (W.callWith_K I.ok.mod.kin hk (wpAny_mono (wpAny_toks (ha.run pos pins s σ H (fun vs H1 => sp (vs ++ dvs) H1 Q E) I h)) ?_ (fun _ _ z => z.2)) he hpl) hdb)
  rintro us s1 ⟨k1, vs, H1, I1, r, q⟩
  exact ⟨Inv.kIn I1, run_fnT F (Nat.le_trans k0 k1) hr hb hd hx I1 r q⟩
end KN

namespace KN
open PySem PySem.Spec PyProof.Rows L2
abbrev sTen : Stmt := topS 19
abbrev sNear : Stmt := topS 20
abbrev sRnd : Stmt := topS 21
theorem scTen : FnScope ["power", "number", "_"] ["power"] (defScope sTen) := ⟨rfl, rfl, rfl, by decide +kernel, rfl, by decide +kernel, by decide +kernel⟩
theorem scNear : FnScope ["above", "below", "exponent", "mantissa"] ["above", "below"] (defScope sNear) := ⟨rfl, rfl, rfl, by decide +kernel, rfl, by decide +kernel, by decide +kernel⟩
theorem scRnd : FnScope ["above", "below", "exponent", "number", "rest"] ["above", "below", "exponent"] (defScope sRnd) := ⟨rfl, rfl, rfl, by decide +kernel, rfl, by decide +kernel, by decide +kernel⟩
/-! ### sizes -/
theorem bits_lt {n k : Nat} (h : n < 2 ^ k) : Builtin.Int.intBits (n : Int) ≤ k := by
  unfold Builtin.Int.intBits
  split
  · exact Nat.zero_le _
  · rename_i c
    have z : n ≠ 0 := fun e => c (by subst e; rfl)
    exact (Nat.log2_lt z).mpr h
theorem bits_zero : Builtin.Int.intBits ((0 : Nat) : Int) = 0 := rfl
theorem bits_le {n k : Nat} (h : Builtin.Int.intBits (n : Int) ≤ k) : n < 2 ^ k := by
  unfold Builtin.Int.intBits at h
  by_cases z : n = 0
  · subst z
    exact Nat.two_pow_pos k
  · have c : ¬ (((n : Int) == 0) = true) := by simpa using z
    rw [if_neg c] at h
    have : n.log2 < k := h
    exact (Nat.log2_lt z).mp this
theorem bits_ge {n k : Nat} (h : 2 ^ k ≤ n) : k < Builtin.Int.intBits (n : Int) := by
  rcases Nat.lt_or_ge k (Builtin.Int.intBits (n : Int)) with c | c
  · exact c
  · exact absurd (bits_le c) (by omega)
theorem bits_low {n k : Nat} (h : Builtin.Int.intBits (n : Int) = k + 1) : 2 ^ k ≤ n := by
  rcases Nat.lt_or_ge n (2 ^ k) with c | c
  · have := bits_lt c
    omega
  · exact c
theorem ten_lt (n : Nat) : 10 ^ n < 2 ^ (4 * n + 1) := by
  have h : 10 ^ n ≤ 16 ^ n := Nat.pow_le_pow_left (by omega) n
  have e : 16 ^ n = 2 ^ (4 * n) := by rw [Nat.pow_mul]
  rw [Nat.pow_succ]
  have := Nat.two_pow_pos (4 * n)
  omega
theorem log2_lt' {n k : Nat} (hk : 0 < k) (h : n < 2 ^ k) : n.log2 < k := by
  by_cases z : n = 0
  · subst z
    exact hk
  · exact (Nat.log2_lt z).mpr h
theorem noPylong {i : Int} {n : Nat} (h : n < 2 ^ 5000) : Builtin.divisionGoesByPylong i (n : Int) = false := by
  unfold Builtin.divisionGoesByPylong
  have z : ¬ ((if ((n : Int) == 0) = true then 0 else (n : Int).natAbs.log2 / 30 + 1) > 300) := by
    have := log2_lt' (by omega) h
    split
    · omega
    · show ¬ (n.log2 / 30 + 1 > 300)
      omega
  show (decide _ && _) = false
  rw [decide_eq_false z]
  rfl
def spTen : Sp := fun vs H Q _ => ∃ p : Int, vs = [.int p] ∧ -2000 ≤ p ∧ p ≤ 2000 ∧ Q (.int (((10 ^ p.toNat : Nat) : Int))) H
def spRnd : Sp := fun vs H Q _ => ∃ (A B : Nat) (e : Int), vs = [.int (A : Int), .int (B : Int), .int e] ∧ 0 < B ∧ A < 2 ^ 3000 ∧ B < 2 ^ 3000 ∧ -2000 ≤ e ∧ e ≤ 2000 ∧
  ∀ H', Same H H' → Q (.int ((rnd (A * 2 ^ (-e).toNat) (B * 2 ^ e.toNat) : Nat) : Int)) H'
theorem same_upd {H : Hp} {p : Addr} {o : HO} (h : H p = none) : Same H (upd H p o) := same_new h
section
variable {P : Program} {w : World} {K : PySem.W.Frag} {mg : Str → Option Value} {base : Heap}
theorem ok_ten {f : Addr} {fd : FuncData} (F : Fun K "ten_to" "ten_to" sTen f fd) (mR : mg "range" = none) : FnOk P w K mg base CX0 1 f fd ["power"] spTen := by
  refine F.ok scTen (fun vs H Q E h => ?_) (fun cdv A outer s H vs Q E hr h => ?_)
  · obtain ⟨p, rfl, _⟩ := h
    rfl
  obtain ⟨p, rfl, p0, p1, q⟩ := h
  refine ⟨_, pss_cons (ps_set (i := 1) scTen.nd rfl (.inl rfl) pe_int)
    (pss_cons (ps_for PassesOwn.never rfl (pi_range1 (by rfl) mR (pa_cons (pv 0) pa_nil)) (pg_name (i := 2) scTen.nd rfl (.inl rfl))
      (pss_one (ps_aug (i := 1) scTen.nd rfl (.inl rfl) pe_int iop_mul)))
    (pss_one (ps_ret (pv 1)))), ?_⟩
  refine ⟨_, rfl, _, rfl, by omega, by omega, ?_⟩
  refine for_range (lo := 0) (n := p.toNat) (fun i σ H1 => ∃ z, σ = [some (.int p), some (.int ((10 ^ i : Nat) : Int)), z] ∧ H1 = H) ⟨_, rfl, rfl⟩ ?_ ?_
  · rintro i σ H1 hi ⟨z, rfl, rfl⟩
    refine ⟨_, rfl, _, _, rfl, rfl, .inr ⟨by decide, by decide⟩, some (.int (0 + (i : Int))), ?_, rfl⟩
    show [some (V.int p), some (V.int (((10 ^ i : Nat) : Int) * 10)), some (V.int (0 + (i : Int)))] = _
    rw [Nat.pow_succ, Int.natCast_mul]
    rfl
  · rintro σ H1 ⟨z, rfl, rfl⟩
    exact ⟨_, rfl, q⟩
theorem ok_rnd {f : Addr} {fd : FuncData} (F : Fun K "_rounded" "_rounded" sRnd f fd) (mD : mg "divmod" = none) : FnOk P w K mg base CX0 1 f fd ["above", "below", "exponent"] spRnd := by
  refine F.ok scRnd (fun vs H Q E h => ?_) (fun cdv A outer s H vs Q E hr h => ?_)
  · obtain ⟨A, B, e, rfl, _⟩ := h
    rfl
  obtain ⟨A, B, e, rfl, hB, hA1, hB1, e0, e1, q⟩ := h
  refine ⟨_, C8.pss_cut (ps_if (pt_cmpR op_gt (pv 2) pe_int (nomark _))
      (pss_one (ps_aug (i := 1) scRnd.nd rfl (.inl rfl) (pv 2) iop_shlW))
      (pss_one (ps_aug (i := 0) scRnd.nd rfl (.inl rfl) (pe_un un_neg (pv 2)) iop_shlW)))
    (pss_cons (ps_asg (pe_callB call_divmodW (by rfl) mD (by decide +kernel) (pa_cons (pv 0) (pa_cons (pv 1) pa_nil))) (pg_tup (by rfl) (pgs_cons (pg_name (i := 3) scRnd.nd rfl (.inl rfl)) (pgs_cons (pg_name (i := 4) scRnd.nd rfl (.inl rfl)) pgs_nil))))
    (C8.pss_cut (ps_if (PW.pt (pw_or (pt_cmpR op_gt (pe_op op_mul pe_int (pv 4)) (pv 1) (nomark _))
        (pw_or1 (PW.pt (pw_and (pt_cmpR op_eq (pe_op op_mul pe_int (pv 4)) (pv 1) (nomark _)) (pw_and1 (pt_cmpR op_eq (pe_op op_odd (pv 3) pe_int) pe_int (nomark _))))))))
      (pss_one (ps_aug (i := 3) scRnd.nd rfl (.inl rfl) pe_int ip_add)) pss_nil)
    (pss_one (ps_ret (pv 3))))), ?_⟩
  have eA : ∃ A' : Nat, A' = A * 2 ^ (-e).toNat ∧ A' < 2 ^ 5000 := ⟨_, rfl, by
    have : (2 : Nat) ^ (-e).toNat ≤ 2 ^ 2000 := Nat.pow_le_pow_right (by omega) (by omega)
    calc A * 2 ^ (-e).toNat ≤ A * 2 ^ 2000 := Nat.mul_le_mul_left _ this
      _ < 2 ^ 3000 * 2 ^ 2000 := Nat.mul_lt_mul_of_pos_right hA1 (Nat.two_pow_pos _)
      _ = 2 ^ 5000 := by rw [← Nat.pow_add]⟩
  have eB : ∃ B' : Nat, B' = B * 2 ^ e.toNat ∧ B' < 2 ^ 5000 ∧ 0 < B' := ⟨_, rfl, by
    have : (2 : Nat) ^ e.toNat ≤ 2 ^ 2000 := Nat.pow_le_pow_right (by omega) (by omega)
    calc B * 2 ^ e.toNat ≤ B * 2 ^ 2000 := Nat.mul_le_mul_left _ this
      _ < 2 ^ 3000 * 2 ^ 2000 := Nat.mul_lt_mul_of_pos_right hB1 (Nat.two_pow_pos _)
      _ = 2 ^ 5000 := by rw [← Nat.pow_add], Nat.mul_pos hB (Nat.two_pow_pos _)⟩
  obtain ⟨A', eA', lA⟩ := eA
  obtain ⟨B', eB', lB, pB⟩ := eB
  rw [← eA', ← eB'] at q
  have iA := bits_lt hA1
  have iB := bits_lt hB1
  refine ⟨fun σ H1 => σ = [some (.int (A' : Int)), some (.int (B' : Int)), some (.int e), none, none] ∧ H1 = H, ?_, ?_⟩
  · refine ⟨_, rfl, _, _, rfl, rfl, _, rfl, ?_⟩
    refine ite2 (fun c => ?_) (fun c => ?_)
    · have c' : 0 < e := by simpa using c
      have zA : A' = A := by
        have : (-e).toNat = 0 := by omega
        rw [eA', this]; omega
      refine ⟨_, rfl, _, rfl, _, _, rfl, rfl, ⟨by omega, by omega⟩, ?_, rfl⟩
      show [some (V.int (A : Int)), some (V.int ((B : Int) * 2 ^ e.toNat)), some (V.int e), none, none] = _
      rw [zA, eB', Int.natCast_mul, Int.natCast_pow]
      rfl
    · have c' : ¬ 0 < e := by simpa using c
      have zB : B' = B := by
        have : e.toNat = 0 := by omega
        rw [eB', this]; omega
      refine ⟨_, rfl, _, rfl, _, rfl, _, _, rfl, rfl, ⟨by omega, by omega⟩, ?_, rfl⟩
      show [some (V.int ((A : Int) * 2 ^ (-e).toNat)), some (V.int (B : Int)), some (V.int e), none, none] = _
      rw [zB, eA', Int.natCast_mul, Int.natCast_pow]
      rfl
  rintro σ H1 ⟨rfl, rfl⟩
  refine ⟨_, rfl, _, rfl, _, _, rfl, ⟨by omega, ?_⟩, fun p hp => ?_⟩
  · exact noPylong lB
  refine ⟨p, _, rfl, SqT.of upd_same, rfl, _, _, rfl, _, _, rfl, rfl, ?_⟩
  have hs : Same H1 (upd H1 p (.tup [.int ((A' : Int) / (B' : Int)), .int ((A' : Int) % (B' : Int))])) := same_new hp
  generalize upd H1 p (.tup [.int ((A' : Int) / (B' : Int)), .int ((A' : Int) % (B' : Int))]) = H2 at hs ⊢
  have q2 := q H2 hs
  have lr : A' % B' < B' := Nat.mod_lt _ pB
  refine ⟨fun σ H3 => ∃ z4, σ = [some (.int (A' : Int)), some (.int (B' : Int)), some (.int e), some (.int ((rnd A' B' : Nat) : Int)), z4] ∧ H3 = H2, ?_, ?_⟩
  · show tIfS _ _ _ _ [some (V.int (A' : Int)), some (V.int (B' : Int)), some (V.int e), some (V.int ((A' / B' : Nat) : Int)), some (V.int ((A' % B' : Nat) : Int))] H2
    have gR : 2 * (A' % B') > B' ∨ (2 * (A' % B') = B' ∧ A' / B' % 2 = 1) → rnd A' B' = A' / B' + 1 := fun c => if_pos c
    have nR : ¬ (2 * (A' % B') > B' ∨ (2 * (A' % B') = B' ∧ A' / B' % 2 = 1)) → rnd A' B' = A' / B' := fun c => if_neg c
    generalize rnd A' B' = R at gR nR ⊢
    generalize A' % B' = r at *
    generalize A' / B' = k at *
    refine ⟨_, rfl, _, _, rfl, rfl, .inl ⟨by decide, by decide⟩, _, rfl, _, _, rfl, rfl, _, rfl, ?_⟩
    have up : R = k + 1 → ∃ z4, [some (V.int (A' : Int)), some (V.int (B' : Int)), some (V.int e), some (V.int ((k : Int) + 1)), some (V.int (r : Int))] = [some (V.int (A' : Int)), some (V.int (B' : Int)), some (V.int e), some (V.int (R : Int)), z4] ∧ H2 = H2 := fun z => ⟨_, by rw [z]; rfl, rfl⟩
    have nup : R = k → ∃ z4, [some (V.int (A' : Int)), some (V.int (B' : Int)), some (V.int e), some (V.int (k : Int)), some (V.int (r : Int))] = [some (V.int (A' : Int)), some (V.int (B' : Int)), some (V.int e), some (V.int (R : Int)), z4] ∧ H2 = H2 := fun z => ⟨_, by rw [z], rfl⟩
    refine ite2 (fun c => ?_) (fun c => ?_)
    · have c' : (2 * (r : Int)) > (B' : Int) := by simpa using c
      refine iteT ?_
      refine ⟨_, rfl, _, _, rfl, rfl, ?_⟩
      exact up (gR (.inl (by omega)))
    · have c' : ¬ (2 * (r : Int)) > (B' : Int) := by simpa using c
      refine ⟨_, rfl, _, _, rfl, rfl, .inl ⟨by decide, by decide⟩, _, rfl, rfl, _, rfl, ?_⟩
      refine ite2 (fun c2 => ?_) (fun c2 => ?_)
      · have c2' : (2 * (r : Int)) = (B' : Int) := by simpa using c2
        refine ⟨_, rfl, _, rfl, rfl, rfl, _, rfl, ?_⟩
        refine ite2 (fun c3 => ?_) (fun c3 => ?_)
        · have c3' : ((k % 2 : Nat) : Int) = 1 := by simpa using c3
          refine ⟨_, rfl, _, _, rfl, rfl, ?_⟩
          exact up (gR (.inr ⟨by omega, by omega⟩))
        · have c3' : ¬ ((k % 2 : Nat) : Int) = 1 := by simpa using c3
          exact nup (nR (fun z => by omega))
      · have c2' : ¬ (2 * (r : Int)) = (B' : Int) := by simpa using c2
        refine iteF ?_
        exact nup (nR (fun z => by omega))
  · rintro σ H3 ⟨z4, rfl, rfl⟩
    exact ⟨_, rfl, q2⟩
end
end KN

namespace KN
/-! ### the Float that is nearest: by natural numbers alone -/
structure FinF (X B M : Nat) (E : Int) (m k n : Nat) : Prop where
  odd : M % 2 = 1
  mul : m = M * 2 ^ k
  lt : m < 9007199254740992
  ee : E = (n : Int) + (k : Int) - 1074
  up : 4503599627370496 ≤ m ∨ n = 0
  top : n ≤ 2045
  und1 : m = 4503599627370496 → 0 < n → 18014398509481983 * (B * 2 ^ n) ≤ X
  und2 : ¬ (m = 4503599627370496 ∧ 0 < n) → 2 * m * (B * 2 ^ (n + 1)) ≤ X + B * 2 ^ (n + 1)
  und3 : m % 2 = 1 → 2 * m * (B * 2 ^ (n + 1)) < X + B * 2 ^ (n + 1)
  ovr : X ≤ (2 * m + 1) * (B * 2 ^ (n + 1))
  ovr1 : m % 2 = 1 → X < (2 * m + 1) * (B * 2 ^ (n + 1))
inductive FloatOk (A B : Nat) : Int → Int → Prop
  | inf (h : 18014398509481983 * 2 ^ 970 * B ≤ A) : FloatOk A B 1 1024
  | zero (h : A * 2 ^ 1075 ≤ B) : FloatOk A B 0 0
  | fin (M : Nat) (E : Int) (m k n : Nat) (h : FinF (A * 2 ^ 1076) B M E m k n) : FloatOk A B (M : Int) E
def Dn (B n : Nat) : Nat := B * 2 ^ (n + 2)
theorem Dn_succ (B n : Nat) : Dn B (n + 1) = Dn B n * 2 := by
  show B * 2 ^ (n + 2 + 1) = B * 2 ^ (n + 2) * 2
  rw [Nat.pow_succ, Nat.mul_assoc]
theorem Dn_pos {B n : Nat} (h : 0 < B) : 0 < Dn B n := Nat.mul_pos h (Nat.two_pow_pos _)
theorem Dn_four (B n : Nat) : Dn B n = 4 * (B * 2 ^ n) := by
  show B * 2 ^ (n + 1 + 1) = _
  rw [Nat.pow_succ, Nat.pow_succ, ← Nat.mul_assoc, ← Nat.mul_assoc]; omega
theorem two_succ (B n : Nat) : B * 2 ^ (n + 1) = 2 * (B * 2 ^ n) := by
  rw [Nat.pow_succ, ← Nat.mul_assoc]; omega
/-- the code's own numbers -/
theorem rnd_at (A B n : Nat) : rnd (A * 2 ^ (-((n : Int) - 1074)).toNat) (B * 2 ^ ((n : Int) - 1074).toNat) = rnd (A * 2 ^ 1076) (Dn B n) := by
  rcases Nat.le_total n 1074 with h | h
  · have e1 : (-((n : Int) - 1074)).toNat = 1074 - n := by omega
    have e2 : ((n : Int) - 1074).toNat = 0 := by omega
    rw [e1, e2, ← rnd_scale (c := 2 ^ (n + 2)) (Nat.two_pow_pos _)]
    have e3 : A * 2 ^ (1074 - n) * 2 ^ (n + 2) = A * 2 ^ 1076 := by
      rw [Nat.mul_assoc, ← Nat.pow_add]
      have : 1074 - n + (n + 2) = 1076 := by omega
      rw [this]
    have e4 : B * 2 ^ 0 * 2 ^ (n + 2) = Dn B n := by rw [Nat.pow_zero, Nat.mul_one]; rfl
    rw [e3, e4]
  · have e1 : (-((n : Int) - 1074)).toNat = 0 := by omega
    have e2 : ((n : Int) - 1074).toNat = n - 1074 := by omega
    rw [e1, e2, ← rnd_scale (c := 2 ^ 1076) (Nat.two_pow_pos _)]
    have e3 : B * 2 ^ (n - 1074) * 2 ^ 1076 = Dn B n := by
      rw [Nat.mul_assoc, ← Nat.pow_add]
      have : n - 1074 + 1076 = n + 2 := by omega
      rw [this]; rfl
    rw [e3, Nat.pow_zero, Nat.mul_one]
theorem Got.to_zero {A B n D0 : Nat} (g : Got (A * 2 ^ 1076) D0 (Dn B n) 0 (n = 0)) : FloatOk A B 0 0 := by
  have z : n = 0 := by
    rcases g.full with h | h
    · exact h
    · omega
  subst z
  have h := g.near.hi
  rw [Dn_four] at h
  refine .zero ?_
  have e : A * 2 ^ 1076 = 2 * (A * 2 ^ 1075) := two_succ A 1075
  rw [e] at h
  have : B * 2 ^ 0 = B := by rw [Nat.pow_zero, Nat.mul_one]
  rw [this] at h
  omega
theorem Got.fin {X B n m M k D0 : Nat} {E : Int} (g : Got X D0 (Dn B n) m (n = 0)) (ho : M % 2 = 1) (hm : m = M * 2 ^ k) (hE : E = (n : Int) + (k : Int) - 1074) (hs : m < 2 ^ (2098 - n)) (hn : n ≤ 2098) : ∃ m k n, FinF X B M E m k n := by
  have top : 4503599627370496 ≤ m → n ≤ 2045 := fun h => by
    rcases Nat.lt_or_ge 2045 n with c | c
    · have : (2 : Nat) ^ (2098 - n) ≤ 2 ^ 52 := Nat.pow_le_pow_right (by omega) (by omega)
      have e : (2 : Nat) ^ 52 = 4503599627370496 := by decide
      omega
    · exact c
  have gl := g.low
  have nh := g.near.hi
  have nl := g.near.lo
  have nh1 := g.near.hi1
  have nl1 := g.near.lo1
  have gt := g.top
  have gf := g.full
  have gle := g.le
  rw [Dn_four] at gl nh nl nh1 nl1 gt
  rcases Nat.lt_or_ge m 9007199254740992 with c | c
  · refine ⟨m, k, n, ho, hm, c, hE, gf.symm, ?_, ?_, ?_, ?_, ?_, ?_⟩
    · rcases gf with z | z
      · omega
      · exact top z
    · intro e n0
      have := gl (by omega)
      omega
    all_goals rw [two_succ]
    all_goals generalize B * 2 ^ n = U at *
    all_goals have e1 : 2 * m * (4 * U) = 8 * (m * U) := by rw [Nat.mul_assoc 2 m, Nat.mul_left_comm m 4 U]; omega
    all_goals have e2 : (2 * m + 1) * (4 * U) = 8 * (m * U) + 4 * U := by rw [Nat.add_mul, e1]; omega
    all_goals have e3 : 2 * m * (2 * U) = 4 * (m * U) := by rw [Nat.mul_assoc 2 m, Nat.mul_left_comm m 2 U]; omega
    all_goals have e4 : (2 * m + 1) * (2 * U) = 4 * (m * U) + 2 * U := by rw [Nat.add_mul, e3]; omega
    all_goals rw [e1] at nl nl1
    all_goals rw [e2] at nh nh1
    all_goals first | rw [e3] | rw [e4]
    · intro _; omega
    · intro o
      have := nl1 o
      omega
    · omega
    · intro o
      have := nh1 o
      omega
  · have z : m = 9007199254740992 := by omega
    have e53 : (9007199254740992 : Nat) = 2 ^ 53 := by decide
    have n0 : n < 2045 := by
      rcases Nat.lt_or_ge n 2045 with c | c
      · exact c
      · have : (2 : Nat) ^ (2098 - n) ≤ 2 ^ 53 := Nat.pow_le_pow_right (by omega) (by omega)
        omega
    -- m = 2 ^ 53: the odd part is 1
    have k53 : k = 53 ∧ M = 1 := by
      have M0 : 1 ≤ M := by omega
      have h1 : 2 ^ k ≤ M * 2 ^ k := Nat.le_mul_of_pos_left _ M0
      rw [← hm, z, e53] at h1
      have kl : k ≤ 53 := (Nat.pow_le_pow_iff_right (by decide)).mp h1
      have h2 : M * 2 ^ k = 2 ^ (53 - k) * 2 ^ k := by
        rw [← hm, z, e53, ← Nat.pow_add]
        congr 1
        omega
      have h3 : M = 2 ^ (53 - k) := Nat.eq_of_mul_eq_mul_right (Nat.two_pow_pos k) h2
      rcases Nat.lt_or_ge k 53 with c3 | c3
      · have h4 : (2 : Nat) ^ (53 - k) = 2 * 2 ^ (53 - k - 1) := by
          have : 53 - k = 53 - k - 1 + 1 := by omega
          rw [this, Nat.pow_succ, Nat.mul_comm]
          rfl
        omega
      · have : k = 53 := by omega
        subst this
        exact ⟨rfl, by rw [h3]⟩
    obtain ⟨rfl, rfl⟩ := k53
    refine ⟨4503599627370496, 52, n + 1, rfl, by decide, by decide, by omega, .inl (by decide), by omega, ?_, ?_, fun o => absurd o (by decide), ?_, fun o => absurd o (by decide)⟩
    · intro _ _
      rw [two_succ]
      generalize B * 2 ^ n = U at *
      subst z
      omega
    · intro q
      exact absurd ⟨rfl, by omega⟩ q
    · rw [two_succ, two_succ]
      generalize B * 2 ^ n = U at *
      omega
end KN

namespace KN
open PySem PySem.Spec PyProof.Rows L2
theorem Got.inf' {X B n m M k D0 : Nat} (g : Got X D0 (Dn B n) m (n = 0)) (hm : m = M * 2 ^ k) (hM : 0 < M) (c : 2098 < Builtin.Int.intBits (M : Int) + n + k) : 18014398509481983 * (B * 2 ^ 2046) ≤ X := by
  have hk : k ≤ 53 := by
    have h1 : 2 ^ k ≤ M * 2 ^ k := Nat.le_mul_of_pos_left _ hM
    have h2 := g.le
    have e53 : (9007199254740992 : Nat) = 2 ^ 53 := by decide
    rw [← hm] at h1
    rw [e53] at h2
    exact (Nat.pow_le_pow_iff_right (by decide)).mp (Nat.le_trans h1 h2)
  have hn : 2046 ≤ n ∨ (n = 2045 ∧ m = 9007199254740992) := by
    have e53 : (9007199254740992 : Nat) = 2 ^ 53 := by decide
    rcases Nat.lt_or_ge 2045 n with z | z
    · exact .inl z
    · have h1 : 2 ^ (2098 - n - k) ≤ M := by
        rcases Nat.lt_or_ge M (2 ^ (2098 - n - k)) with y | y
        · have := bits_lt y
          omega
        · exact y
      have h2 : 2 ^ (2098 - n) ≤ m := by
        have e : 2098 - n = 2098 - n - k + k := by omega
        rw [e, Nat.pow_add, hm]
        exact Nat.mul_le_mul_right _ h1
      have h3 := g.le
      rw [e53] at h3
      have h4 : 2098 - n ≤ 53 := (Nat.pow_le_pow_iff_right (by decide)).mp (Nat.le_trans h2 h3)
      refine .inr ⟨by omega, ?_⟩
      have h5 : n = 2045 := by omega
      subst h5
      rw [e53]
      have : (2 : Nat) ^ (2098 - 2045) = 2 ^ 53 := by decide
      rw [this] at h2
      exact Nat.le_antisymm h3 h2
  have gl := g.low
  have nl := g.near.lo
  rw [Dn_four] at gl nl
  rcases hn with h | ⟨en, em⟩
  · have l : B * 2 ^ 2046 ≤ B * 2 ^ n := Nat.mul_le_mul_left _ (Nat.pow_le_pow_right (by decide) h)
    have g2 := gl (by omega)
    generalize B * 2 ^ n = U at l g2
    generalize B * 2 ^ 2046 = V at l ⊢
    omega
  · have l : B * 2 ^ 2046 = 2 * (B * 2 ^ n) := by rw [en]; exact two_succ B 2045
    rw [em] at nl
    generalize B * 2 ^ n = U at l nl
    generalize B * 2 ^ 2046 = V at l ⊢
    omega
theorem Got.inf {A B n m M k D0 : Nat} (g : Got (A * 2 ^ 1076) D0 (Dn B n) m (n = 0)) (hm : m = M * 2 ^ k) (hM : 0 < M) (c : 2098 < Builtin.Int.intBits (M : Int) + n + k) : 18014398509481983 * 2 ^ 970 * B ≤ A := by
  have key := g.inf' hm hM c
  have e1 : 18014398509481983 * (B * 2 ^ 2046) = 18014398509481983 * 2 ^ 970 * B * 2 ^ 1076 := by
    have e0 : (2 : Nat) ^ 2046 = 2 ^ 970 * 2 ^ 1076 := Nat.pow_add 2 970 1076
    rw [e0]
    generalize (2 : Nat) ^ 970 = p
    generalize (2 : Nat) ^ 1076 = q
    rw [← Nat.mul_assoc B p q, ← Nat.mul_assoc, Nat.mul_comm B p, ← Nat.mul_assoc]
  rw [e1] at key
  exact Nat.le_of_mul_le_mul_right key (Nat.two_pow_pos 1076)
theorem got_start {A B a b : Nat} (ha : Builtin.Int.intBits (A : Int) = a) (hb : Builtin.Int.intBits (B : Int) = b) (hA : 0 < A) (hB : 0 < B) :
    (a + 1021 - b = 0 ∨ 4503599627370496 * Dn B (a + 1021 - b) ≤ A * 2 ^ 1076) ∧ A * 2 ^ 1076 < 18014398509481984 * Dn B (a + 1021 - b) := by
  have a1 : A < 2 ^ a := bits_le (Nat.le_of_eq ha)
  have b1 : B < 2 ^ b := bits_le (Nat.le_of_eq hb)
  have pos : ∀ {n c : Nat}, Builtin.Int.intBits (n : Int) = c → 0 < n → ∃ d, c = d + 1 ∧ 2 ^ d ≤ n := by
    intro n c h h0
    have : 0 < c := by
      rcases Nat.eq_zero_or_pos c with z | z
      · subst z
        have := bits_le (Nat.le_of_eq h)
        omega
      · exact z
    obtain ⟨d, rfl⟩ : ∃ d, c = d + 1 := ⟨c - 1, by omega⟩
    exact ⟨d, rfl, bits_low h⟩
  obtain ⟨a', rfl, a2⟩ := pos ha hA
  obtain ⟨b', rfl, b2⟩ := pos hb hB
  have e52 : (4503599627370496 : Nat) = 2 ^ 52 := by decide
  have e54 : (18014398509481984 : Nat) = 2 ^ 54 := by decide
  refine ⟨?_, ?_⟩
  · rcases Nat.eq_zero_or_pos (a' + 1 + 1021 - (b' + 1)) with z | z
    · exact .inl z
    · refine .inr ?_
      show 4503599627370496 * (B * 2 ^ (a' + 1 + 1021 - (b' + 1) + 2)) ≤ _
      have h1 : B * 2 ^ (a' + 1 + 1021 - (b' + 1) + 2) ≤ 2 ^ (b' + 1) * 2 ^ (a' + 1 + 1021 - (b' + 1) + 2) := Nat.mul_le_mul_right _ (Nat.le_of_lt b1)
      have h2 : (2 : Nat) ^ (b' + 1) * 2 ^ (a' + 1 + 1021 - (b' + 1) + 2) = 2 ^ (a' + 1024) := by
        rw [← Nat.pow_add]; congr 1; omega
      have h3 : 4503599627370496 * (B * 2 ^ (a' + 1 + 1021 - (b' + 1) + 2)) ≤ 4503599627370496 * 2 ^ (a' + 1024) := Nat.mul_le_mul_left _ (by rw [← h2]; exact h1)
      have h4 : 4503599627370496 * 2 ^ (a' + 1024) = 2 ^ a' * 2 ^ 1076 := by
        rw [e52, ← Nat.pow_add, ← Nat.pow_add]; congr 1; omega
      exact Nat.le_trans h3 (by rw [h4]; exact Nat.mul_le_mul_right _ a2)
  · show _ < 18014398509481984 * (B * 2 ^ (a' + 1 + 1021 - (b' + 1) + 2))
    have h1 : A * 2 ^ 1076 < 2 ^ (a' + 1) * 2 ^ 1076 := Nat.mul_lt_mul_of_pos_right a1 (Nat.two_pow_pos _)
    have h2 : 2 ^ b' * 2 ^ (a' + 1 + 1021 - (b' + 1) + 2) ≤ B * 2 ^ (a' + 1 + 1021 - (b' + 1) + 2) := Nat.mul_le_mul_right _ b2
    have h3 : (2 : Nat) ^ (a' + 1) * 2 ^ 1076 ≤ 18014398509481984 * (2 ^ b' * 2 ^ (a' + 1 + 1021 - (b' + 1) + 2)) := by
      rw [e54, ← Nat.pow_add, ← Nat.pow_add, ← Nat.pow_add]
      exact Nat.pow_le_pow_right (by decide) (by omega)
    exact Nat.lt_of_lt_of_le h1 (Nat.le_trans h3 (Nat.mul_le_mul_left _ h2))
end KN

namespace KN
open PySem PySem.Spec PyProof.Rows L2
abbrev sFin : Stmt := inClass (topS 6) 0
theorem scFin : FnScope ["self", "mantissa", "exponent"] ["self", "mantissa", "exponent"] (defScope sFin) := ⟨rfl, rfl, rfl, by decide +kernel, rfl, by decide +kernel, by decide +kernel⟩
/-- the fields of a Float -/
def fl (m e : V) : List (Str × V) := putF "exponent" e (putF "mantissa" m [])
theorem fl_m (m e : V) : (fl m e).lookup ("mantissa" : Str) = some m := rfl
theorem fl_e (m e : V) : (fl m e).lookup ("exponent" : Str) = some e := rfl
def spFin (C : Addr) : Sp := fun vs H Q _ => ∃ (p dx : Addr) (m e : V), vs = [.ref p, m, e] ∧ H p = some (.ins C dx []) ∧ ∀ H', H' p = some (.ins C dx (fl m e)) → (∀ b, b ≠ p → H' b = H b) → Q .non H'
/-- an object of the class Float -/
def FltAt (C : Addr) (H : Hp) (x : Addr) (m e : Int) : Prop := ∃ dx, H x = some (.ins C dx (fl (.int m) (.int e)))
/-- what Float's making hangs on -/
structure FltC (P : Program) (w : World) (K : PySem.W.Frag) (mg : Str → Option Value) (base : Heap) (C fI : Addr) (fdI : FuncData) : Prop where
  g : mg "Float" = some (.ref C)
  mkr : Mk K C fI
  f : FnOk P w K mg base CX0 1 fI fdI ["self", "mantissa", "exponent"] (spFin C)
  b : Binds K fdI ["self", "mantissa", "exponent"] []
section
variable {P : Program} {w : World} {K : PySem.W.Frag} {mg : Str → Option Value} {base : Heap}
theorem ok_fin {C f : Addr} {fd : FuncData} (F : Fun K "__init__" "Float.__init__" sFin f fd) (c : Cls K C) (n1 : NoAttr K C "mantissa") (n2 : NoAttr K C "exponent") : FnOk P w K mg base CX0 1 f fd ["self", "mantissa", "exponent"] (spFin C) := by
  refine F.ok scFin (fun vs H Q E h => ?_) (fun cdv A outer s H vs Q E hr h => ?_)
  · obtain ⟨p, dx, m, e, rfl, _⟩ := h
    rfl
  obtain ⟨p, dx, m, e, rfl, hp, q⟩ := h
  refine ⟨_, pss_cons (ps_fld (pv 0) (pv 1) rfl) (pss_one (ps_fld (pv 0) (pv 2) rfl)), ?_⟩
  refine ⟨_, rfl, _, rfl, p, C, dx, _, rfl, hp, c, n1, by show 0 < 1000; decide, ?_⟩
  refine ⟨_, rfl, _, rfl, p, C, dx, _, rfl, upd_same, c, n2, by show 1 < 1000; decide, ?_⟩
  exact q _ upd_same fun b h => by rw [upd_ne h, upd_ne h]
/-- the reading of Float(m, e) -/
theorem made_flt {C : Addr} {H : Hp} {m e : V} {E : XK} {Q : VK} (q : ∀ (H' : Hp) (x : Addr), Same H H' → H x = none → (∃ dx, H' x = some (.ins C dx (fl m e))) → Q (.ref x) H') :
    ∀ (x dx : Addr), H x = none → H dx = none → dx ≠ x → spFin C (V.ref x :: ([m, e] ++ [])) (upd (upd H dx (.own x)) x (.ins C dx [])) (fun v H2 => v = V.non ∧ Q (V.ref x) H2) E := by
  intro x dx hx hdx ne
  refine ⟨x, dx, m, e, rfl, upd_same, fun H' h1 h2 => ⟨rfl, q H' x ?_ hx ⟨dx, h1⟩⟩⟩
  intro b o hb
  have b1 : b ≠ x := ne_of_none hb hx
  have b2 : b ≠ dx := ne_of_none hb hdx
  rw [h2 b b1, upd_ne b1, upd_ne b2]
  exact hb
def spNear (C : Addr) : Sp := fun vs H Q _ => ∃ (A B : Nat), vs = [.int (A : Int), .int (B : Int)] ∧ 0 < A ∧ 0 < B ∧ A < 2 ^ 1800 ∧ B < 2 ^ 1800 ∧
  ∀ (H' : Hp) (x : Addr) (M E : Int), FloatOk A B M E → Same H H' → FltAt C H' x M E → Q (.ref x) H'
structure Nums (mg : Str → Option Value) : Prop where
  mb : ∃ t, mg "MANTISSA_BITS" = some (.int 53 t)
  le : ∃ t, mg "LEAST_EXPONENT" = some (.int (-1074) t)
  ie : ∃ t, mg "INFINITE_EXPONENT" = some (.int 1024 t)
  mp : ∃ t, mg "MOST_PLACES" = some (.int 330 t)
theorem ok_near {C fI f g : Addr} {fdI fd gd : FuncData} (F : Fun K "_nearest" "_nearest" sNear f fd) (Z : FltC P w K mg base C fI fdI) (N : Nums mg)
    (R : FnOk P w K mg base CX0 1 g gd ["above", "below", "exponent"] spRnd) (bR : Binds K gd ["above", "below", "exponent"] []) (kR : PySem.W.keepIn K (.ref g) = true) (mR : mg "_rounded" = some (.ref g)) (mm : mg "max" = none) :
    FnOk P w K mg base CX0 3 f fd ["above", "below"] (spNear C) := by
  refine F.ok scNear (fun vs H Q E h => ?_) (fun cdv A outer s H vs Q E hr h => ?_)
  · obtain ⟨A, B, rfl, _⟩ := h
    rfl
  obtain ⟨A, B, rfl, hA, hB, sA, sB, q⟩ := h
  obtain ⟨t1, mb⟩ := N.mb
  obtain ⟨t2, le⟩ := N.le
  obtain ⟨t3, ie⟩ := N.ie
  have hr1 := hr.mono (show 1 ≤ 2 by decide)
  refine ⟨_, pss_cons (ps_set (i := 2) scNear.nd rfl (.inl rfl) (pe_callB (call_max2 rfl) (by rfl) mm (by decide +kernel) (pa_cons (pe_op op_sub (pe_op op_sub (pe_bits (pv 0)) (pe_bits (pv 1))) (pe_glob (v := .int 53) rfl mb ⟨t1, rfl⟩)) (pa_cons (pe_glob (v := .int (-1074)) rfl le ⟨t2, rfl⟩) pa_nil))))
    (pss_cons (ps_set (i := 3) scNear.nd rfl (.inl rfl) (pe_call R hr1 rfl mR kR bR .nil pass0 (pa_cons (pv 0) (pa_cons (pv 1) (pa_cons (pv 2) pa_nil)))))
    (C8.pss_cut (ps_if (pt_cmpR op_gt (pe_bits (pv 3)) (pe_glob (v := .int 53) rfl mb ⟨t1, rfl⟩) (nomark _))
      (pss_cons (ps_aug (i := 2) scNear.nd rfl (.inl rfl) pe_int ip_add)
      (pss_one (ps_set (i := 3) scNear.nd rfl (.inl rfl) (pe_call R hr1 rfl mR kR bR .nil pass0 (pa_cons (pv 0) (pa_cons (pv 1) (pa_cons (pv 2) pa_nil))))))) pss_nil)
    (pss_cons (ps_if (pt_cmpR op_eq (pv 3) pe_int (nomark _)) (pss_one (ps_ret (pe_make Z.mkr Z.f hr rfl Z.g Z.b .nil pass0 (pa_cons pe_int (pa_cons pe_int pa_nil))))) pss_nil)
    (C8.pss_cut (ps_while PassesOwn.never (pt_cmpR op_eq (pe_op op_odd (pv 3) pe_int) pe_int (nomark _))
      (pss_cons (ps_aug (i := 3) scNear.nd rfl (.inl rfl) pe_int iop_halfI)
      (pss_one (ps_aug (i := 2) scNear.nd rfl (.inl rfl) pe_int ip_add))))
    (pss_cons (ps_if (pt_cmpR op_gt (pe_op op_add (pe_bits (pv 3)) (pv 2)) (pe_glob (v := .int 1024) rfl ie ⟨t3, rfl⟩) (nomark _))
      (pss_one (ps_ret (pe_make Z.mkr Z.f hr rfl Z.g Z.b .nil pass0 (pa_cons pe_int (pa_cons (pe_glob (v := .int 1024) rfl ie ⟨t3, rfl⟩) pa_nil))))) pss_nil)
    (pss_one (ps_ret (pe_make Z.mkr Z.f hr rfl Z.g Z.b .nil pass0 (pa_cons (pv 3) (pa_cons (pv 2) pa_nil)))))))))), ?_⟩
  refine ⟨_, rfl, _, rfl, _, rfl, _, rfl, _, _, rfl, rfl, _, _, rfl, rfl, _, _, rfl, ?_⟩
  generalize ha : Builtin.Int.intBits (A : Int) = a
  generalize hb : Builtin.Int.intBits (B : Int) = b
  obtain ⟨gs, gh⟩ := got_start ha hb hA hB
  have la : a ≤ 1800 := by rw [← ha]; exact bits_lt sA
  have lb : b ≤ 1800 := by rw [← hb]; exact bits_lt sB
  obtain ⟨n0, hn0⟩ : ∃ n0, n0 = a + 1021 - b := ⟨_, rfl⟩
  rw [← hn0] at gs gh
  have e0 : (if (-1074 : Int) > (a : Int) - (b : Int) - 53 then (-1074 : Int) else (a : Int) - (b : Int) - 53) = (n0 : Int) - 1074 := by
    split <;> omega
  rw [e0]
  have n0l : n0 ≤ 2821 := by omega
  have A3 : A < 2 ^ 3000 := Nat.lt_of_lt_of_le sA (Nat.pow_le_pow_right (by decide) (by decide))
  have B3 : B < 2 ^ 3000 := Nat.lt_of_lt_of_le sB (Nat.pow_le_pow_right (by decide) (by decide))
  refine ⟨_, rfl, _, rfl, _, rfl, A, B, _, rfl, hB, A3, B3, by omega, by omega, fun H1 s1 => ?_⟩
  rw [rnd_at]
  refine ⟨fun σ H2 => ∃ (n m D0 : Nat), σ = [some (.int (A : Int)), some (.int (B : Int)), some (.int ((n : Int) - 1074)), some (.int (m : Int))] ∧ Same H H2 ∧ Got (A * 2 ^ 1076) D0 (Dn B n) m (n = 0) ∧ n ≤ 2822, ?_, ?_⟩
  · refine ⟨_, rfl, _, rfl, _, _, rfl, rfl, _, rfl, ?_⟩
    refine ite2 (fun c => ?_) (fun c => ?_)
    · have c' : (53 : Int) < ((Builtin.Int.intBits ((rnd (A * 2 ^ 1076) (Dn B n0) : Nat) : Int) : Nat) : Int) := by simpa using c
      have cg : 9007199254740992 ≤ rnd (A * 2 ^ 1076) (Dn B n0) := by
        rcases Nat.lt_or_ge (rnd (A * 2 ^ 1076) (Dn B n0)) 9007199254740992 with z | z
        · have e53 : (9007199254740992 : Nat) = 2 ^ 53 := by decide
          rw [e53] at z
          have := bits_lt z
          omega
        · exact z
      have e1 : ((n0 : Int) - 1074 + 1) = ((n0 + 1 : Nat) : Int) - 1074 := by omega
      refine ⟨_, rfl, _, _, rfl, rfl, ?_⟩
      refine ⟨_, rfl, _, rfl, _, rfl, A, B, _, rfl, hB, A3, B3, (by show (-2000 : Int) ≤ (n0 : Int) - 1074 + 1; omega), (by show (n0 : Int) - 1074 + 1 ≤ 2000; omega), fun H3 s3 => ⟨n0 + 1, rnd (A * 2 ^ 1076) (Dn B (n0 + 1)), Dn B n0, ?_, s1.trans s3, ?_, by omega⟩⟩
      · show [some (V.int (A : Int)), some (V.int (B : Int)), some (V.int ((n0 : Int) - 1074 + 1)), some (V.int ((rnd (A * 2 ^ (-((n0 : Int) - 1074 + 1)).toNat) (B * 2 ^ ((n0 : Int) - 1074 + 1).toNat) : Nat) : Int))] = _
        rw [e1, rnd_at]
      · rw [Dn_succ]
        exact got_second (Dn_pos hB) gh cg
    · have c' : ¬ (53 : Int) < ((Builtin.Int.intBits ((rnd (A * 2 ^ 1076) (Dn B n0) : Nat) : Int) : Nat) : Int) := by simpa using c
      have cl : rnd (A * 2 ^ 1076) (Dn B n0) < 9007199254740992 := bits_le (k := 53) (by omega)
      exact ⟨n0, _, Dn B n0, rfl, s1, got_first (Dn_pos hB) gs cl, by omega⟩
  rintro σ H2 ⟨n, m, D0, rfl, s2, gt, nl⟩
  refine ⟨_, rfl, rfl, _, rfl, ?_⟩
  refine ite2 (fun c => ?_) (fun c => ?_)
  · have c' : m = 0 := by
      have : (m : Int) = 0 := by simpa using c
      omega
    subst c'
    exact made_flt fun H' x s3 _ hx => q H' x 0 0 gt.to_zero (s2.trans s3) hx
  have m0 : 0 < m := by
    have : ¬ (m : Int) = 0 := by simpa using c
    omega
  refine ⟨fun σ H3 => ∃ (k M : Nat), σ = [some (.int (A : Int)), some (.int (B : Int)), some (.int ((n : Int) + (k : Int) - 1074)), some (.int (M : Int))] ∧ H3 = H2 ∧ m = M * 2 ^ k ∧ M % 2 = 1, ?_, ?_⟩
  · refine ⟨fun u σ H3 => ∃ (k M : Nat), σ = [some (.int (A : Int)), some (.int (B : Int)), some (.int ((n : Int) + (k : Int) - 1074)), some (.int (M : Int))] ∧ H3 = H2 ∧ m = M * 2 ^ k ∧ 0 < M ∧ u = M, ⟨m, 0, m, ?_, rfl, ?_, m0, rfl⟩, ?_⟩
    · show _ = [some (V.int (A : Int)), some (V.int (B : Int)), some (V.int ((n : Int) + 0 - 1074)), some (V.int (m : Int))]
      rw [Int.add_zero]
    · rw [Nat.pow_zero, Nat.mul_one]
    rintro u σ H3 ⟨k, M, rfl, rfl, hm, hM, rfl⟩
    refine ⟨_, rfl, _, rfl, rfl, rfl, _, rfl, ?_⟩
    refine ite2 (fun c2 => ?_) (fun c2 => ?_)
    · have c2' : ((u % 2 : Nat) : Int) = 0 := by simpa using c2
      refine ⟨fun σ' H' => ∃ (k M : Nat), σ' = [some (.int (A : Int)), some (.int (B : Int)), some (.int ((n : Int) + (k : Int) - 1074)), some (.int (M : Int))] ∧ H' = H3 ∧ m = M * 2 ^ k ∧ 0 < M ∧ M < u, fun σ' H' ⟨k1, M1, x1, x2, x3, x4, x5⟩ => ⟨M1, x5, k1, M1, x1, x2, x3, x4, rfl⟩, ?_⟩
      refine ⟨_, rfl, _, rfl, rfl, _, rfl, _, _, rfl, rfl, k + 1, u / 2, ?_, rfl, ?_, by omega, by omega⟩
      · show [some (V.int (A : Int)), some (V.int (B : Int)), some (V.int ((n : Int) + (k : Int) - 1074 + 1)), some (V.int ((u : Int) / 2))] = _
        have e1 : (n : Int) + (k : Int) - 1074 + 1 = (n : Int) + ((k + 1 : Nat) : Int) - 1074 := by omega
        rw [e1]
        rfl
      · rw [hm, Nat.pow_succ, Nat.mul_comm (2 ^ k) 2, ← Nat.mul_assoc]
        congr 1
        omega
    · have c2' : ¬ ((u % 2 : Nat) : Int) = 0 := by simpa using c2
      exact ⟨k, u, rfl, rfl, hm, by omega⟩
  rintro σ H3 ⟨k, M, rfl, rfl, hm, ho⟩
  refine ⟨_, rfl, _, rfl, _, rfl, _, _, rfl, rfl, _, _, rfl, rfl, _, rfl, ?_⟩
  refine ite2 (fun c => ?_) (fun c => ?_)
  · have c' : (1024 : Int) < (Builtin.Int.intBits (M : Int) : Nat) + ((n : Int) + (k : Int) - 1074) := by simpa using c
    exact made_flt fun H' x s3 _ hx => q H' x 1 1024 (.inf (gt.inf hm (by omega) (by omega))) (s2.trans s3) hx
  · have c' : ¬ (1024 : Int) < (Builtin.Int.intBits (M : Int) : Nat) + ((n : Int) + (k : Int) - 1074) := by simpa using c
    have hs : m < 2 ^ (2098 - n) := by
      have h1 : M < 2 ^ (2098 - n - k) := bits_le (by omega)
      have e : 2098 - n = 2098 - n - k + k := by omega
      rw [e, Nat.pow_add, hm]
      exact Nat.mul_lt_mul_of_pos_right h1 (Nat.two_pow_pos k)
    obtain ⟨m', k', n', hF⟩ := gt.fin ho hm rfl hs (by omega)
    refine ⟨_, rfl, _, rfl, ?_⟩
    exact made_flt fun H' x s3 _ hx => q H' x (M : Int) _ (.fin M _ m' k' n' hF) (s2.trans s3) hx
end
end KN

namespace KN
open PySem PySem.Spec PyProof.Rows L2
abbrev sIsN : Stmt := topS 25
abbrev sLTen : Stmt := topS 26
abbrev sTms : Stmt := topS 27
abbrev sBsd : Stmt := topS 28
theorem scLTen : FnScope ["_law_power", "_law_found", "_law_factor"] ["_law_power"] (defScope sLTen) := ⟨rfl, rfl, rfl, by decide +kernel, rfl, by decide +kernel, by decide +kernel⟩
theorem scTms : FnScope ["_law_number_here", "_law_power"] ["_law_number_here", "_law_power"] (defScope sTms) := ⟨rfl, rfl, rfl, by decide +kernel, rfl, by decide +kernel, by decide +kernel⟩
theorem scBsd : FnScope ["_law_number_here", "_law_power", "_law_mantissa", "_law_exponent", "_law_above", "_law_below", "_law_one", "_law_two"] ["_law_number_here", "_law_power", "_law_mantissa", "_law_exponent"] (defScope sBsd) := ⟨rfl, rfl, rfl, by decide +kernel, rfl, by decide +kernel, by decide +kernel⟩
def spLTen : Sp := fun vs H Q _ => ∃ p : Nat, vs = [.int (p : Int)] ∧ p ≤ 2000 ∧ ∀ H', Same H H' → Q (.int ((10 ^ p : Nat) : Int)) H'
def numA (N : Nat) (p : Int) : Nat := N * 10 ^ p.toNat
def numB (p : Int) : Nat := 10 ^ (-p).toNat
def spTms : Sp := fun vs H Q _ => ∃ (N : Nat) (p : Int), vs = [.int (N : Int), .int p] ∧ N < 2 ^ 1000 ∧ -1000 ≤ p ∧ p ≤ 1000 ∧
  ∀ H' t, Same H H' → H' t = some (.tup [.int ((numA N p : Nat) : Int), .int ((numB p : Nat) : Int)]) → Q (.ref t) H'
def sgn (X Y : Nat) : Int := if Y < X then 1 else if X < Y then -1 else 0
def spBsd : Sp := fun vs H Q _ => ∃ (N M f : Nat) (p e : Int), vs = [.int (N : Int), .int p, .int (M : Int), .int e] ∧ N < 2 ^ 1000 ∧ -1000 ≤ p ∧ p ≤ 1000 ∧ M < 2 ^ 64 ∧ e = (f : Int) - 1076 ∧ f ≤ 3000 ∧
  ∀ H', Same H H' → Q (.int (sgn (numA N p * 2 ^ 1076) (M * (numB p * 2 ^ f)))) H'
theorem ten_bits {n k : Nat} (h : 4 * n + 1 ≤ k) : Builtin.Int.intBits ((10 ^ n : Nat) : Int) ≤ k := Nat.le_trans (bits_lt (ten_lt n)) h
section
variable {P : Program} {w : World} {K : PySem.W.Frag} {mg : Str → Option Value} {base : Heap}
theorem ok_lten {f : Addr} {fd : FuncData} (F : Fun K "_law_ten" "_law_ten" sLTen f fd) (mi : mg "int" = none) : FnOk P w K mg base CX0 1 f fd ["_law_power"] spLTen := by
  refine F.ok scLTen (fun vs H Q E h => ?_) (fun cdv A outer s H vs Q E hr h => ?_)
  · obtain ⟨p, rfl, _⟩ := h
    rfl
  obtain ⟨p, rfl, p1, q⟩ := h
  refine ⟨_, pss_cons (ps_asg (pe_tup (pa_cons pe_int (pa_cons pe_int pa_nil))) (pg_tup (by rfl) (pgs_cons (pg_name (i := 1) scLTen.nd rfl (.inl rfl)) (pgs_cons (pg_name (i := 2) scLTen.nd rfl (.inl rfl)) pgs_nil))))
    (C8.pss_cut (ps_while PassesOwn.never (pt_cmpR op_gt (pv 0) pe_int (nomark _))
      (C8.pss_cut (ps_if (pt_cmpR op_eq (pe_op op_mod (pe_callTy call_int1 (by rfl) mi (by decide +kernel) (pa_cons (pv 0) pa_nil)) pe_int) pe_int (nomark _))
        (pss_one (ps_set (i := 1) scLTen.nd rfl (.inl rfl) (pe_op op_mulX (pv 1) (pv 2)))) pss_nil)
      (pss_one (ps_par (by rfl) scLTen.nd (i := 2) (j := 0) rfl rfl (by decide) rfl rfl (pa_cons (pe_op op_mulX (pv 2) (pv 2)) (pa_cons (pe_op op_fdivN (pv 0) pe_int) pa_nil)) (by rfl)))))
    (pss_one (ps_ret (pv 1)))), ?_⟩
  refine ⟨by decide, fun tp htp => ?_⟩
  refine ⟨tp, _, rfl, SqT.of upd_same, rfl, _, _, rfl, _, _, rfl, rfl, ?_⟩
  have q := q _ (same_new (o := .tup [.int 1, .int 10]) htp)
  generalize upd H tp (.tup [.int 1, .int 10]) = H0 at q ⊢
  refine ⟨fun σ H1 => ∃ z1 z2, σ = [z1, some (.int ((10 ^ p : Nat) : Int)), z2] ∧ H1 = H0, ?_, ?_⟩
  · refine ⟨fun u σ H1 => ∃ (a t : Nat), σ = [some (.int (u : Int)), some (.int ((10 ^ a : Nat) : Int)), some (.int ((10 ^ t : Nat) : Int))] ∧ a + t * u = p ∧ t ≤ 4000 ∧ H1 = H0, ⟨p, 0, 1, rfl, by omega, by omega, rfl⟩, ?_⟩
    rintro u σ H1 ⟨a, t, rfl, e, tl, rfl⟩
    refine ⟨_, rfl, _, _, rfl, rfl, _, rfl, ?_⟩
    refine ite2 (fun c => ?_) (fun c => ?_)
    · have c' : 0 < u := by
        have : (0 : Int) < (u : Int) := by simpa using c
        omega
      have tp : t ≤ p := by
        have : t * 1 ≤ t * u := Nat.mul_le_mul_left _ c'
        omega
      have et : t * u = 2 * t * (u / 2) + t * (u % 2) := by
        have h := Nat.div_add_mod u 2
        calc t * u = t * (2 * (u / 2) + u % 2) := by rw [h]
          _ = _ := by rw [Nat.mul_add, ← Nat.mul_assoc, Nat.mul_comm t 2]
      have bt : Builtin.Int.intBits ((10 ^ t : Nat) : Int) ≤ 20000 := ten_bits (by omega)
      have ba : Builtin.Int.intBits ((10 ^ a : Nat) : Int) ≤ 20000 := ten_bits (by omega)
      refine ⟨fun σ' H' => ∃ (a t u' : Nat), σ' = [some (.int (u' : Int)), some (.int ((10 ^ a : Nat) : Int)), some (.int ((10 ^ t : Nat) : Int))] ∧ a + t * u' = p ∧ t ≤ 4000 ∧ H' = H1 ∧ u' < u, fun σ' H' ⟨a1, t1, u1, x1, x2, x3, x4, x5⟩ => ⟨u1, x5, a1, t1, x1, x2, x3, x4⟩, ?_⟩
      refine ⟨fun σ' H' => ∃ a' : Nat, σ' = [some (.int (u : Int)), some (.int ((10 ^ a' : Nat) : Int)), some (.int ((10 ^ t : Nat) : Int))] ∧ a' + 2 * t * (u / 2) = p ∧ H' = H1, ?_, ?_⟩
      · refine ⟨_, rfl, .inl ⟨_, rfl, _, _, rfl, rfl, (by show (0 : Int) < 2; decide), rfl, _, rfl, ?_⟩⟩
        refine ite2 (fun c2 => ?_) (fun c2 => ?_)
        · have c2' : (u : Int) % 2 = 1 := by simpa using c2
          have u1 : u % 2 = 1 := by omega
          refine ⟨_, rfl, _, rfl, _, _, rfl, rfl, ?_, a + t, ?_, ?_, rfl⟩
          · show ((Builtin.Int.intBits ((10 ^ a : Nat) : Int) : Nat) : Int) + ((Builtin.Int.intBits ((10 ^ t : Nat) : Int) : Nat) : Int) ≤ 134217728
            omega
          · show [some (V.int (u : Int)), some (V.int (((10 ^ a : Nat) : Int) * ((10 ^ t : Nat) : Int))), some (V.int ((10 ^ t : Nat) : Int))] = _
            rw [← Int.natCast_mul, ← Nat.pow_add]
          · rw [u1, Nat.mul_one] at et
            omega
        · have c2' : ¬ (u : Int) % 2 = 1 := by simpa using c2
          have u0 : u % 2 = 0 := by omega
          refine ⟨a, rfl, ?_, rfl⟩
          rw [u0, Nat.mul_zero] at et
          omega
      · rintro σ' H' ⟨a', rfl, e2, rfl⟩
        refine ⟨_, rfl, _, rfl, _, _, rfl, rfl, ?_, _, rfl, _, _, rfl, rfl, ⟨by decide, by decide⟩, _, _, rfl, a', 2 * t, u / 2, ?_, e2, by omega, rfl, by omega⟩
        · show ((Builtin.Int.intBits ((10 ^ t : Nat) : Int) : Nat) : Int) + ((Builtin.Int.intBits ((10 ^ t : Nat) : Int) : Nat) : Int) ≤ 134217728
          omega
        · show [some (V.int ((u : Int).fdiv 2)), some (V.int ((10 ^ a' : Nat) : Int)), some (V.int (((10 ^ t : Nat) : Int) * ((10 ^ t : Nat) : Int)))] = _
          rw [← Int.natCast_mul, ← Nat.pow_add, Int.fdiv_eq_ediv_of_nonneg _ (by omega)]
          have : t + t = 2 * t := by omega
          rw [this]
          rfl
    · have c' : u = 0 := by
        have : ¬ (0 : Int) < (u : Int) := by simpa using c
        omega
      subst c'
      have : a = p := by omega
      subst this
      exact ⟨_, _, rfl, rfl⟩
  · rintro σ H1 ⟨z1, z2, rfl, rfl⟩
    exact ⟨_, rfl, q⟩
theorem max0 (p : Int) : (if p > 0 then p else 0) = (p.toNat : Int) := by split <;> omega
theorem numA_lt {N : Nat} {p : Int} (h : N < 2 ^ 1000) (hp : p ≤ 1000) : numA N p < 2 ^ 5001 := by
  have h1 : 10 ^ p.toNat < 2 ^ 4001 := Nat.lt_of_lt_of_le (ten_lt _) (Nat.pow_le_pow_right (by decide) (by omega))
  calc N * 10 ^ p.toNat ≤ N * 2 ^ 4001 := Nat.mul_le_mul_left _ (Nat.le_of_lt h1)
    _ < 2 ^ 1000 * 2 ^ 4001 := Nat.mul_lt_mul_of_pos_right h (Nat.two_pow_pos _)
    _ = 2 ^ 5001 := (Nat.pow_add 2 1000 4001).symm
theorem numB_lt {p : Int} (hp : -1000 ≤ p) : numB p < 2 ^ 4001 := Nat.lt_of_lt_of_le (ten_lt _) (Nat.pow_le_pow_right (by decide) (by omega))
theorem ok_tms {f g : Addr} {fd gd : FuncData} (F : Fun K "_law_times" "_law_times" sTms f fd) (T : FnOk P w K mg base CX0 1 g gd ["_law_power"] spLTen) (bT : Binds K gd ["_law_power"] []) (kT : PySem.W.keepIn K (.ref g) = true) (mT : mg "_law_ten" = some (.ref g)) (mm : mg "max" = none) :
    FnOk P w K mg base CX0 2 f fd ["_law_number_here", "_law_power"] spTms := by
  refine F.ok scTms (fun vs H Q E h => ?_) (fun cdv A outer s H vs Q E hr h => ?_)
  · obtain ⟨N, p, rfl, _⟩ := h
    rfl
  obtain ⟨N, p, rfl, hN, p0, p1, q⟩ := h
  refine ⟨_, pss_one (ps_ret (pe_tup (pa_cons (pe_op op_mulX (pv 0) (pe_call T hr rfl mT kT bT .nil pass0 (pa_cons (pe_callB (call_max2 rfl) (by rfl) mm (by decide +kernel) (pa_cons pe_int (pa_cons (pv 1) pa_nil))) pa_nil)))
    (pa_cons (pe_call T hr rfl mT kT bT .nil pass0 (pa_cons (pe_callB (call_max2 rfl) (by rfl) mm (by decide +kernel) (pa_cons pe_int (pa_cons (pe_op op_sub pe_int (pv 1)) pa_nil))) pa_nil)) pa_nil)))), ?_⟩
  refine ⟨_, rfl, _, rfl, _, _, rfl, ?_⟩
  rw [max0]
  refine ⟨p.toNat, rfl, by omega, fun H1 s1 => ?_⟩
  refine ⟨_, _, rfl, rfl, ?_, ?_⟩
  · show ((Builtin.Int.intBits (N : Int) : Nat) : Int) + ((Builtin.Int.intBits ((10 ^ p.toNat : Nat) : Int) : Nat) : Int) ≤ 134217728
    have h1 := bits_lt hN
    have h2 : Builtin.Int.intBits ((10 ^ p.toNat : Nat) : Int) ≤ 20000 := ten_bits (by omega)
    omega
  refine ⟨_, rfl, _, _, rfl, rfl, _, _, rfl, ?_⟩
  have e0 : (if (0 : Int) - p > 0 then (0 : Int) - p else 0) = ((-p).toNat : Int) := by split <;> omega
  rw [e0]
  refine ⟨(-p).toNat, rfl, by omega, fun H2 s2 => ?_⟩
  refine ⟨by show 2 ≤ sizeLine; decide, fun t ht => ?_⟩
  refine q _ t ((s1.trans s2).trans (same_new ht)) ?_
  rw [upd_same]
  show some (HO.tup [V.int ((N : Int) * ((10 ^ p.toNat : Nat) : Int)), V.int ((10 ^ (-p).toNat : Nat) : Int)]) = _
  rw [← Int.natCast_mul]
  rfl
theorem sgn_scale {x y c : Nat} (hc : 0 < c) : sgn (x * c) (y * c) = sgn x y := by
  unfold sgn
  have h1 : (y * c < x * c) = (y < x) := propext ⟨fun h => Nat.lt_of_mul_lt_mul_right h, fun h => Nat.mul_lt_mul_of_pos_right h hc⟩
  have h2 : (x * c < y * c) = (x < y) := propext ⟨fun h => Nat.lt_of_mul_lt_mul_right h, fun h => Nat.mul_lt_mul_of_pos_right h hc⟩
  simp only [h1, h2]
/-- the law's own numbers -/
theorem sgn_at (A B M f : Nat) : sgn (A * 2 ^ (-((f : Int) - 1076)).toNat) (M * B * 2 ^ ((f : Int) - 1076).toNat) = sgn (A * 2 ^ 1076) (M * (B * 2 ^ f)) := by
  rcases Nat.le_total f 1076 with h | h
  · have e1 : (-((f : Int) - 1076)).toNat = 1076 - f := by omega
    have e2 : ((f : Int) - 1076).toNat = 0 := by omega
    rw [e1, e2, ← sgn_scale (c := 2 ^ f) (Nat.two_pow_pos _)]
    have e3 : A * 2 ^ (1076 - f) * 2 ^ f = A * 2 ^ 1076 := by
      rw [Nat.mul_assoc, ← Nat.pow_add]
      have : 1076 - f + f = 1076 := by omega
      rw [this]
    have e4 : M * B * 2 ^ 0 * 2 ^ f = M * (B * 2 ^ f) := by rw [Nat.pow_zero, Nat.mul_one, Nat.mul_assoc]
    rw [e3, e4]
  · have e1 : (-((f : Int) - 1076)).toNat = 0 := by omega
    have e2 : ((f : Int) - 1076).toNat = f - 1076 := by omega
    rw [e1, e2, ← sgn_scale (c := 2 ^ 1076) (Nat.two_pow_pos _)]
    have e3 : M * B * 2 ^ (f - 1076) * 2 ^ 1076 = M * (B * 2 ^ f) := by
      rw [Nat.mul_assoc, ← Nat.pow_add, Nat.mul_assoc]
      have : f - 1076 + 1076 = f := by omega
      rw [this]
    rw [e3, Nat.pow_zero, Nat.mul_one]
theorem ok_bsd {f g : Addr} {fd gd : FuncData} (F : Fun K "_law_beside" "_law_beside" sBsd f fd) (T : FnOk P w K mg base CX0 2 g gd ["_law_number_here", "_law_power"] spTms) (bT : Binds K gd ["_law_number_here", "_law_power"] []) (kT : PySem.W.keepIn K (.ref g) = true) (mT : mg "_law_times" = some (.ref g)) (mm : mg "max" = none) (mi : mg "int" = none) :
    FnOk P w K mg base CX0 3 f fd ["_law_number_here", "_law_power", "_law_mantissa", "_law_exponent"] spBsd := by
  refine F.ok scBsd (fun vs H Q E h => ?_) (fun cdv A outer s H vs Q E hr h => ?_)
  · obtain ⟨N, M, f', p, e, rfl, _⟩ := h
    rfl
  obtain ⟨N, M, f', p, e, rfl, hN, p0, p1, hM, rfl, hf, q⟩ := h
  refine ⟨_, pss_cons (ps_asg (pe_call T hr rfl mT kT bT .nil pass0 (pa_cons (pv 0) (pa_cons (pv 1) pa_nil))) (pg_tup (by rfl) (pgs_cons (pg_name (i := 4) scBsd.nd rfl (.inl rfl)) (pgs_cons (pg_name (i := 5) scBsd.nd rfl (.inl rfl)) pgs_nil))))
    (pss_cons (ps_par (by rfl) scBsd.nd (i := 6) (j := 7) rfl rfl (by decide) rfl rfl
      (pa_cons (pe_op op_shlW (pv 4) (pe_callB (call_max2 rfl) (by rfl) mm (by decide +kernel) (pa_cons pe_int (pa_cons (pe_op op_sub pe_int (pv 3)) pa_nil))))
      (pa_cons (pe_op op_shlW (pe_op op_mulX (pv 2) (pv 5)) (pe_callB (call_max2 rfl) (by rfl) mm (by decide +kernel) (pa_cons pe_int (pa_cons (pv 3) pa_nil)))) pa_nil)) (by rfl))
    (pss_one (ps_ret (pe_op op_sub (pe_callTy call_int1 (by rfl) mi (by decide +kernel) (pa_cons (pe_cmpR op_gt (pv 6) (pv 7) (nomark _)) pa_nil)) (pe_callTy call_int1 (by rfl) mi (by decide +kernel) (pa_cons (pe_cmpR op_lt (pv 6) (pv 7) (nomark _)) pa_nil)))))), ?_⟩
  refine ⟨_, rfl, _, rfl, N, p, rfl, hN, p0, p1, fun H1 t s1 ht => ?_⟩
  refine ⟨t, _, rfl, SqT.of ht, rfl, _, _, rfl, _, _, rfl, rfl, ?_⟩
  have bA : Builtin.Int.intBits ((numA N p : Nat) : Int) ≤ 5001 := bits_lt (numA_lt hN p1)
  have bB : Builtin.Int.intBits ((numB p : Nat) : Int) ≤ 4001 := bits_lt (numB_lt p0)
  have bM : Builtin.Int.intBits (M : Int) ≤ 64 := bits_lt hM
  have bMB : Builtin.Int.intBits ((M * numB p : Nat) : Int) ≤ 4065 := bits_lt (by
    calc M * numB p ≤ 2 ^ 64 * numB p := Nat.mul_le_mul_right _ (Nat.le_of_lt hM)
      _ < 2 ^ 64 * 2 ^ 4001 := Nat.mul_lt_mul_of_pos_left (numB_lt p0) (Nat.two_pow_pos _)
      _ = 2 ^ 4065 := (Nat.pow_add 2 64 4001).symm)
  have e0 : (if (0 : Int) - ((f' : Int) - 1076) > 0 then (0 : Int) - ((f' : Int) - 1076) else 0) = ((-((f' : Int) - 1076)).toNat : Int) := by split <;> omega
  have q := q H1 s1
  rw [← sgn_at] at q
  generalize numA N p = A' at *
  generalize numB p = B' at *
  refine ⟨_, rfl, _, rfl, _, _, rfl, rfl, _, _, rfl, ?_⟩
  rw [e0]
  refine ⟨_, _, rfl, rfl, ⟨by omega, by omega⟩, ?_⟩
  refine ⟨_, rfl, _, rfl, _, _, rfl, rfl, (by show ((Builtin.Int.intBits (M : Int) : Nat) : Int) + ((Builtin.Int.intBits (B' : Int) : Nat) : Int) ≤ 134217728; omega), _, rfl, _, _, rfl, ?_⟩
  rw [max0]
  refine ⟨_, _, rfl, rfl, ⟨by omega, ?_⟩, _, _, rfl, ?_⟩
  · show ((Builtin.Int.intBits ((M : Int) * (B' : Int)) : Nat) : Int) + _ ≤ _
    rw [← Int.natCast_mul]
    omega
  have x1 : (A' : Int) * 2 ^ ((-((f' : Int) - 1076)).toNat : Int).toNat = ((A' * 2 ^ (-((f' : Int) - 1076)).toNat : Nat) : Int) := by
    rw [Int.toNat_natCast, Int.natCast_mul, Int.natCast_pow]; rfl
  have x2 : (M : Int) * (B' : Int) * 2 ^ (((f' : Int) - 1076).toNat : Int).toNat = ((M * B' * 2 ^ ((f' : Int) - 1076).toNat : Nat) : Int) := by
    rw [Int.toNat_natCast, Int.natCast_mul, Int.natCast_mul, Int.natCast_pow]; rfl
  have key : ∀ z : Int, z = sgn (A' * 2 ^ (-((f' : Int) - 1076)).toNat) (M * B' * 2 ^ ((f' : Int) - 1076).toNat) → Q (.int z) H1 := fun z e => e ▸ q
  refine ⟨_, rfl, _, rfl, _, _, rfl, rfl, .inr ⟨_, rfl, _, rfl, _, rfl, _, _, rfl, rfl, .inr ⟨_, rfl, _, _, rfl, rfl, key _ ?_⟩⟩⟩
  rw [x1, x2]
  generalize A' * 2 ^ (-((f' : Int) - 1076)).toNat = Y1
  generalize M * B' * 2 ^ ((f' : Int) - 1076).toNat = Y2
  unfold sgn
  rcases Nat.lt_trichotomy Y1 Y2 with h | h | h
  · rw [if_neg (by simp; omega), if_pos (by simp; omega), if_neg (by omega), if_pos h]; rfl
  · subst h
    simp
  · rw [if_pos (by simp; omega), if_neg (by simp; omega), if_pos h]; rfl
end
end KN

namespace KN
open PySem PySem.Spec PyProof.Rows L2
theorem scIsN : FnScope ["_law_found", "_law_number_here", "_law_power", "_law_m", "_law_e", "_law_low", "_law_under", "_law_over"] ["_law_found", "_law_number_here", "_law_power"] (defScope sIsN) := ⟨rfl, rfl, rfl, by decide +kernel, rfl, by decide +kernel, by decide +kernel⟩
/-- what is built in -/
structure Blt (mg : Str → Option Value) : Prop where
  isI : mg "isinstance" = none
  it : mg "int" = none
  bo : mg "bool" = none
/-- the class Float, as its objects are read and asked for -/
structure FltK (K : PySem.W.Frag) (mg : Str → Option Value) (C : Addr) : Prop where
  g : mg "Float" = some (.ref C)
  c : Cls K C
  n1 : NoAttr K C "mantissa"
  n2 : NoAttr K C "exponent"
  ha : PySem.W.findIn K (.ref C) "__class__" = some (some (.builtin "object.__class__"))
  hn : PySem.W.specialIn K (.builtin "object.__class__") "__get__" = some (some (.builtin "getset_descriptor.__get__"))
  htk : PySem.W.takesIn K (.builtin "object.__class__") = some true
  hm : PySem.W.mroIn K C (.type "object") = some true
  kit : PySem.W.kitOne K (.ref C) (.ref C) = some true
def spIsN (C : Addr) : Sp := fun vs H Q _ => ∃ (x : Addr) (M E p : Int) (N : Nat), vs = [.ref x, .int (N : Int), .int p] ∧ FltAt C H x M E ∧ N < 2 ^ 1000 ∧ -1000 ≤ p ∧ p ≤ 1000 ∧ FloatOk (numA N p) (numB p) M E ∧
  ∀ H', Same H H' → Q (.bl true) H'
theorem sgn_ge {X Y : Nat} (h : Y ≤ X) : 0 ≤ sgn X Y := by unfold sgn; rw [if_neg (show ¬ X < Y by omega)]; split <;> decide
theorem sgn_le {X Y : Nat} (h : X ≤ Y) : sgn X Y ≤ 0 := by unfold sgn; rw [if_neg (show ¬ Y < X by omega)]; split <;> decide
theorem sgn_gt {X Y : Nat} (h : Y < X) : sgn X Y = 1 := by unfold sgn; rw [if_pos h]
theorem sgn_lt {X Y : Nat} (h : X < Y) : sgn X Y = -1 := by unfold sgn; rw [if_neg (by omega), if_pos h]
theorem eqv_pair (a b c d : Int) : PyData.eqv (.tuple [.int a, .int b]) (.tuple [.int c, .int d]) = (decide (a = c) && decide (b = d)) := by
  show ((a == c) && ((b == d) && true)) = _
  rw [Bool.and_true]
  rfl
theorem shaped_pair (a b : Int) : SeqAt.shaped (.tuple [.int a, .int b]) = true := by rfl
/-- the lower border -/
structure Und (X m n l f : Nat) (B : Nat) : Prop where
  lo : l * (B * 2 ^ f) ≤ X
  lo1 : m % 2 = 1 → l * (B * 2 ^ f) < X
theorem FinF.und {X B M m k n : Nat} {E : Int} (h : FinF X B M E m k n) (hB : 0 < B) : (m = 4503599627370496 ∧ 0 < n → Und X m n 18014398509481983 n B) ∧ (¬ (m = 4503599627370496 ∧ 0 < n) → Und X m n (2 * m - 1) (n + 1) B) := by
  have hm : 0 < m := by
    have h1 := h.odd
    have h2 := h.mul
    rw [h2]
    exact Nat.mul_pos (by omega) (Nat.two_pow_pos k)
  refine ⟨fun c => ⟨h.und1 c.1 c.2, fun o => absurd o (by rw [c.1]; decide)⟩, fun c => ?_⟩
  have h2 := h.und2 c
  have h3 := h.und3
  have e : 2 * m * (B * 2 ^ (n + 1)) = (2 * m - 1) * (B * 2 ^ (n + 1)) + B * 2 ^ (n + 1) := by
    have : 2 * m = (2 * m - 1) + 1 := by omega
    rw [this, Nat.add_mul, Nat.one_mul]
    rfl
  rw [e] at h2 h3
  exact ⟨by omega, fun o => by have := h3 o; omega⟩
theorem inf_ge {A B : Nat} (h : 18014398509481983 * 2 ^ 970 * B ≤ A) : 18014398509481983 * (B * 2 ^ 2046) ≤ A * 2 ^ 1076 := by
  have e1 : 18014398509481983 * (B * 2 ^ 2046) = 18014398509481983 * 2 ^ 970 * B * 2 ^ 1076 := by
    have e0 : (2 : Nat) ^ 2046 = 2 ^ 970 * 2 ^ 1076 := Nat.pow_add 2 970 1076
    rw [e0]
    generalize (2 : Nat) ^ 970 = p
    generalize (2 : Nat) ^ 1076 = q
    rw [← Nat.mul_assoc B p q, ← Nat.mul_assoc, Nat.mul_comm B p, ← Nat.mul_assoc]
  rw [e1]
  exact Nat.mul_le_mul_right _ h
theorem zero_le {A B : Nat} (h : A * 2 ^ 1075 ≤ B) : A * 2 ^ 1076 ≤ 1 * (B * 2 ^ 1) := by
  have e : A * 2 ^ 1076 = 2 * (A * 2 ^ 1075) := two_succ A 1075
  rw [e]
  omega
section
variable {P : Program} {w : World} {K : PySem.W.Frag} {mg : Str → Option Value} {base : Heap}
theorem ok_isn {C f g : Addr} {fd gd : FuncData} (F : Fun K "_law_is_near" "_law_is_near" sIsN f fd) (S : FltK K mg C) (Z : Blt mg)
    (B : FnOk P w K mg base CX0 3 g gd ["_law_number_here", "_law_power", "_law_mantissa", "_law_exponent"] spBsd) (bB : Binds K gd ["_law_number_here", "_law_power", "_law_mantissa", "_law_exponent"] []) (kB : PySem.W.keepIn K (.ref g) = true) (mB : mg "_law_beside" = some (.ref g)) :
    FnOk P w K mg base CX0 4 f fd ["_law_found", "_law_number_here", "_law_power"] (spIsN C) := by
  refine F.ok scIsN (fun vs H Q E h => ?_) (fun cdv A outer s H vs Q E hr h => ?_)
  · obtain ⟨x, M, E, p, N, rfl, _⟩ := h
    rfl
  obtain ⟨x, M, E, p, N, rfl, hx, hN, p0, p1, hF, q⟩ := h
  refine ⟨_, pss_cons (ps_if (PW.pt (pw_or (pt_not (pt_val (pe_callB call_isi (by rfl) Z.isI (by decide +kernel) (pa_cons (pv 0) (pa_cons (pe_glob (v := .ref C) rfl S.g rfl) pa_nil)))))
        (pw_or (pt_val (pe_callB call_isi (by rfl) Z.isI (by decide +kernel) (pa_cons (pe_fld (pv 0) rfl) (pa_cons (pe_bltn (v := .ty "bool") (by rfl) Z.bo (by decide +kernel) rfl) pa_nil))))
        (pw_or1 (pt_val (pe_callB call_isi (by rfl) Z.isI (by decide +kernel) (pa_cons (pe_fld (pv 0) rfl) (pa_cons (pe_bltn (v := .ty "bool") (by rfl) Z.bo (by decide +kernel) rfl) pa_nil)))))))) (pss_one (ps_ret pe_bl)) pss_nil)
    (pss_cons (ps_if (PW.pt (pw_or (pt_not (pt_val (pe_callB call_isi (by rfl) Z.isI (by decide +kernel) (pa_cons (pe_fld (pv 0) rfl) (pa_cons (pe_bltn (v := .ty "int") (by rfl) Z.it (by decide +kernel) rfl) pa_nil)))))
        (pw_or1 (pt_not (pt_val (pe_callB call_isi (by rfl) Z.isI (by decide +kernel) (pa_cons (pe_fld (pv 0) rfl) (pa_cons (pe_bltn (v := .ty "int") (by rfl) Z.it (by decide +kernel) rfl) pa_nil)))))))) (pss_one (ps_ret pe_bl)) pss_nil)
    (pss_cons (ps_par (by rfl) scIsN.nd (i := 3) (j := 4) rfl rfl (by decide) rfl rfl (pa_cons (pe_fld (pv 0) rfl) (pa_cons (pe_fld (pv 0) rfl) pa_nil)) (by rfl))
    (pss_cons (ps_if (pt_cmpR (op_eqD hr.units) (pe_tup (pa_cons (pv 3) (pa_cons (pv 4) pa_nil))) (pe_tup (pa_cons pe_int (pa_cons pe_int pa_nil))) (nomark _))
        (pss_one (ps_ret (pe_cmpR op_ge (pe_call B hr rfl mB kB bB .nil pass0 (pa_cons (pv 1) (pa_cons (pv 2) (pa_cons (pe_op op_sub (pe_op op_pow pe_int pe_int) pe_int) (pa_cons pe_int pa_nil))))) pe_int (nomark _)))) pss_nil)
    (pss_cons (ps_if (pt_cmpR op_eq (pv 3) pe_int (nomark _))
        (pss_one (ps_ret (pe_and (pe_cmpR op_eq (pv 4) pe_int (nomark _)) (pe_one (pe_cmpR op_le (pe_call B hr rfl mB kB bB .nil pass0 (pa_cons (pv 1) (pa_cons (pv 2) (pa_cons pe_int (pa_cons (pe_un un_neg pe_int) pa_nil))))) pe_int (nomark _)))))) pss_nil)
    (pss_cons (ps_if (PW.pt (pw_or (pt_cmpR op_lt (pv 3) pe_int (nomark _))
        (pw_or (pt_cmpR op_eq (pe_op op_mod (pe_callTy call_int1 (by rfl) Z.it (by decide +kernel) (pa_cons (pv 3) pa_nil)) pe_int) pe_int (nomark _))
        (pw_or (pt_cmpR op_ge (pv 3) (pe_op op_pow pe_int pe_int) (nomark _))
        (pw_or1 (pt_cmpR op_lt (pv 4) (pe_un un_neg pe_int) (nomark _))))))) (pss_one (ps_ret pe_bl)) pss_nil)
    (C8.pss_cut (ps_while PassesOwn.never (PW.pt (pw_and (pt_cmpR op_lt (pv 3) (pe_op op_pow pe_int pe_int) (nomark _)) (pw_and1 (pt_cmpR op_gt (pv 4) (pe_un un_neg pe_int) (nomark _)))))
        (pss_one (ps_par (by rfl) scIsN.nd (i := 3) (j := 4) rfl rfl (by decide) rfl rfl (pa_cons (pe_op op_mul pe_int (pv 3)) (pa_cons (pe_op op_sub (pv 4) pe_int) pa_nil)) (by rfl))))
    (pss_cons (ps_if (pt_cmpR op_gt (pv 4) pe_int (nomark _)) (pss_one (ps_ret pe_bl)) pss_nil)
    (C8.pss_cut (ps_set (i := 5) scIsN.nd rfl (.inl rfl) (pe_ifExp (PW.pt (pw_and (pt_cmpR op_eq (pv 3) (pe_op op_pow pe_int pe_int) (nomark _)) (pw_and1 (pt_cmpR op_gt (pv 4) (pe_un un_neg pe_int) (nomark _)))))
        (pe_tup (pa_cons (pe_op op_sub (pe_op op_mul pe_int (pv 3)) pe_int) (pa_cons (pe_op op_sub (pv 4) pe_int) pa_nil)))
        (pe_tup (pa_cons (pe_op op_sub (pe_op op_mul pe_int (pv 3)) pe_int) (pa_cons (pe_op op_sub (pv 4) pe_int) pa_nil)))))
    (pss_cons (ps_par (by rfl) scIsN.nd (i := 6) (j := 7) rfl rfl (by decide) rfl rfl
        (pa_cons (pe_call B hr rfl mB kB bB .nil pass0 (pa_cons (pv 1) (pa_cons (pv 2) (pa_cons (pe_ix ix_tup (pv 5) pe_int (fun _ _ => rfl)) (pa_cons (pe_ix ix_tup (pv 5) pe_int (fun _ _ => rfl)) pa_nil)))))
        (pa_cons (pe_call B hr rfl mB kB bB .nil pass0 (pa_cons (pv 1) (pa_cons (pv 2) (pa_cons (pe_op op_add (pe_op op_mul pe_int (pv 3)) pe_int) (pa_cons (pe_op op_sub (pv 4) pe_int) pa_nil))))) pa_nil)) (by rfl))
    (pss_cons (ps_if (pt_cmpR (op_eqD hr.units) (pe_tup (pa_cons (pv 3) (pa_cons (pv 4) pa_nil))) (pe_tup (pa_cons (pe_op op_sub (pe_op op_pow pe_int pe_int) pe_int) (pa_cons pe_int pa_nil))) (nomark _))
        (pss_one (ps_ret (pe_and (pe_cmpR op_gt (pv 6) pe_int (nomark _)) (pe_one (pe_cmpR op_lt (pv 7) pe_int (nomark _)))))) pss_nil)
    (pss_one (ps_ret (pe_and (pe_cmpR op_ge (pv 6) (pe_callTy call_int1 (by rfl) Z.it (by decide +kernel) (pa_cons (pe_cmpR op_eq (pe_op op_mod (pe_callTy call_int1 (by rfl) Z.it (by decide +kernel) (pa_cons (pv 3) pa_nil)) pe_int) pe_int (nomark _)) pa_nil)) (nomark _))
      (pe_one (pe_cmpR op_le (pv 7) (pe_op op_sub pe_int (pe_callTy call_int1 (by rfl) Z.it (by decide +kernel) (pa_cons (pe_cmpR op_eq (pe_op op_mod (pe_callTy call_int1 (by rfl) Z.it (by decide +kernel) (pa_cons (pv 3) pa_nil)) pe_int) pe_int (nomark _)) pa_nil))) (nomark _)))))))))))))))), ?_⟩
  obtain ⟨dx, hx⟩ := hx
  have tyx : TyX K H (.ref x) (.ref C) := .base (.ins hx S.c S.ha S.hn S.htk S.hm)
  refine ⟨_, rfl, _, _, _, _, _, rfl, .own _, tyx, S.kit, _, rfl, iteF ?_⟩
  refine ⟨_, rfl, x, C, dx, _, _, rfl, hx, S.c, S.n1, fl_m _ _, _, _, _, _, false, rfl, .ty _, .base (.int _), kit_ty (by decide +kernel), _, rfl, iteF ?_⟩
  refine ⟨_, rfl, x, C, dx, _, _, rfl, hx, S.c, S.n2, fl_e _ _, _, _, _, _, false, rfl, .ty _, .base (.int _), kit_ty (by decide +kernel), _, rfl, iteF ?_⟩
  refine ⟨_, rfl, x, C, dx, _, _, rfl, hx, S.c, S.n1, fl_m _ _, _, _, _, _, true, rfl, .ty _, .base (.int _), kit_ty (by decide +kernel), _, rfl, iteF ?_⟩
  refine ⟨_, rfl, x, C, dx, _, _, rfl, hx, S.c, S.n2, fl_e _ _, _, _, _, _, true, rfl, .ty _, .base (.int _), kit_ty (by decide +kernel), _, rfl, iteF ?_⟩
  refine ⟨_, rfl, x, C, dx, _, _, rfl, hx, S.c, S.n1, fl_m _ _, _, rfl, x, C, dx, _, _, rfl, hx, S.c, S.n2, fl_e _ _, _, _, rfl, ?_⟩
  refine ⟨_, rfl, _, rfl, by show 2 ≤ sizeLine; decide, fun t1 h1 => ⟨by show 2 ≤ sizeLine; decide, fun t2 h2 => ?_⟩⟩
  have n12 : t1 ≠ t2 := fun z => by subst z; rw [upd_same] at h2; cases h2
  refine ⟨_, _, .tup (SqT.of (by rw [upd_ne n12]; exact upd_same)) (.cons (.int _) (.cons (.int _) .nil)), .tup (SqT.of upd_same) (.cons (.int _) (.cons (.int _) .nil)), shaped_pair _ _, shaped_pair _ _, _, rfl, ?_⟩
  rw [eqv_pair]
  have s2 : Same H (upd (upd H t1 (.tup [.int M, .int E])) t2 (.tup [.int 1, .int 1024])) := (same_new h1).trans (same_new h2)
  have q := fun H' s => q H' (s2.trans s)
  generalize upd (upd H t1 (.tup [.int M, .int E])) t2 (.tup [.int 1, .int 1024]) = H2 at q ⊢
  have hB0 : 0 < numB p := Nat.pow_pos (by decide)
  have key : ∀ b : Bool, b = true → ∀ H', Same H2 H' → Q (.bl b) H' := fun b e H' s => e ▸ q H' s
  cases hF with
  | inf h =>
    refine iteT ?_
    refine ⟨_, rfl, _, rfl, _, _, rfl, rfl, ⟨by decide, by decide, by decide⟩, _, _, rfl, rfl, N, 18014398509481983, 2046, p, 970, by rfl, hN, p0, p1, by decide, rfl, by decide, fun H3 s3 => ⟨_, _, rfl, rfl, ?_⟩⟩
    exact key _ (decide_eq_true (sgn_ge (inf_ge h))) _ s3
  | zero h =>
    refine iteF ?_
    refine ⟨_, rfl, rfl, _, rfl, iteT ?_⟩
    refine ⟨_, rfl, rfl, _, rfl, iteT ?_⟩
    refine ⟨_, rfl, _, rfl, _, rfl, N, 1, 1, p, -1075, by rfl, hN, p0, p1, by decide, rfl, by decide, fun H3 s3 => ⟨_, _, rfl, rfl, ?_⟩⟩
    exact key _ (decide_eq_true (sgn_le (zero_le h))) _ s3
  | fin M E m k n h =>
    have ho := h.odd
    have hm := h.mul
    have hlt := h.lt
    have hE := h.ee
    have hup := h.up
    have htop := h.top
    have p2 := Nat.two_pow_pos k
    have Mm : M ≤ m := by rw [hm]; exact Nat.le_mul_of_pos_right M p2
    have e53 : (9007199254740992 : Nat) = 2 ^ 53 := by decide
    have k52 : k < 53 := by
      have h1 : 2 ^ k ≤ m := by rw [hm]; exact Nat.le_mul_of_pos_left _ (by omega)
      rw [e53] at hlt
      exact (Nat.pow_lt_pow_iff_right (by decide)).mp (Nat.lt_of_le_of_lt h1 hlt)
    refine ite2 (fun c => ?_) (fun _ => ?_)
    · rw [Bool.and_eq_true, decide_eq_true_eq, decide_eq_true_eq] at c
      omega
    refine ⟨_, rfl, rfl, _, rfl, ite2 (fun c => ?_) (fun _ => ?_)⟩
    · have : (M : Int) = 0 := by simpa using c
      omega
    refine ⟨_, rfl, _, _, rfl, rfl, _, rfl, ite2 (fun c => ?_) (fun _ => ?_)⟩
    · have : (M : Int) < 0 := by simpa using c
      omega
    refine ⟨_, rfl, .inl ⟨_, rfl, _, _, rfl, rfl, (by show (0 : Int) < 2; decide), rfl, _, rfl, ite2 (fun c => ?_) (fun _ => ?_)⟩⟩
    · have : (M : Int) % 2 = 0 := by simpa using c
      omega
    refine ⟨_, rfl, _, _, rfl, rfl, ⟨by decide, by decide, by decide⟩, _, _, rfl, rfl, _, rfl, ite2 (fun c => ?_) (fun _ => ?_)⟩
    · have : (2 : Int) ^ (53 : Int).toNat ≤ (M : Int) := by simpa using c
      have e : (2 : Int) ^ (53 : Int).toNat = 9007199254740992 := by rfl
      omega
    refine ⟨_, rfl, _, rfl, _, _, rfl, rfl, _, rfl, ite2 (fun c => ?_) (fun _ => ?_)⟩
    · have : E < -1074 := by simpa using c
      omega
    have e52 : (2 : Int) ^ (52 : Int).toNat = 4503599627370496 := by rfl
    refine ⟨fun σ H1 => σ = [some (.ref x), some (.int (N : Int)), some (.int p), some (.int (m : Int)), some (.int ((n : Int) - 1074)), none, none, none] ∧ H1 = H2, ?_, ?_⟩
    · refine ⟨fun u σ H1 => ∃ j a : Nat, j + u = k ∧ a = M * 2 ^ j ∧ σ = [some (.ref x), some (.int (N : Int)), some (.int p), some (.int (a : Int)), some (.int (E - (j : Int))), none, none, none] ∧ H1 = H2, ⟨k, 0, M, by omega, by rw [Nat.pow_zero, Nat.mul_one], ?_, rfl⟩, ?_⟩
      · show _ = [some (V.ref x), some (V.int (N : Int)), some (V.int p), some (V.int (M : Int)), some (V.int (E - 0)), none, none, none]
        rw [Int.sub_zero]
        rfl
      rintro u σ H1 ⟨j, a, hj, ha, rfl, rfl⟩
      have em : m = a * 2 ^ u := by rw [hm, ha, Nat.mul_assoc, ← Nat.pow_add, hj]
      have ex : u = 0 → (a = m ∧ E - (j : Int) = (n : Int) - 1074) := fun u0 => by
        subst u0
        rw [Nat.pow_zero, Nat.mul_one] at em
        exact ⟨em.symm, by omega⟩
      have out : u = 0 → [some (V.ref x), some (V.int (N : Int)), some (V.int p), some (V.int (a : Int)), some (V.int (E - (j : Int))), none, none, none] = [some (V.ref x), some (V.int (N : Int)), some (V.int p), some (V.int (m : Int)), some (V.int ((n : Int) - 1074)), none, none, none] := fun u0 => by
        obtain ⟨a1, a2⟩ := ex u0
        rw [a1, a2]
      have big : 0 < u → 2 * a ≤ m := fun u1 => by
        have : 2 ^ 1 ≤ 2 ^ u := Nat.pow_le_pow_right (by decide) u1
        rw [em, Nat.mul_comm 2]
        exact Nat.mul_le_mul_left _ this
      refine ⟨_, rfl, _, _, rfl, rfl, ⟨by decide, by decide, by decide⟩, _, _, rfl, rfl, ?_⟩
      rw [e52]
      dsimp only
      generalize hb : decide ((a : Int) < 4503599627370496) = b
      refine ⟨b, rfl, ite2 (fun c => ?_) (fun c => ?_)⟩
      · have c1 : (a : Int) < 4503599627370496 := of_decide_eq_true (hb.trans c)
        refine ⟨_, rfl, _, rfl, _, _, rfl, rfl, _, rfl, ite2 (fun c => ?_) (fun c => ?_)⟩
        · have c2 : -1074 < E - (j : Int) := by simpa using c
          have u1 : 0 < u := by
            rcases Nat.eq_zero_or_pos u with z | z
            · obtain ⟨a1, a2⟩ := ex z
              omega
            · exact z
          refine ⟨fun σ' H' => ∃ v : Nat, v < u ∧ ∃ j a : Nat, j + v = k ∧ a = M * 2 ^ j ∧ σ' = [some (.ref x), some (.int (N : Int)), some (.int p), some (.int (a : Int)), some (.int (E - (j : Int))), none, none, none] ∧ H' = H1, fun σ' H' z => z, ?_⟩
          refine ⟨_, rfl, _, _, rfl, rfl, .inl ⟨by decide, by decide⟩, _, rfl, _, _, rfl, rfl, _, _, rfl, u - 1, by omega, j + 1, 2 * a, by omega, ?_, ?_, rfl⟩
          · rw [ha, Nat.pow_succ, ← Nat.mul_assoc M]
            omega
          show [some (V.ref x), some (V.int (N : Int)), some (V.int p), some (V.int (2 * (a : Int))), some (V.int (E - (j : Int) - 1)), none, none, none] = _
          have a1 : ((2 * a : Nat) : Int) = 2 * (a : Int) := by omega
          have a2 : E - (j : Int) - 1 = E - ((j + 1 : Nat) : Int) := by omega
          rw [a1, a2]
        · have c2 : ¬ -1074 < E - (j : Int) := by simpa using c
          exact ⟨out (by omega), rfl⟩
      · have c1 : ¬ (a : Int) < 4503599627370496 := fun z => c (hb.symm.trans (decide_eq_true z))
        refine iteF ⟨out ?_, rfl⟩
        rcases Nat.eq_zero_or_pos u with z | z
        · exact z
        · have := big z
          omega
    rintro σ H1 ⟨rfl, rfl⟩
    refine ⟨_, rfl, _, _, rfl, rfl, _, rfl, ite2 (fun c => ?_) (fun _ => ?_)⟩
    · have : 971 < (n : Int) - 1074 := by simpa using c
      omega
    obtain ⟨uA, uB⟩ := h.und hB0
    have ovr := h.ovr
    have ovr1 := h.ovr1
    have mo : m % 2 = 0 ∨ m % 2 = 1 := by omega
    have e64 : (2 : Nat) ^ 64 = 18446744073709551616 := by decide
    have m0 : 0 < m := by omega
    refine ⟨fun σ H4 => ∃ (t : Addr) (l f : Nat), σ = [some (.ref x), some (.int (N : Int)), some (.int p), some (.int (m : Int)), some (.int ((n : Int) - 1074)), some (.ref t), none, none] ∧ Same H1 H4 ∧ H4 t = some (.tup [.int (l : Int), .int ((f : Int) - 1076)]) ∧ Und (numA N p * 2 ^ 1076) m n l f (numB p) ∧ l < 2 ^ 64 ∧ f ≤ 2046, ?_, ?_⟩
    · refine ⟨_, rfl, _, _, rfl, rfl, ⟨by decide, by decide, by decide⟩, rfl, _, rfl, ite2 (fun c => ?_) (fun c => ?_)⟩
      · have c1 : (m : Int) = 2 ^ (52 : Int).toNat := by simpa using c
        rw [e52] at c1
        refine ⟨_, rfl, _, rfl, _, _, rfl, rfl, _, rfl, ite2 (fun c => ?_) (fun c => ?_)⟩
        · have c2 : -1074 < (n : Int) - 1074 := by simpa using c
          refine ⟨_, rfl, _, _, rfl, rfl, .inl ⟨by decide, by decide⟩, _, _, rfl, rfl, _, rfl, _, _, rfl, rfl, by show 2 ≤ sizeLine; decide, fun t ht => ⟨t, 18014398509481983, n, rfl, same_new ht, ?_, uA ⟨by omega, by omega⟩, by decide, by omega⟩⟩
          rw [upd_same]
          have a1 : 4 * (m : Int) - 1 = ((18014398509481983 : Nat) : Int) := by omega
          have a2 : (n : Int) - 1074 - 2 = (n : Int) - 1076 := by omega
          show some (HO.tup [V.int (4 * (m : Int) - 1), V.int ((n : Int) - 1074 - 2)]) = _
          rw [a1, a2]
        · have c2 : ¬ -1074 < (n : Int) - 1074 := by simpa using c
          refine ⟨_, rfl, _, _, rfl, rfl, .inl ⟨by decide, by decide⟩, _, _, rfl, rfl, _, rfl, _, _, rfl, rfl, by show 2 ≤ sizeLine; decide, fun t ht => ⟨t, 2 * m - 1, n + 1, rfl, same_new ht, ?_, uB (by omega), by omega, by omega⟩⟩
          rw [upd_same]
          have a1 : 2 * (m : Int) - 1 = ((2 * m - 1 : Nat) : Int) := by omega
          have a2 : (n : Int) - 1074 - 1 = ((n + 1 : Nat) : Int) - 1076 := by omega
          show some (HO.tup [V.int (2 * (m : Int) - 1), V.int ((n : Int) - 1074 - 1)]) = _
          rw [a1, a2]
      · have c1 : ¬ (m : Int) = 2 ^ (52 : Int).toNat := by simpa using c
        rw [e52] at c1
        refine iteF ⟨_, rfl, _, _, rfl, rfl, .inl ⟨by decide, by decide⟩, _, _, rfl, rfl, _, rfl, _, _, rfl, rfl, by show 2 ≤ sizeLine; decide, fun t ht => ⟨t, 2 * m - 1, n + 1, rfl, same_new ht, ?_, uB (by omega), by omega, by omega⟩⟩
        rw [upd_same]
        have a1 : 2 * (m : Int) - 1 = ((2 * m - 1 : Nat) : Int) := by omega
        have a2 : (n : Int) - 1074 - 1 = ((n + 1 : Nat) : Int) - 1076 := by omega
        show some (HO.tup [V.int (2 * (m : Int) - 1), V.int ((n : Int) - 1074 - 1)]) = _
        rw [a1, a2]
    rintro σ H4 ⟨t, l, f, rfl, s4, ht, hU, hl, hf⟩
    refine ⟨_, rfl, _, rfl, _, rfl, t, _, 0, _, rfl, rfl, SqT.of ht, rfl, _, rfl, t, _, 1, _, rfl, rfl, SqT.of ht, rfl, N, l, f, p, _, rfl, hN, p0, p1, hl, rfl, by omega, fun H5 s5 => ?_⟩
    refine ⟨_, rfl, _, rfl, _, rfl, _, _, rfl, rfl, .inl ⟨by decide, by decide⟩, _, _, rfl, rfl, _, rfl, _, _, rfl, rfl, N, 2 * m + 1, n + 1, p, _, rfl, hN, p0, p1, by omega, by omega, by omega, fun H6 s6 => ?_⟩
    have u1 : 0 ≤ sgn (numA N p * 2 ^ 1076) (l * (numB p * 2 ^ f)) := sgn_ge hU.lo
    have u2 : m % 2 = 1 → sgn (numA N p * 2 ^ 1076) (l * (numB p * 2 ^ f)) = 1 := fun o => sgn_gt (hU.lo1 o)
    have o1 : sgn (numA N p * 2 ^ 1076) ((2 * m + 1) * (numB p * 2 ^ (n + 1))) ≤ 0 := sgn_le ovr
    have o2 : m % 2 = 1 → sgn (numA N p * 2 ^ 1076) ((2 * m + 1) * (numB p * 2 ^ (n + 1))) = -1 := fun o => sgn_lt (ovr1 o)
    clear hU ovr ovr1 uA uB
    generalize sgn (numA N p * 2 ^ 1076) (l * (numB p * 2 ^ f)) = u at u1 u2 ⊢
    generalize sgn (numA N p * 2 ^ 1076) ((2 * m + 1) * (numB p * 2 ^ (n + 1))) = o at o1 o2 ⊢
    refine ⟨_, _, rfl, ?_⟩
    refine ⟨_, rfl, _, rfl, by show 2 ≤ sizeLine; decide, fun t3 h3 => ⟨_, _, rfl, rfl, ⟨by decide, by decide, by decide⟩, _, _, rfl, rfl, by show 2 ≤ sizeLine; decide, fun t4 h4 => ?_⟩⟩
    have n34 : t3 ≠ t4 := fun z => by subst z; rw [upd_same] at h4; cases h4
    refine ⟨_, _, .tup (SqT.of (by rw [upd_ne n34]; exact upd_same)) (.cons (.int _) (.cons (.int _) .nil)), .tup (SqT.of upd_same) (.cons (.int _) (.cons (.int _) .nil)), shaped_pair _ _, shaped_pair _ _, _, rfl, ?_⟩
    rw [eqv_pair]
    have s7 := (((s4.trans s5).trans s6).trans (same_new (o := .tup [.int (m : Int), .int ((n : Int) - 1074)]) h3)).trans (same_new (o := .tup [.int (2 ^ (53 : Int).toNat - 1), .int 971]) h4)
    have key := fun b e => key b e _ s7
    refine ite2 (fun c => ?_) (fun _ => ?_)
    · rw [Bool.and_eq_true, decide_eq_true_eq, decide_eq_true_eq] at c
      have e : (2 : Int) ^ (53 : Int).toNat = 9007199254740992 := by rfl
      have c1 := c.1
      rw [e] at c1
      have mo : m % 2 = 1 := by omega
      rw [u2 mo, o2 mo]
      exact ⟨_, rfl, _, _, rfl, rfl, _, rfl, iteT ⟨_, rfl, _, _, rfl, rfl, key _ rfl⟩⟩
    · have ci : ∃ b : Nat, (if decide (V.int ((m : Int) % 2) = V.int 1) = true then (1 : Int) else 0) = (b : Int) ∧ (b : Int) ≤ u ∧ o ≤ 0 - (b : Int) := by
        rw [dec_int]
        rcases mo with z | z
        · refine ⟨0, ?_, u1, by omega⟩
          rw [if_neg]
          · rfl
          · rw [beq_iff_eq]; omega
        · refine ⟨1, ?_, by rw [u2 z]; decide, by rw [o2 z]; decide⟩
          rw [if_pos]
          · rfl
          · rw [beq_iff_eq]; omega
      obtain ⟨b, eb, cu, co⟩ := ci
      refine ⟨_, rfl, _, rfl, .inl ⟨_, rfl, _, _, rfl, rfl, (by show (0 : Int) < 2; decide), rfl, .inr ⟨_, rfl, ?_⟩⟩⟩
      refine ⟨_, _, rfl, rfl, _, rfl, ?_⟩
      dsimp only
      rw [eb, if_pos (decide_eq_true cu)]
      refine ⟨_, rfl, _, rfl, .inl ⟨_, rfl, _, _, rfl, rfl, (by show (0 : Int) < 2; decide), rfl, .inr ⟨_, rfl, ?_⟩⟩⟩
      refine ⟨_, _, rfl, rfl, ?_⟩
      refine ⟨_, _, rfl, rfl, ?_⟩
      dsimp only
      rw [eb]
      exact key _ (decide_eq_true co)
end
end KN

namespace KN
open PySem PySem.Spec PyProof.Rows L2 SX
/-! ### the texts of numbers: by lists of signs alone -/
def dig (c : Nat) : Bool := decide (48 ≤ c) && decide (c ≤ 57)
theorem dig_iff {c : Nat} : dig c = true ↔ 48 ≤ c ∧ c ≤ 57 := by unfold dig; rw [Bool.and_eq_true, decide_eq_true_eq, decide_eq_true_eq]
def digO : Option Nat → Bool
  | some c => dig c
  | none => false
/-- how many signs are consumed; b: one was consumed ahead -/
def run : Bool → List Nat → Nat
  | _, [] => 0
  | b, c :: r => if dig c then run true r + 1 else if b && (c == 95 && digO r.head?) then run true r + 1 else 0
theorem run_le : ∀ (b : Bool) (l : List Nat), run b l ≤ l.length
  | _, [] => Nat.le_refl _
  | b, c :: r => by
    have := run_le true r
    unfold run
    split
    · simpa using this
    · split
      · simpa using this
      · exact Nat.zero_le _
/-- what may stand behind a run -/
def stop : List Nat → Bool
  | [] => true
  | c :: _ => !dig c && !(c == 95)
theorem run_stop {b : Bool} {r : List Nat} (h : stop r = true) : run b r = 0 := by
  cases r with
  | nil => rfl
  | cons c r =>
    have h : (!dig c && !(c == 95)) = true := h
    rw [Bool.and_eq_true, Bool.not_eq_true', Bool.not_eq_true'] at h
    unfold run
    rw [h.1, h.2]
    simp
theorem run_digs : ∀ (l r : List Nat) (b : Bool), l.all dig = true → run b (l ++ r) = l.length + (if l = [] then run b r else run true r)
  | [], r, b, _ => by simp
  | c :: l, r, b, h => by
    rw [List.all_cons, Bool.and_eq_true] at h
    have ih := run_digs l r true h.2
    have e : run b (c :: l ++ r) = run true (l ++ r) + 1 := by
      show run b (c :: (l ++ r)) = _
      rw [run, if_pos h.1]
    rw [e, ih]
    simp only [List.length_cons, reduceCtorEq, if_false, ite_self]
    omega
theorem run_all {l r : List Nat} {b : Bool} (h : l.all dig = true) (hs : stop r = true) : run b (l ++ r) = l.length := by
  rw [run_digs l r b h, run_stop hs, run_stop hs]
  simp
theorem run_us {l1 l2 r : List Nat} (h1 : l1.all dig = true) (n1 : l1 ≠ []) (h2 : l2.all dig = true) (n2 : l2 ≠ []) (hs : stop r = true) : run false ((l1 ++ 95 :: l2) ++ r) = (l1 ++ 95 :: l2).length := by
  rw [List.append_assoc, run_digs l1 _ false h1, if_neg n1]
  obtain ⟨d, l2', rfl⟩ := List.exists_cons_of_ne_nil n2
  have hd := h2
  rw [List.all_cons, Bool.and_eq_true] at hd
  have e : run true (95 :: (d :: l2') ++ r) = run true ((d :: l2') ++ r) + 1 := by
    show run true (95 :: ((d :: l2') ++ r)) = _
    rw [run, if_neg (by decide), if_pos]
    show (true && ((95 : Nat) == 95 && dig d)) = true
    rw [hd.1]
    rfl
  rw [e, run_all h2 hs]
  simp
def usO (o : Option Nat) : Bool := o == some 95
/-- the loop's step -/
theorem run_at (t : List Nat) (a e : Nat) (b : Bool) (hb : b = decide (a < e)) : run b (t.drop e) = if (digO t[e]? || (decide (a < e) && (usO t[e]? && digO t[e + 1]?))) = true then run true (t.drop (e + 1)) + 1 else 0 := by
  subst hb
  cases h : t[e]? with
  | none =>
    have : t.length ≤ e := List.getElem?_eq_none_iff.mp h
    rw [List.drop_eq_nil_of_le this]
    simp [run, digO, usO]
  | some c =>
    have hl : e < t.length := (List.getElem?_eq_some_iff.mp h).1
    have ec : t[e] = c := (List.getElem?_eq_some_iff.mp h).2
    rw [List.drop_eq_getElem_cons hl, ec, run]
    have eh : (t.drop (e + 1)).head? = t[e + 1]? := by rw [List.head?_drop]
    rw [eh]
    cases hd : dig c with
    | true => simp [digO, hd]
    | false =>
      have : (decide (a < e) && (c == 95 && digO t[e + 1]?)) = (decide (a < e) && (usO (some c) && digO t[e + 1]?)) := by
        unfold usO
        simp
      rw [this]
      simp [digO, hd]
def hasD (t : List Nat) (a : Nat) : Bool := digO t[a]?
def isE (o : Option Nat) : Bool := o == some 101 || o == some 69
def isSg (o : Option Nat) : Bool := o == some 43 || o == some 45
def dEnd (t : List Nat) (a : Nat) : Nat := a + run false (t.drop a)
def eBeg (t : List Nat) (a : Nat) : Nat := if isSg t[a + 1]? then a + 2 else a + 1
def eEnd (t : List Nat) (a : Nat) : Nat := if isE t[a]? then (if eBeg t a < dEnd t (eBeg t a) then dEnd t (eBeg t a) else a) else a
def cut (t : List Nat) (a b : Nat) : List Nat := (t.drop a).take (b - a)
structure Dec where
  w : List Nat
  f : List Nat
  x : List Nat
  e : Nat
def fEnd (t : List Nat) : Nat := if t[dEnd t 0]? = some 46 then dEnd t (dEnd t 0 + 1) else dEnd t 0
def dec (t : List Nat) : Dec :=
  if fEnd t = dEnd t 0 + 1 ∧ dEnd t 0 = 0 then ⟨[], [], [], 0⟩
  else ⟨cut t 0 (dEnd t 0), cut t (dEnd t 0 + 1) (fEnd t), cut t (fEnd t + 1) (if 0 < fEnd t then eEnd t (fEnd t) else fEnd t), if 0 < fEnd t then eEnd t (fEnd t) else fEnd t⟩
def nous (l : List Nat) : List Nat := l.filter (· != 95)
def noz (l : List Nat) : List Nat := l.dropWhile (· == 48)
def nosg (l : List Nat) : List Nat := l.dropWhile fun c => c == 43 || c == 45
def pwD (x : List Nat) : List Nat := noz (nosg (nous x))
def pwN (x : List Nat) : Int := if pwD x = [] then 0 else ((NumText.digitsVal ((pwD x).take 10) : Nat) : Int)
def pwV (x : List Nat) : Int := if x.head? = some 45 then -pwN x else pwN x
/-! ### the rules' own texts -/
theorem sw3 (t : List Nat) (c e : Nat) : Txt.startswith3 (S t) (S [c]) (e : Int) = decide (t[e]? = some c) := by
  have hf : fromIndex (S t).length (e : Int) = e := by
    show (max 0 (if (e : Int) < 0 then (e : Int) + (S t).length else (e : Int))).toNat = e
    rw [if_neg (by omega)]
    omega
  unfold Txt.startswith3
  rw [hf, PySem.StrLaws.subAt_eq, S_len, S_len]
  show (decide (e + 1 ≤ t.length) && ((t.drop e).take 1 == [c])) = _
  cases h : t[e]? with
  | none =>
    have : t.length ≤ e := List.getElem?_eq_none_iff.mp h
    rw [List.drop_eq_nil_of_le this]
    simp
  | some d =>
    have hl : e < t.length := (List.getElem?_eq_some_iff.mp h).1
    have ec : t[e] = d := (List.getElem?_eq_some_iff.mp h).2
    rw [List.drop_eq_getElem_cons hl, ec, decide_eq_true (show e + 1 ≤ t.length by omega)]
    by_cases q : d = c
    · subst q; simp
    · simp [q]
theorem cutS_S (t : List Nat) (a b : Nat) : cutS (S t) (some (a : Int)) (some (b : Int)) = S (cut t a b) := by
  show (⟨((t.drop (HT.sIx (S t).length 0 (some (a : Int)))).take (HT.sIx (S t).length (S t).length (some (b : Int)) - HT.sIx (S t).length 0 (some (a : Int)))).toArray⟩ : Str) = _
  rw [HT.sIx_nat, HT.sIx_nat, S_len]
  unfold cut
  congr 2
  rcases Nat.le_total a t.length with h | h
  · rw [Nat.min_eq_left h]
    rcases Nat.le_total b t.length with h2 | h2
    · rw [Nat.min_eq_left h2]
    · rw [Nat.min_eq_right h2, List.take_of_length_le (by simp), List.take_of_length_le (by simp; omega)]
  · rw [Nat.min_eq_right h, List.drop_eq_nil_of_le (Nat.le_refl _), List.drop_eq_nil_of_le h]
    simp
theorem cutS_to (t : List Nat) (b : Nat) : cutS (S t) none (some (b : Int)) = S (t.take b) := by
  show (⟨((t.drop 0).take (HT.sIx (S t).length (S t).length (some (b : Int)) - 0)).toArray⟩ : Str) = _
  rw [HT.sIx_nat, S_len, List.drop_zero, Nat.sub_zero]
  congr 2
  rcases Nat.le_total b t.length with h2 | h2
  · rw [Nat.min_eq_left h2]
  · rw [Nat.min_eq_right h2, List.take_of_length_le (Nat.le_refl _), List.take_of_length_le h2]
theorem cutS_from (t : List Nat) (a : Nat) : cutS (S t) (some (a : Int)) none = S (t.drop a) := by
  show (⟨((t.drop (HT.sIx (S t).length 0 (some (a : Int)))).take ((S t).length - HT.sIx (S t).length 0 (some (a : Int)))).toArray⟩ : Str) = _
  rw [HT.sIx_nat, S_len]
  congr 1
  rcases Nat.le_total a t.length with h | h
  · rw [Nat.min_eq_left h, List.take_of_length_le (by simp)]
  · rw [Nat.min_eq_right h, List.drop_eq_nil_of_le (Nat.le_refl _), List.drop_eq_nil_of_le h]
    simp
theorem one_sign (t : List Nat) (a : Nat) : cut t a (a + 1) = match t[a]? with | some c => [c] | none => [] := by
  unfold cut
  cases h : t[a]? with
  | none =>
    have : t.length ≤ a := List.getElem?_eq_none_iff.mp h
    rw [List.drop_eq_nil_of_le this]
    simp
  | some d =>
    have hl : a < t.length := (List.getElem?_eq_some_iff.mp h).1
    have ec : t[a] = d := (List.getElem?_eq_some_iff.mp h).2
    rw [List.drop_eq_getElem_cons hl, ec]
    simp
theorem in_two (t : List Nat) (a c d : Nat) : inV (.str (S (cut t a (a + 1)))) [.str (S [c]), .str (S [d])] = (t[a]? == some c || t[a]? == some d) := by
  rw [one_sign]
  show ((S [c] == _) || ((S [d] == _) || false)) = _
  cases h : t[a]? with
  | none =>
    rw [S_beq, S_beq]
    rfl
  | some e =>
    rw [S_beq, S_beq, Bool.or_false]
    by_cases h1 : c = e
    · subst h1; simp
    · by_cases h2 : d = e
      · subst h2; simp
      · have h1' : ¬ e = c := fun z => h1 z.symm
        have h2' : ¬ e = d := fun z => h2 z.symm
        have a1 : (c == e) = false := beq_eq_false_iff_ne.mpr h1
        have a2 : (d == e) = false := beq_eq_false_iff_ne.mpr h2
        have a3 : (e == c) = false := beq_eq_false_iff_ne.mpr h1'
        have a4 : (e == d) = false := beq_eq_false_iff_ne.mpr h2'
        simp [a1, a2, a3, a4]
theorem repl_S (l : List Nat) : Txt.replace (S l) (S [95]) (S []) = S (nous l) := TL.ext_tl (replace_strikes (S l) 95)
theorem dw_take (p : Nat → Bool) : ∀ l : List Nat, l.drop (l.takeWhile p).length = l.dropWhile p
  | [] => rfl
  | c :: r => by
    rw [List.takeWhile_cons, List.dropWhile_cons]
    split
    · simpa using dw_take p r
    · rfl
theorem lst_S (l b : List Nat) : Txt.lstripChars (S l) (S b) = S (l.dropWhile fun c => b.contains c) := by
  unfold Txt.lstripChars
  rw [stripBy_eq]
  refine TL.ext_tl ?_
  show ((S l).cps.extract ((l.takeWhile ((S b).cps.contains)).length) (S l).length).toList = l.dropWhile fun c => b.contains c
  have e : ((S b).cps.contains) = (fun c => b.contains c) := by
    funext c
    simp [S]
  rw [e, ← dw_take, Array.toList_extract, List.extract_eq_take_drop]
  show (l.drop _).take ((S l).length - _) = _
  rw [S_len, List.take_of_length_le (by simp)]
theorem lst_z (l : List Nat) : Txt.lstripChars (S l) (S [48]) = S (noz l) := by
  rw [lst_S]
  unfold noz
  congr 2
  funext c
  rw [Bool.eq_iff_iff]
  simp
theorem lst_sg (l : List Nat) : Txt.lstripChars (S l) (S [43, 45]) = S (nosg l) := by
  rw [lst_S]
  unfold nosg
  congr 2
  funext c
  rw [Bool.eq_iff_iff]
  simp
theorem sw_S (l : List Nat) (c : Nat) : Txt.startswith (S l) (S [c]) = decide (l.head? = some c) := by
  unfold Txt.startswith
  rw [PySem.StrLaws.subAt_eq, S_len, S_len]
  show (decide (0 + 1 ≤ l.length) && ((l.drop 0).take 1 == [c])) = _
  cases l with
  | nil => rfl
  | cons d r =>
    by_cases q : d = c
    · subst q; simp
    · simp [q]
theorem noz_len (l : List Nat) : (noz l).length ≤ l.length := (List.dropWhile_sublist _).length_le
theorem nous_len (l : List Nat) : (nous l).length ≤ l.length := List.length_filter_le _ _
theorem nous_digs {l : List Nat} (h : l.all dig = true) : nous l = l := by
  refine List.filter_eq_self.mpr fun c hc => ?_
  have := dig_iff.mp (List.all_eq_true.mp h c hc)
  rw [bne_iff_ne]
  omega
theorem cut_len (t : List Nat) (a b : Nat) : (cut t a b).length ≤ t.length := by
  unfold cut
  rw [List.length_take, List.length_drop]
  omega
end KN

namespace KN
open PySem PySem.Spec PyProof.Rows L2 SX
abbrev sDE : Stmt := topS 15
abbrev sHD : Stmt := topS 16
abbrev sEE : Stmt := topS 17
abbrev sDec : Stmt := topS 14
theorem scDE : FnScope ["text", "at", "end"] ["text", "at"] (defScope sDE) := ⟨rfl, rfl, rfl, by decide +kernel, rfl, by decide +kernel, by decide +kernel⟩
theorem scHD : FnScope ["text", "at"] ["text", "at"] (defScope sHD) := ⟨rfl, rfl, rfl, by decide +kernel, rfl, by decide +kernel, by decide +kernel⟩
theorem scEE : FnScope ["text", "at", "begin", "end"] ["text", "at"] (defScope sEE) := ⟨rfl, rfl, rfl, by decide +kernel, rfl, by decide +kernel, by decide +kernel⟩
theorem scDec : FnScope ["text", "at", "whole_end", "end", "whole", "fraction", "exponent_end"] ["text", "at"] (defScope sDec) := ⟨rfl, rfl, rfl, by decide +kernel, rfl, by decide +kernel, by decide +kernel⟩
theorem l46 : Str.ofString "." = S [46] := by decide +kernel
theorem l95 : Str.ofString "_" = S [95] := by decide +kernel
theorem l0 : Str.ofString "" = S [] := by decide +kernel
theorem l48 : Str.ofString "0" = S [48] := by decide +kernel
theorem l45 : Str.ofString "-" = S [45] := by decide +kernel
theorem l43 : Str.ofString "+" = S [43] := by decide +kernel
theorem lsg : Str.ofString "+-" = S [43, 45] := by decide +kernel
theorem l101 : Str.ofString "e" = S [101] := by decide +kernel
theorem l69 : Str.ofString "E" = S [69] := by decide +kernel
theorem ldg : Str.ofString "0123456789" = S [48, 49, 50, 51, 52, 53, 54, 55, 56, 57] := by decide +kernel
theorem dig_in (c : Nat) : decide (c ∈ (S [48, 49, 50, 51, 52, 53, 54, 55, 56, 57]).cps.toList) = dig c := by
  show decide (c ∈ [48, 49, 50, 51, 52, 53, 54, 55, 56, 57]) = dig c
  cases h : dig c with
  | true =>
    have := dig_iff.mp h
    refine decide_eq_true ?_
    simp only [List.mem_cons, List.not_mem_nil, or_false]
    omega
  | false =>
    refine decide_eq_false fun z => ?_
    simp only [List.mem_cons, List.not_mem_nil, or_false] at z
    have : dig c = true := dig_iff.mpr (by omega)
    rw [h] at this
    cases this
def spHD : Sp := fun vs H Q _ => ∃ (t : List Nat) (a : Nat), vs = [.str (S t), .int (a : Int)] ∧ t.length ≤ 2000 ∧ Q (.bl (hasD t a)) H
def spDE : Sp := fun vs H Q _ => ∃ (t : List Nat) (a : Nat), vs = [.str (S t), .int (a : Int)] ∧ t.length ≤ 2000 ∧ Q (.int ((dEnd t a : Nat) : Int)) H
def spEE : Sp := fun vs H Q _ => ∃ (t : List Nat) (a : Nat), vs = [.str (S t), .int (a : Int)] ∧ t.length ≤ 2000 ∧ ∀ H', Same H H' → Q (.int ((eEnd t a : Nat) : Int)) H'
def spDec : Sp := fun vs H Q _ => ∃ (t : List Nat), vs = [.str (S t), .int 0] ∧ t.length ≤ 2000 ∧
  ∀ H' p, Same H H' → H' p = some (.tup [.str (S (dec t).w), .str (S (dec t).f), .str (S (dec t).x), .int ((dec t).e : Int)]) → Q (.ref p) H'
theorem szS {t : List Nat} (h : t.length ≤ 2000) : (S t).length ≤ sizeLine := by
  rw [S_len]
  have : (2000 : Nat) ≤ sizeLine := by decide
  omega
section
variable {P : Program} {w : World} {K : PySem.W.Frag} {mg : Str → Option Value} {base : Heap}
theorem ok_hd {f : Addr} {fd : FuncData} (F : Fun K "_has_digit" "_has_digit" sHD f fd) (ml : mg "len" = none) (md : ∃ t, mg "DIGITS" = some (.str "0123456789" t)) : FnOk P w K mg base CX0 1 f fd ["text", "at"] spHD := by
  refine F.ok scHD (fun vs H Q E h => ?_) (fun cdv A outer s H vs Q E hr h => ?_)
  · obtain ⟨t, a, rfl, _⟩ := h
    rfl
  obtain ⟨t, a, rfl, hl, q⟩ := h
  obtain ⟨tk, md⟩ := md
  refine ⟨_, pss_one (ps_ret (pe_and (pe_cmpR op_lt (pv 1) (pe_callB call_len_str rfl ml PySem.boot_len (pa_cons (pv 0) pa_nil)) (nomark _))
    (pe_one (pe_cmpR op_in_sign (pe_ix ix_str (pv 0) (pv 1) (fun _ _ => rfl)) (pe_glob (v := .str "0123456789") rfl md ⟨tk, rfl⟩) (by rfl))))), ?_⟩
  refine ⟨_, rfl, _, rfl, _, rfl, szS hl, _, _, rfl, rfl, _, rfl, ?_⟩
  rw [S_len]
  refine ite2 (fun c => ?_) (fun c => ?_)
  · have c' : a < t.length := by
      have : (a : Int) < (t.length : Int) := by simpa using c
      omega
    refine ⟨_, rfl, _, rfl, _, _, _, rfl, rfl, szS hl, atI_nat (List.getElem?_eq_getElem c'), _, _, rfl, rfl, ?_⟩
    have e : hasD t a = dig t[a] := by
      unfold hasD
      rw [List.getElem?_eq_getElem c']
      rfl
    rw [e, ← dig_in] at q
    rw [ldg]
    exact q
  · have c' : t.length ≤ a := by
      have : ¬ (a : Int) < (t.length : Int) := by simpa using c
      omega
    have e : hasD t a = false := by
      unfold hasD
      rw [List.getElem?_eq_none c']
      rfl
    rw [e] at q
    exact q
theorem ok_de {f g : Addr} {fd gd : FuncData} (F : Fun K "digits_end" "digits_end" sDE f fd) (D : FnOk P w K mg base CX0 1 g gd ["text", "at"] spHD) (bD : Binds K gd ["text", "at"] []) (kD : PySem.W.keepIn K (.ref g) = true) (mD : mg "_has_digit" = some (.ref g)) :
    FnOk P w K mg base CX0 2 f fd ["text", "at"] spDE := by
  refine F.ok scDE (fun vs H Q E h => ?_) (fun cdv A outer s H vs Q E hr h => ?_)
  · obtain ⟨t, a, rfl, _⟩ := h
    rfl
  obtain ⟨t, a, rfl, hl, q⟩ := h
  refine ⟨_, pss_cons (ps_set (i := 2) scDE.nd rfl (.inl rfl) (pv 1))
    (C8.pss_cut (ps_while PassesOwn.never (PW.pt (pw_or (pt_val (pe_call D hr rfl mD kD bD .nil pass0 (pa_cons (pv 0) (pa_cons (pv 2) pa_nil))))
        (pw_or1 (PW.pt (pw_and (pt_cmpR op_gt (pv 2) (pv 1) (nomark _))
          (pw_and (pt_val (pe_bm PySem.F.plainAttrs_str PySem.F.slot_str_startswith PySem.F.type_str_startswith mt_startswith3 (pv 0) (pa_cons pe_str (pa_cons (pv 2) pa_nil))))
          (pw_and1 (pt_val (pe_call D hr rfl mD kD bD .nil pass0 (pa_cons (pv 0) (pa_cons (pe_op op_add (pv 2) pe_int) pa_nil)))))))))))
      (pss_one (ps_aug (i := 2) scDE.nd rfl (.inl rfl) pe_int ip_add)))
    (pss_one (ps_ret (pv 2)))), ?_⟩
  have hd : digO none = false := rfl
  refine ⟨_, rfl, fun σ H1 => σ = [some (.str (S t)), some (.int (a : Int)), some (.int ((dEnd t a : Nat) : Int))] ∧ H1 = H, ?_, ?_⟩
  · refine ⟨fun n σ H1 => ∃ e : Nat, σ = [some (.str (S t)), some (.int (a : Int)), some (.int (e : Int))] ∧ H1 = H ∧ (a ≤ e ∧ e + run (decide (a < e)) (t.drop e) = dEnd t a) ∧ n = t.length - e, ⟨_, a, rfl, rfl, ⟨Nat.le_refl a, ?_⟩, rfl⟩, ?_⟩
    · rw [decide_eq_false (Nat.lt_irrefl a)]
      rfl
    rintro n σ H1 ⟨e, rfl, rfl, ⟨hae, he⟩, rfl⟩
    have hs := run_at t a e _ rfl
    have up : (digO t[e]? || (decide (a < e) && (usO t[e]? && digO t[e + 1]?))) = true → ∃ x, x < t.length - e ∧ ∃ e' : Nat, [some (V.str (S t)), some (V.int (a : Int)), some (V.int ((e : Int) + 1))] = [some (V.str (S t)), some (V.int (a : Int)), some (V.int (e' : Int))] ∧ H1 = H1 ∧ (a ≤ e' ∧ e' + run (decide (a < e')) (t.drop e') = dEnd t a) ∧ x = t.length - e' := fun c => by
      rw [if_pos c] at hs
      have le : e < t.length := by
        rcases Nat.lt_or_ge e t.length with z | z
        · exact z
        · rw [List.getElem?_eq_none z] at c
          simp [digO, usO] at c
      refine ⟨_, (by omega : t.length - (e + 1) < t.length - e), e + 1, rfl, rfl, ⟨by omega, ?_⟩, rfl⟩
      rw [decide_eq_true (show a < e + 1 by omega)]
      omega
    have no : ¬ (digO t[e]? || (decide (a < e) && (usO t[e]? && digO t[e + 1]?))) = true → e = dEnd t a := fun c => by
      rw [if_neg c] at hs
      omega
    refine ⟨_, rfl, _, rfl, t, e, rfl, hl, _, rfl, ?_⟩
    refine ite2 (fun c => ?_) (fun c => ?_)
    · have c0 : digO t[e]? = true := c
      refine ⟨fun σ' H' => ∃ x, x < t.length - e ∧ ∃ e' : Nat, σ' = [some (V.str (S t)), some (V.int (a : Int)), some (V.int (e' : Int))] ∧ H' = H1 ∧ (a ≤ e' ∧ e' + run (decide (a < e')) (t.drop e') = dEnd t a) ∧ x = t.length - e', fun σ' H' z => z, ?_⟩
      exact ⟨_, rfl, _, _, rfl, rfl, up (by rw [c0]; rfl)⟩
    · have c0 : digO t[e]? = false := by
        cases z : digO t[e]? with
        | false => rfl
        | true => exact absurd z c
      have stay : ∀ b : Bool, (digO t[e]? || (decide (a < e) && (usO t[e]? && digO t[e + 1]?))) = false → [some (V.str (S t)), some (V.int (a : Int)), some (V.int (e : Int))] = [some (V.str (S t)), some (V.int (a : Int)), some (V.int ((dEnd t a : Nat) : Int))] ∧ H1 = H1 := fun _ c => by
        rw [← no (by rw [c]; decide)]
        exact ⟨rfl, rfl⟩
      refine ⟨_, rfl, _, rfl, _, _, rfl, rfl, _, rfl, ite2 (fun c2 => ?_) (fun c2 => ?_)⟩
      · have c2' : decide (a < e) = true := by
          have : (a : Int) < (e : Int) := by simpa using c2
          exact decide_eq_true (by omega)
        refine ⟨_, rfl, rfl, _, rfl, _, _, _, rfl, rfl, ?_⟩
        rw [l95, sw3]
        refine ⟨_, rfl, ite2 (fun c3 => ?_) (fun c3 => ?_)⟩
        · have c3' : usO t[e]? = true := by
            unfold usO
            rw [of_decide_eq_true c3]
            rfl
          refine ⟨_, rfl, _, rfl, _, _, rfl, rfl, t, e + 1, rfl, hl, _, rfl, ite2 (fun c4 => ?_) (fun c4 => ?_)⟩
          · have c4' : digO t[e + 1]? = true := c4
            refine ⟨fun σ' H' => ∃ x, x < t.length - e ∧ ∃ e' : Nat, σ' = [some (V.str (S t)), some (V.int (a : Int)), some (V.int (e' : Int))] ∧ H' = H1 ∧ (a ≤ e' ∧ e' + run (decide (a < e')) (t.drop e') = dEnd t a) ∧ x = t.length - e', fun σ' H' z => z, ?_⟩
            exact ⟨_, rfl, _, _, rfl, rfl, up (by rw [c2', c3', c4']; simp)⟩
          · have c4' : digO t[e + 1]? = false := by
              cases z : digO t[e + 1]? with
              | false => rfl
              | true => exact absurd z c4
            exact stay true (by rw [c0, c4']; simp)
        · have c3' : usO t[e]? = false := by
            cases z : usO t[e]? with
            | false => rfl
            | true => exact absurd (decide_eq_true (by unfold usO at z; exact eq_of_beq z)) c3
          exact iteF (stay true (by rw [c0, c3']; simp))
      · have c2' : decide (a < e) = false := by
          have : ¬ (a : Int) < (e : Int) := by simpa using c2
          exact decide_eq_false (by omega)
        exact iteF (stay true (by rw [c0, c2']; simp))
  · rintro σ H1 ⟨rfl, rfl⟩
    exact ⟨_, rfl, q⟩
theorem ok_ee {f g : Addr} {fd gd : FuncData} (F : Fun K "_exponent_end" "_exponent_end" sEE f fd) (D : FnOk P w K mg base CX0 2 g gd ["text", "at"] spDE) (bD : Binds K gd ["text", "at"] []) (kD : PySem.W.keepIn K (.ref g) = true) (mD : mg "digits_end" = some (.ref g)) :
    FnOk P w K mg base CX0 3 f fd ["text", "at"] spEE := by
  refine F.ok scEE (fun vs H Q E h => ?_) (fun cdv A outer s H vs Q E hr h => ?_)
  · obtain ⟨t, a, rfl, _⟩ := h
    rfl
  obtain ⟨t, a, rfl, hl, q⟩ := h
  refine ⟨_, pss_cons (ps_if (pt_cmpR op_notIn_seq (pe_slice sl_str (pv 0) (po_some (pv 1)) (po_some (pe_op op_add (pv 1) pe_int))) (pe_tup (pa_cons pe_str (pa_cons pe_str pa_nil))) (by rfl)) (pss_one (ps_ret (pv 1))) pss_nil)
    (C8.pss_cut (ps_set (i := 2) scEE.nd rfl (.inl rfl) (pe_ifExp (pt_cmpR op_in_seq (pe_slice sl_str (pv 0) (po_some (pe_op op_add (pv 1) pe_int)) (po_some (pe_op op_add (pv 1) pe_int))) (pe_tup (pa_cons pe_str (pa_cons pe_str pa_nil))) (by rfl)) (pe_op op_add (pv 1) pe_int) (pe_op op_add (pv 1) pe_int)))
    (pss_cons (ps_set (i := 3) scEE.nd rfl (.inl rfl) (pe_call D hr rfl mD kD bD .nil pass0 (pa_cons (pv 0) (pa_cons (pv 2) pa_nil))))
    (pss_one (ps_ret (pe_ifExp (pt_cmpR op_gt (pv 3) (pv 2) (nomark _)) (pv 3) (pv 1)))))), ?_⟩
  refine ⟨_, rfl, _, rfl, _, rfl, _, rfl, _, _, rfl, rfl, _, rfl, ?_⟩
  refine ⟨_, rfl, szS hl, ?_⟩
  have e1 : (a : Int) + 1 = ((a + 1 : Nat) : Int) := by omega
  have e2 : (a : Int) + 2 = ((a + 2 : Nat) : Int) := by omega
  rw [e1, cutS_S]
  refine ⟨by show 2 ≤ sizeLine; decide, fun p hp => ⟨p, _, rfl, .inr (SqT.of upd_same), rfl, rfl, ?_⟩⟩
  rw [l101, l69]
  show ∃ k, V.bl (!inV (.str (S (cut t a (a + 1)))) [.str (S [101]), .str (S [69])]) = V.bl k ∧ _
  rw [in_two]
  have s1 : Same H (upd H p (.tup [V.str (S [101]), V.str (S [69])])) := same_new hp
  generalize upd H p (.tup [V.str (S [101]), V.str (S [69])]) = H1 at s1 ⊢
  refine ⟨_, rfl, ite2 (fun c => ?_) (fun c => ?_)⟩
  · have c' : isE t[a]? = false := by
      cases z : isE t[a]? with
      | false => rfl
      | true =>
        have z' : (t[a]? == some 101 || t[a]? == some 69) = true := z
        rw [z'] at c
        exact absurd c (by decide)
    refine ⟨_, rfl, ?_⟩
    have e : eEnd t a = a := by unfold eEnd; rw [c']; rfl
    rw [e] at q
    exact q _ s1
  have c' : isE t[a]? = true := by
    cases z : isE t[a]? with
    | true => rfl
    | false =>
      have z' : (t[a]? == some 101 || t[a]? == some 69) = false := z
      rw [z'] at c
      exact absurd rfl c
  have e : eEnd t a = if eBeg t a < dEnd t (eBeg t a) then dEnd t (eBeg t a) else a := by unfold eEnd; rw [c']; rfl
  rw [e] at q
  refine ⟨fun σ H2 => σ = [some (.str (S t)), some (.int (a : Int)), some (.int ((eBeg t a : Nat) : Int)), none] ∧ Same H1 H2, ?_, ?_⟩
  · refine ⟨_, rfl, _, rfl, _, _, rfl, rfl, _, rfl, _, rfl, _, _, rfl, rfl, _, rfl, _, rfl, szS hl, ?_⟩
    rw [e1, e2, cutS_S]
    refine ⟨by show 2 ≤ sizeLine; decide, fun p2 hp2 => ⟨p2, _, rfl, .inr (SqT.of upd_same), rfl, rfl, ?_⟩⟩
    rw [l43, l45]
    show ∃ k, V.bl (inV (.str (S (cut t (a + 1) (a + 1 + 1)))) [.str (S [43]), .str (S [45])]) = V.bl k ∧ _
    rw [in_two]
    refine ⟨_, rfl, ite2 (fun c => ?_) (fun c => ?_)⟩
    · have c' : isSg t[a + 1]? = true := c
      have e : eBeg t a = a + 2 := by unfold eBeg; rw [c']; rfl
      rw [e]
      exact ⟨_, rfl, _, _, rfl, rfl, rfl, same_new hp2⟩
    · have c' : isSg t[a + 1]? = false := by
        cases z : isSg t[a + 1]? with
        | false => rfl
        | true => exact absurd z c
      have e : eBeg t a = a + 1 := by unfold eBeg; rw [c']; rfl
      rw [e]
      exact ⟨_, rfl, _, _, rfl, rfl, rfl, same_new hp2⟩
  · rintro σ H2 ⟨rfl, s2⟩
    have q := q _ (s1.trans s2)
    refine ⟨_, rfl, _, rfl, t, eBeg t a, rfl, hl, _, rfl, _, rfl, _, _, rfl, rfl, _, rfl, ite2 (fun c => ?_) (fun c => ?_)⟩
    · have c' : eBeg t a < dEnd t (eBeg t a) := by
        have : ((eBeg t a : Nat) : Int) < ((dEnd t (eBeg t a) : Nat) : Int) := by simpa using c
        omega
      rw [if_pos c'] at q
      exact ⟨_, rfl, q⟩
    · have c' : ¬ eBeg t a < dEnd t (eBeg t a) := fun z => c (decide_eq_true (by omega))
      rw [if_neg c'] at q
      exact ⟨_, rfl, q⟩
end
end KN

namespace KN
open PySem PySem.Spec PyProof.Rows L2 SX
section
variable {P : Program} {w : World} {K : PySem.W.Frag} {mg : Str → Option Value} {base : Heap}
theorem ok_dec {f g e : Addr} {fd gd ed : FuncData} (F : Fun K "decimal_at" "decimal_at" sDec f fd) (D : FnOk P w K mg base CX0 2 g gd ["text", "at"] spDE) (bD : Binds K gd ["text", "at"] []) (kD : PySem.W.keepIn K (.ref g) = true) (mD : mg "digits_end" = some (.ref g))
    (X : FnOk P w K mg base CX0 3 e ed ["text", "at"] spEE) (bX : Binds K ed ["text", "at"] []) (kX : PySem.W.keepIn K (.ref e) = true) (mX : mg "_exponent_end" = some (.ref e)) :
    FnOk P w K mg base CX0 4 f fd ["text", "at"] spDec := by
  refine F.ok scDec (fun vs H Q E h => ?_) (fun cdv A outer s H vs Q E hr h => ?_)
  · obtain ⟨t, rfl, _⟩ := h
    rfl
  obtain ⟨t, rfl, hl, q⟩ := h
  have hr2 := hr.mono (show 2 ≤ 3 by decide)
  refine ⟨_, pss_cons (ps_set (i := 2) scDec.nd rfl (.inl rfl) (pe_call D hr2 rfl mD kD bD .nil pass0 (pa_cons (pv 0) (pa_cons (pv 1) pa_nil))))
    (pss_cons (ps_set (i := 3) scDec.nd rfl (.inl rfl) (pv 2))
    (C8.pss_cut (ps_if (pt_val (pe_bm PySem.F.plainAttrs_str PySem.F.slot_str_startswith PySem.F.type_str_startswith mt_startswith3 (pv 0) (pa_cons pe_str (pa_cons (pv 3) pa_nil))))
      (pss_one (ps_set (i := 3) scDec.nd rfl (.inl rfl) (pe_call D hr2 rfl mD kD bD .nil pass0 (pa_cons (pv 0) (pa_cons (pe_op op_add (pv 3) pe_int) pa_nil))))) pss_nil)
    (pss_cons (ps_if (PW.pt (pw_and (pt_cmpR op_eq (pv 3) (pe_op op_add (pv 2) pe_int) (nomark _)) (pw_and1 (pt_cmpR op_eq (pv 2) (pv 1) (nomark _)))))
      (pss_one (ps_ret (pe_tup (pa_cons pe_str (pa_cons pe_str (pa_cons pe_str (pa_cons (pv 1) pa_nil))))))) pss_nil)
    (pss_cons (ps_par (by rfl) scDec.nd (i := 4) (j := 5) rfl rfl (by decide) rfl rfl
      (pa_cons (pe_slice sl_str (pv 0) (po_some (pv 1)) (po_some (pv 2))) (pa_cons (pe_slice sl_str (pv 0) (po_some (pe_op op_add (pv 2) pe_int)) (po_some (pv 3))) pa_nil)) (by rfl))
    (C8.pss_cut (ps_set (i := 6) scDec.nd rfl (.inl rfl) (pe_ifExp (pt_cmpR op_gt (pv 3) (pv 1) (nomark _)) (pe_call X hr rfl mX kX bX .nil pass0 (pa_cons (pv 0) (pa_cons (pv 3) pa_nil))) (pv 3)))
    (pss_one (ps_ret (pe_tup (pa_cons (pv 4) (pa_cons (pv 5) (pa_cons (pe_slice sl_str (pv 0) (po_some (pe_op op_add (pv 3) pe_int)) (po_some (pv 6))) (pa_cons (pv 6) pa_nil))))))))))))  , ?_⟩
  refine ⟨_, rfl, _, rfl, t, 0, rfl, hl, _, rfl, ?_⟩
  refine ⟨fun σ H1 => σ = [some (.str (S t)), some (.int 0), some (.int ((dEnd t 0 : Nat) : Int)), some (.int ((fEnd t : Nat) : Int)), none, none, none] ∧ H1 = H, ?_, ?_⟩
  · refine ⟨_, rfl, rfl, _, rfl, _, _, _, rfl, rfl, ?_⟩
    rw [l46, sw3]
    refine ⟨_, rfl, ite2 (fun c => ?_) (fun c => ?_)⟩
    · have e1 : ((dEnd t 0 : Nat) : Int) + 1 = ((dEnd t 0 + 1 : Nat) : Int) := by omega
      have e2 : fEnd t = dEnd t (dEnd t 0 + 1) := by unfold fEnd; rw [if_pos (of_decide_eq_true c)]
      rw [e2]
      exact ⟨_, rfl, _, rfl, _, _, rfl, rfl, t, dEnd t 0 + 1, rfl, hl, rfl, rfl⟩
    · have e2 : fEnd t = dEnd t 0 := by unfold fEnd; rw [if_neg (fun z => c (decide_eq_true z))]
      rw [e2]
      exact ⟨rfl, rfl⟩
  rintro σ H1 ⟨rfl, rfl⟩
  have ex : ∀ D : Dec, dec t = D → ∀ H' p, Same H1 H' → H' p = some (.tup [.str (S D.w), .str (S D.f), .str (S D.x), .int (D.e : Int)]) → Q (.ref p) H' := fun D e H' p s h => q H' p s (by rw [e]; exact h)
  have dT : fEnd t = dEnd t 0 + 1 ∧ dEnd t 0 = 0 → dec t = ⟨[], [], [], 0⟩ := fun c => by unfold dec; rw [if_pos c]
  have dF : ¬ (fEnd t = dEnd t 0 + 1 ∧ dEnd t 0 = 0) → dec t = ⟨cut t 0 (dEnd t 0), cut t (dEnd t 0 + 1) (fEnd t), cut t (fEnd t + 1) (if 0 < fEnd t then eEnd t (fEnd t) else fEnd t), if 0 < fEnd t then eEnd t (fEnd t) else fEnd t⟩ := fun c => by unfold dec; rw [if_neg c]
  have rest : ¬ (fEnd t = dEnd t 0 + 1 ∧ dEnd t 0 = 0) → _ := fun c => ex _ (dF c)
  clear q
  generalize dEnd t 0 = a at *
  generalize fEnd t = b at *
  have c1 : cutS (S t) (some 0) (some (a : Int)) = S (cut t 0 a) := cutS_S t 0 a
  have e1 : (a : Int) + 1 = ((a + 1 : Nat) : Int) := by omega
  have e2 : (b : Int) + 1 = ((b + 1 : Nat) : Int) := by omega
  have c2 : cutS (S t) (some ((a : Int) + 1)) (some (b : Int)) = S (cut t (a + 1) b) := by rw [e1, cutS_S]
  have tail : ¬ (b = a + 1 ∧ a = 0) → tSeq (tPar 4 5 (tCons (tSl rSlS (tVar 0) (tPart (tVar 1)) (tPart (tVar 2))) (tCons (tSl rSlS (tVar 0) (tPart (tOp (rI0 fun i j => V.int (i + j)) (tVar 2) (tC (V.int 1)))) (tPart (tVar 3))) tNil)))
      (C8.tCut (tAsg (tIf (tTest (tOp (rI0 fun i j => V.bl (decide (j < i))) (tVar 3) (tVar 1))) (tCall spEE [] E0 (tCons (tVar 0) (tCons (tVar 3) tNil))) (tVar 3)) (gName 6))
      (tSeq (tRet (tTup (tCons (tVar 4) (tCons (tVar 5) (tCons (tSl rSlS (tVar 0) (tPart (tOp (rI0 fun i j => V.int (i + j)) (tVar 3) (tC (V.int 1)))) (tPart (tVar 6))) (tCons (tVar 6) tNil)))))) tNext)) { nx := fun x H' => Q V.non H', rt := Q } [some (.str (S t)), some (.int 0), some (.int (a : Int)), some (.int (b : Int)), none, none, none] H1 := fun c => by
    have rest := rest c
    refine ⟨_, rfl, _, rfl, _, rfl, _, rfl, _, rfl, _, rfl, szS hl, _, rfl, _, rfl, _, _, rfl, rfl, _, rfl, _, rfl, _, rfl, _, rfl, szS hl, _, _, rfl, ?_⟩
    rw [c1, c2]
    refine ⟨fun σ H2 => σ = [some (.str (S t)), some (.int 0), some (.int (a : Int)), some (.int (b : Int)), some (.str (S (cut t 0 a))), some (.str (S (cut t (a + 1) b))), some (.int (((if 0 < b then eEnd t b else b) : Nat) : Int))] ∧ Same H1 H2, ?_, ?_⟩
    · refine ⟨_, rfl, _, rfl, _, _, rfl, rfl, _, rfl, ite2 (fun c => ?_) (fun c => ?_)⟩
      · have c' : 0 < b := by
          have : (0 : Int) < (b : Int) := by simpa using c
          omega
        rw [if_pos c']
        exact ⟨_, rfl, _, rfl, t, b, rfl, hl, fun H2 s2 => ⟨rfl, s2⟩⟩
      · have c' : ¬ 0 < b := fun z => c (decide_eq_true (by omega))
        rw [if_neg c']
        exact ⟨_, rfl, rfl, fun _ _ z => z⟩
    · rintro σ H2 ⟨rfl, s2⟩
      generalize (if 0 < b then eEnd t b else b) = z at rest ⊢
      have c3 : cutS (S t) (some ((b : Int) + 1)) (some (z : Int)) = S (cut t (b + 1) z) := by rw [e2, cutS_S]
      refine ⟨_, rfl, _, rfl, _, rfl, _, rfl, _, _, rfl, rfl, _, rfl, _, rfl, _, rfl, _, rfl, szS hl, _, rfl, by show 4 ≤ sizeLine; decide, fun p hp => ?_⟩
      rw [c3]
      exact rest _ p (s2.trans (same_new hp)) upd_same
  refine ⟨_, rfl, _, rfl, _, _, rfl, rfl, rfl, _, rfl, ?_⟩
  rw [dec_int]
  refine ite2 (fun c => ?_) (fun c => ?_)
  · have c' : b = a + 1 := by
      have : (b : Int) = (a : Int) + 1 := by simpa using c
      omega
    refine ⟨_, rfl, _, rfl, rfl, _, rfl, ?_⟩
    rw [dec_int]
    refine ite2 (fun c2 => ?_) (fun c2 => ?_)
    · have c2' : a = 0 := by
        have : (a : Int) = 0 := by simpa using c2
        omega
      refine ⟨_, rfl, by show 4 ≤ sizeLine; decide, fun p hp => ?_⟩
      have r := ex _ (dT ⟨c', c2'⟩) _ p (same_new (o := .tup [.str (S []), .str (S []), .str (S []), .int 0]) hp) upd_same
      rw [l0]
      exact r
    · have c2' : ¬ a = 0 := fun z => c2 (by rw [z]; rfl)
      exact tail (fun z => c2' z.2)
  · have c' : ¬ b = a + 1 := fun z => c (by rw [z]; simp)
    exact iteF (tail (fun z => c' z.1))
end
end KN

namespace KN
open PySem PySem.Spec PyProof.Rows L2 SX
abbrev sPw : Stmt := topS 18
theorem scPw : FnScope ["exponent", "digits", "power"] ["exponent"] (defScope sPw) := ⟨rfl, rfl, rfl, by decide +kernel, rfl, by decide +kernel, by decide +kernel⟩
def spPw : Sp := fun vs H Q _ => ∃ x : List Nat, vs = [.str (S x)] ∧ x.length ≤ 2000 ∧ (pwD x).all dig = true ∧ Q (.int (pwV x)) H
theorem pwD_len (x : List Nat) : (nosg (nous x)).length ≤ x.length ∧ (pwD x).length ≤ x.length := by
  have h1 := nous_len x
  have h2 : (nosg (nous x)).length ≤ (nous x).length := (List.dropWhile_sublist _).length_le
  have h3 : (pwD x).length ≤ (nosg (nous x)).length := noz_len _
  omega
theorem rsz {x : List Nat} (h : x.length ≤ 2000) : (S x).length + ((S x).length + 1) * (Str.ofString "").length ≤ 16777216 := by
  rw [l0, S_len, S_len]
  show x.length + (x.length + 1) * 0 ≤ _
  omega
section
variable {P : Program} {w : World} {K : PySem.W.Frag} {mg : Str → Option Value} {base : Heap}
theorem ok_pw {f : Addr} {fd : FuncData} (F : Fun K "_power_of" "_power_of" sPw f fd) (mi : mg "int" = none) : FnOkT P w K mg base CX0 1 f fd ["exponent"] spPw := by
  refine _root_.KN.Fun.okT F scPw (fun vs H Q E h => ?_) (fun cdv A outer s H vs Q E hr h => ?_)
  · obtain ⟨x, rfl, _⟩ := h
    rfl
  obtain ⟨x, rfl, hl, hd, q⟩ := h
  refine ⟨_, psst_cons (pst_asg (pet_bm PySem.F.plainAttrs_str PySem.F.slot_str_lstrip PySem.F.type_str_lstrip mt_lstripChars (pet_bm PySem.F.plainAttrs_str PySem.F.slot_str_lstrip PySem.F.type_str_lstrip mt_lstripChars (CwR.pet_replC (pv 0) (by decide +kernel)) (pa_cons pe_str pa_nil)) (pa_cons pe_str pa_nil)) (pg_name (i := 1) scPw.nd rfl (.inl rfl)))
    (PSsT.of (pss_cons (ps_set (i := 2) scPw.nd rfl (.inl rfl) (pe_ifExp (pt_truth (pv 1) (fun _ => rfl)) (pe_callTy call_int_str (by rfl) mi (by decide +kernel) (pa_cons (pe_slice sl_str (pv 1) po_none (po_some pe_int)) pa_nil)) pe_int))
    (pss_one (ps_ret (pe_ifExp (pt_val (pe_bm PySem.F.plainAttrs_str PySem.F.slot_str_startswith PySem.F.type_str_startswith mt_startswith (pv 0) (pa_cons pe_str pa_nil))) (pe_un un_neg (pv 2)) (pv 2)))))), ?_⟩
  obtain ⟨n1, n2⟩ := pwD_len x
  have h1 := nous_len x
  refine ⟨_, rfl, _, rfl, rsz hl, rfl, S (nous x), S [43, 45], by rw [l95, l0, repl_S], by rw [lsg], szS (by omega), rfl, S (nosg (nous x)), S [48], by rw [lst_sg], by rw [l48], szS (by omega), ?_⟩
  have eD : noz (nosg (nous x)) = pwD x := rfl
  rw [lst_z, eD]
  have key : ∀ p : Int, p = pwN x → tSeq (tRet (tIf (tB (tBM K "str" (fun x xs H Q => ∃ a b, x = .str a ∧ xs = [.str b] ∧ Q (.bl (Txt.startswith a b)) H) (tVar 0) (tCons (tC (V.str (Str.ofString "-"))) tNil))) (tUn (rU fun i => .int (-i)) (tVar 2)) (tVar 2))) tNext { nx := fun x H' => Q V.non H', rt := Q } [some (V.str (S x)), some (V.str (S (pwD x))), some (V.int p)] H := fun p e => by
    refine ⟨_, rfl, rfl, _, _, rfl, rfl, _, rfl, ?_⟩
    rw [l45, sw_S]
    refine ite2 (fun c => ?_) (fun c => ?_)
    · refine ⟨_, rfl, _, rfl, ?_⟩
      have e2 : pwV x = -p := by unfold pwV; rw [if_pos (of_decide_eq_true c), e]
      rw [e2] at q
      exact q
    · refine ⟨_, rfl, ?_⟩
      have e2 : pwV x = p := by unfold pwV; rw [if_neg (fun z => c (decide_eq_true z)), e]
      rw [e2] at q
      exact q
  refine ⟨_, rfl, _, ⟨szS (by omega), rfl⟩, ite2 (fun c => ?_) (fun c => ?_)⟩
  · have ne : pwD x ≠ [] := fun z => by
      have c : ((S (pwD x)).length : Int) ≠ 0 := by simpa using c
      rw [S_len, z] at c
      exact c rfl
    refine ⟨_, rfl, _, rfl, _, rfl, szS (by omega), S ((pwD x).take 10), _, ?_, int_S (a := (pwD x).take 10) ?_ ?_ ?_, ?_, ?_⟩
    · have := cutS_to (pwD x) 10
      rw [← this]
      rfl
    · rw [List.all_eq_true] at hd ⊢
      exact fun c hc => hd c (List.mem_of_mem_take hc)
    · intro z
      rw [List.take_eq_nil_iff] at z
      rcases z with z | z
      · cases z
      · exact ne z
    · rw [List.length_take]; omega
    · rw [S_len, List.length_take]; omega
    · exact key _ (by unfold pwN; rw [if_neg ne])
  · have ne : pwD x = [] := by
      have c : ((S (pwD x)).length : Int) = 0 := by simpa using c
      rw [S_len] at c
      exact List.length_eq_zero_iff.mp (by omega)
    exact key _ (by unfold pwN; rw [if_pos ne])
end
end KN

namespace KN
open PySem PySem.Spec PyProof.Rows L2 SX
abbrev sFo : Stmt := topS 13
theorem scFo : FnScope ["text", "whole", "fraction", "exponent", "end", "digits", "power"] ["text"] (defScope sFo) := ⟨rfl, rfl, rfl, by decide +kernel, rfl, by decide +kernel, by decide +kernel⟩
theorem ps_no {X : Cx} {st : Stmt} : PS X st (fun _ _ _ => False) := ⟨fun pins s σ H D I h => h.elim⟩
theorem pss_no {X : Cx} {sts : List Stmt} : PSs X sts (fun _ _ _ => False) := ⟨fun pins s σ H D I h => h.elim⟩
def digT (t : List Nat) : List Nat := noz (nous ((dec t).w ++ (dec t).f))
def valT (t : List Nat) : Nat := NumText.digitsVal (digT t)
def powT (t : List Nat) : Int := pwV (dec t).x - ((nous (dec t).f).length : Int)
structure GoodT (t : List Nat) : Prop where
  len : t.length ≤ 2000
  e0 : 0 < (dec t).e
  e1 : (dec t).e = t.length
  dg : (digT t).all dig = true
  dl : (digT t).length ≤ 60
  px : (pwD (dec t).x).all dig = true
theorem fold_dig : ∀ (l : List Nat) (a : Nat), l.all dig = true → a * 10 ^ l.length ≤ l.foldl (fun acc c => acc * 10 + (c - 48)) a ∧ l.foldl (fun acc c => acc * 10 + (c - 48)) a < (a + 1) * 10 ^ l.length
  | [], a, _ => by simp
  | c :: r, a, h => by
    rw [List.all_cons, Bool.and_eq_true] at h
    have hc := dig_iff.mp h.1
    obtain ⟨h1, h2⟩ := fold_dig r (a * 10 + (c - 48)) h.2
    rw [List.foldl_cons, List.length_cons, Nat.pow_succ]
    have p0 : 0 < 10 ^ r.length := Nat.pow_pos (by decide)
    generalize 10 ^ r.length = z at *
    have e1 : a * (z * 10) ≤ (a * 10 + (c - 48)) * z := by
      rw [Nat.mul_comm z 10, ← Nat.mul_assoc]
      exact Nat.mul_le_mul_right _ (by omega)
    have e2 : (a * 10 + (c - 48) + 1) * z ≤ (a + 1) * (z * 10) := by
      rw [Nat.mul_comm z 10, ← Nat.mul_assoc]
      exact Nat.mul_le_mul_right _ (by omega)
    exact ⟨by omega, by omega⟩
theorem val_lt {l : List Nat} (h : l.all dig = true) : NumText.digitsVal l < 10 ^ l.length := by
  have := (fold_dig l 0 h).2
  rw [Nat.zero_add, Nat.one_mul] at this
  exact this
theorem val_ge {l : List Nat} (h : l.all dig = true) (hn : l ≠ []) (hz : l.head? ≠ some 48) : 10 ^ (l.length - 1) ≤ NumText.digitsVal l := by
  obtain ⟨c, r, rfl⟩ := List.exists_cons_of_ne_nil hn
  have hc : c ≠ 48 := fun z => hz (by rw [z]; rfl)
  rw [List.all_cons, Bool.and_eq_true] at h
  have hd := dig_iff.mp h.1
  have h1 := (fold_dig r (0 * 10 + (c - 48)) h.2).1
  have e : (c :: r).length - 1 = r.length := by simp
  rw [e]
  show _ ≤ List.foldl _ _ r
  refine Nat.le_trans ?_ h1
  have : 1 * 10 ^ r.length ≤ (0 * 10 + (c - 48)) * 10 ^ r.length := Nat.mul_le_mul_right _ (by omega)
  omega
theorem noz_head (l : List Nat) : (noz l).head? ≠ some 48 := by
  unfold noz
  induction l with
  | nil => simp
  | cons c r ih =>
    rw [List.dropWhile_cons]
    split
    · exact ih
    · rename_i h
      intro z
      simp only [List.head?_cons, Option.some.injEq] at z
      exact h (by rw [z]; rfl)
theorem big_ok {l : List Nat} {p : Int} (h : l.all dig = true) (hn : l ≠ []) (hz : l.head? ≠ some 48) (dl : l.length ≤ 60) (hp : 330 < (l.length : Int) + p) : FloatOk (numA (NumText.digitsVal l) p) (numB p) 1 1024 := by
  refine .inf ?_
  have e : numB p = 1 := by
    unfold numB
    have : (-p).toNat = 0 := by omega
    rw [this, Nat.pow_zero]
  rw [e, Nat.mul_one]
  have g := val_ge h hn hz
  have n0 : 0 < l.length := List.length_pos_iff.mpr hn
  have h1 : 18014398509481983 * 2 ^ 970 ≤ 10 ^ 330 := by decide +kernel
  have h2 : 10 ^ 330 ≤ 10 ^ (l.length - 1 + p.toNat) := Nat.pow_le_pow_right (by decide) (by omega)
  rw [Nat.pow_add] at h2
  exact Nat.le_trans h1 (Nat.le_trans h2 (Nat.mul_le_mul_right _ g))
theorem small_ok {l : List Nat} {p : Int} (h : l.all dig = true) (hp : (l.length : Int) + p < -330) : FloatOk (numA (NumText.digitsVal l) p) (numB p) 0 0 := by
  refine .zero ?_
  have e : numA (NumText.digitsVal l) p = NumText.digitsVal l := by
    unfold numA
    have : p.toNat = 0 := by omega
    rw [this, Nat.pow_zero, Nat.mul_one]
  rw [e]
  have h1 : 2 ^ 1075 ≤ 10 ^ 331 := by decide +kernel
  have h2 := Nat.le_of_lt (val_lt h)
  have h3 : 10 ^ l.length * 10 ^ 331 ≤ 10 ^ (-p).toNat := by
    rw [← Nat.pow_add]
    exact Nat.pow_le_pow_right (by decide) (by omega)
  exact Nat.le_trans (Nat.mul_le_mul h2 h1) h3
theorem numA_lt18 {l : List Nat} {p : Int} (h : l.all dig = true) (dl : l.length ≤ 60) (hp : p ≤ 330) : numA (NumText.digitsVal l) p < 2 ^ 1800 := by
  have h1 : NumText.digitsVal l < 2 ^ 241 := Nat.lt_of_lt_of_le (val_lt h) (Nat.le_trans (Nat.pow_le_pow_right (by decide) dl) (Nat.le_of_lt (ten_lt 60)))
  have h2 : 10 ^ p.toNat ≤ 2 ^ 1321 := Nat.le_trans (Nat.pow_le_pow_right (by decide) (show p.toNat ≤ 330 by omega)) (Nat.le_of_lt (ten_lt 330))
  unfold numA
  calc NumText.digitsVal l * 10 ^ p.toNat ≤ NumText.digitsVal l * 2 ^ 1321 := Nat.mul_le_mul_left _ h2
    _ < 2 ^ 241 * 2 ^ 1321 := Nat.mul_lt_mul_of_pos_right h1 (Nat.two_pow_pos _)
    _ = 2 ^ 1562 := (Nat.pow_add 2 241 1321).symm
    _ ≤ 2 ^ 1800 := Nat.pow_le_pow_right (by decide) (by decide)
theorem numB_lt18 {p : Int} (hp : -400 ≤ p) : numB p < 2 ^ 1800 := Nat.lt_of_lt_of_le (ten_lt _) (Nat.pow_le_pow_right (by decide) (by omega))
theorem rsz4 {x : List Nat} (h : x.length ≤ 4000) : (S x).length + ((S x).length + 1) * (Str.ofString "").length ≤ 16777216 := by
  rw [l0, S_len, S_len]
  show x.length + (x.length + 1) * 0 ≤ _
  omega
theorem szS4 {t : List Nat} (h : t.length ≤ 4000) : (S t).length ≤ sizeLine := by
  rw [S_len]
  have : (4000 : Nat) ≤ sizeLine := by decide
  omega
theorem dec_len (t : List Nat) : (dec t).w.length ≤ t.length ∧ (dec t).f.length ≤ t.length ∧ (dec t).x.length ≤ t.length := by
  unfold dec
  split
  · exact ⟨Nat.zero_le _, Nat.zero_le _, Nat.zero_le _⟩
  · exact ⟨cut_len _ _ _, cut_len _ _ _, cut_len _ _ _⟩
def spFo (C : Addr) : Sp := fun vs H Q _ => ∃ t : List Nat, vs = [.str (S t)] ∧ GoodT t ∧ ∀ (H' : Hp) (x : Addr) (M E : Int), FloatOk (numA (valT t) (powT t)) (numB (powT t)) M E → Same H H' → FltAt C H' x M E → Q (.ref x) H'
section
variable {P : Program} {w : World} {K : PySem.W.Frag} {mg : Str → Option Value} {base : Heap}
theorem ok_fo {C fI f fD fW fT fR : Addr} {fdI fd gD gW gT gR : FuncData} (F : Fun K "float_of" "float_of" sFo f fd) (Z : FltC P w K mg base C fI fdI) (N : Nums mg) (mS : mg "isinstance" = none) (ms : mg "str" = none) (ml : mg "len" = none) (mi : mg "int" = none)
    (D : FnOk P w K mg base CX0 4 fD gD ["text", "at"] spDec) (bD : Binds K gD ["text", "at"] []) (kD : PySem.W.keepIn K (.ref fD) = true) (mD : mg "decimal_at" = some (.ref fD))
    (W : FnOkT P w K mg base CX0 1 fW gW ["exponent"] spPw) (bW : Binds K gW ["exponent"] []) (kW : PySem.W.keepIn K (.ref fW) = true) (mW : mg "_power_of" = some (.ref fW))
    (T : FnOk P w K mg base CX0 1 fT gT ["power"] spTen) (bT : Binds K gT ["power"] []) (kT : PySem.W.keepIn K (.ref fT) = true) (mT : mg "ten_to" = some (.ref fT))
    (R : FnOk P w K mg base CX0 3 fR gR ["above", "below"] (spNear C)) (bR : Binds K gR ["above", "below"] []) (kR : PySem.W.keepIn K (.ref fR) = true) (mR : mg "_nearest" = some (.ref fR)) :
    FnOk P w K mg base CX0 5 f fd ["text"] (spFo C) := by
  refine F.ok scFo (fun vs H Q E h => ?_) (fun cdv A outer s H vs Q E hr h => ?_)
  · obtain ⟨t, rfl, _⟩ := h
    rfl
  obtain ⟨t, rfl, G, q⟩ := h
  obtain ⟨tk3, ie⟩ := N.ie
  obtain ⟨tk4, mp⟩ := N.mp
  have hr1 := hr.mono (show 1 ≤ 4 by decide)
  have hr2 := hr.mono (show 2 ≤ 4 by decide)
  have hr3 := hr.mono (show 3 ≤ 4 by decide)
  refine ⟨_, pss_cons (ps_if (pt_not (pt_val (pe_callB call_isi (by rfl) mS (by decide +kernel) (pa_cons (pv 0) (pa_cons (pe_bltn (v := .ty "str") (by rfl) ms (by decide +kernel) rfl) pa_nil))))) (pss_one ps_no) pss_nil)
    (pss_cons1 (pe1_call D hr rfl mD kD bD .nil pass0 (pa1_cons (pv 0) (pa1_one pe1_int))) (pg_tup (by rfl) (pgs_cons (pg_name (i := 1) scFo.nd rfl (.inl rfl)) (pgs_cons (pg_name (i := 2) scFo.nd rfl (.inl rfl)) (pgs_cons (pg_name (i := 3) scFo.nd rfl (.inl rfl)) (pgs_cons (pg_name (i := 4) scFo.nd rfl (.inl rfl)) pgs_nil)))))
    (psst_cons (PSt.of (ps_if (PW.pt (pw_or (pt_cmpR op_eq (pv 4) pe_int (nomark _)) (pw_or1 (pt_cmpR op_lt (pv 4) (pe_callB call_len_str rfl ml PySem.boot_len (pa_cons (pv 0) pa_nil)) (nomark _))))) (pss_one ps_no) pss_nil))
    (psst_cons (pst_asg (pet_bm PySem.F.plainAttrs_str PySem.F.slot_str_lstrip PySem.F.type_str_lstrip mt_lstripChars (CwR.pet_replC (pe_op op_add_str (pv 1) (pv 2)) (by decide +kernel)) (pa_cons pe_str pa_nil)) (pg_name (i := 5) scFo.nd rfl (.inl rfl)))
    (psst_cons (PSt.of (ps_if (pt_not (pt_truth (pv 5) (fun _ => rfl))) (pss_one (ps_ret (pe_make Z.mkr Z.f hr2 rfl Z.g Z.b .nil pass0 (pa_cons pe_int (pa_cons pe_int pa_nil))))) pss_nil))
    (psst_cons (pst_asg (CwR.pet_op op_sub (pet_call W hr1 rfl mW kW bW .nil pass0 (pa_cons (pv 3) pa_nil)) (pet_callB call_len_str rfl ml PySem.boot_len (pat_one (CwR.pet_replC (pv 2) (by decide +kernel))))) (pg_name (i := 6) scFo.nd rfl (.inl rfl)))
    (PSsT.of (pss_cons (ps_if (pt_cmpR op_gt (pe_op op_add (pe_callB call_len_str rfl ml PySem.boot_len (pa_cons (pv 5) pa_nil)) (pv 6)) (pe_glob (v := .int 330) rfl mp ⟨tk4, rfl⟩) (nomark _)) (pss_one (ps_ret (pe_make Z.mkr Z.f hr2 rfl Z.g Z.b .nil pass0 (pa_cons pe_int (pa_cons (pe_glob (v := .int 1024) rfl ie ⟨tk3, rfl⟩) pa_nil))))) pss_nil)
    (pss_cons (ps_if (pt_cmpR op_lt (pe_op op_add (pe_callB call_len_str rfl ml PySem.boot_len (pa_cons (pv 5) pa_nil)) (pv 6)) (pe_un un_neg (pe_glob (v := .int 330) rfl mp ⟨tk4, rfl⟩)) (nomark _)) (pss_one (ps_ret (pe_make Z.mkr Z.f hr2 rfl Z.g Z.b .nil pass0 (pa_cons pe_int (pa_cons pe_int pa_nil))))) pss_nil)
    (pss_one (ps_ret (pe_call R hr3 rfl mR kR bR .nil pass0 (pa_cons (pe_op op_mulX (pe_callTy call_int_str (by rfl) mi (by decide +kernel) (pa_cons (pv 5) pa_nil)) (pe_call T hr1 rfl mT kT bT .nil pass0 (pa_cons (pv 6) pa_nil))) (pa_cons (pe_call T hr1 rfl mT kT bT .nil pass0 (pa_cons (pe_un un_neg (pv 6)) pa_nil)) pa_nil))))))))))))), ?_⟩
  obtain ⟨lw, lf, lx⟩ := dec_len t
  have glen := G.len
  have ge0 := G.e0
  have ge1 := G.e1
  have gdg := G.dg
  have gdl := G.dl
  refine ⟨_, rfl, _, _, _, _, true, rfl, .ty _, .base (.str _), kit_ty (by decide +kernel), _, rfl, iteF ?_⟩
  refine ⟨_, rfl, t, rfl, G.len, fun H1 p1 s1 h1 => ?_⟩
  refine ⟨p1, _, rfl, SqT.of h1, rfl, _, _, rfl, _, _, rfl, _, _, rfl, _, _, rfl, rfl, ?_⟩
  have q := fun H' x M E a s b => q H' x M E a (s1.trans s) b
  refine ⟨_, rfl, rfl, _, rfl, ite2 (fun c => ?_) (fun _ => ?_)⟩
  · exfalso
    rw [dec_int] at c
    have : ((dec t).e : Int) = 0 := by simpa using c
    omega
  refine ⟨_, rfl, _, rfl, _, rfl, szS glen, _, _, rfl, rfl, _, rfl, ite2 (fun c => ?_) (fun _ => ?_)⟩
  · exfalso
    have : ((dec t).e : Int) < ((S t).length : Int) := of_decide_eq_true c
    rw [S_len] at this
    omega
  have lwf : ((dec t).w ++ (dec t).f).length ≤ 4000 := by rw [List.length_append]; omega
  have ln := nous_len ((dec t).w ++ (dec t).f)
  have lsz : (S (dec t).w).length + (S (dec t).f).length ≤ sizeLine := by
    rw [S_len, S_len]
    have : (4000 : Nat) ≤ sizeLine := by decide
    omega
  refine ⟨_, rfl, _, rfl, _, _, rfl, rfl, lsz, S ((dec t).w ++ (dec t).f), by rw [S_cat], rsz4 lwf, rfl, S (nous ((dec t).w ++ (dec t).f)), S [48], by rw [l95, l0, repl_S], by rw [l48], szS4 (by omega), ?_⟩
  have eD : noz (nous ((dec t).w ++ (dec t).f)) = digT t := rfl
  rw [lst_z, eD]
  refine ⟨_, rfl, _, ⟨szS (by omega), rfl⟩, ite2 (fun c => ?_) (fun c => ?_)⟩
  · have ne : digT t = [] := by
      have c : ((S (digT t)).length : Int) = 0 := by simpa using c
      rw [S_len] at c
      exact List.length_eq_zero_iff.mp (by omega)
    refine made_flt fun H' x s2 _ hx => q H' x 0 0 (.zero ?_) s2 hx
    unfold valT
    rw [ne]
    unfold numA
    show 0 * 10 ^ _ * 2 ^ 1075 ≤ _
    rw [Nat.zero_mul, Nat.zero_mul]
    exact Nat.zero_le _
  have ne : digT t ≠ [] := fun z => by
    refine c ?_
    rw [z]
    rfl
  refine ⟨_, rfl, (dec t).x, rfl, by omega, G.px, _, rfl, _, rfl, rsz (by omega), S (nous (dec t).f), by rw [l95, l0, repl_S], szS (by have := nous_len (dec t).f; omega), _, _, rfl, rfl, ?_⟩
  have eP : pwV (dec t).x - ((S (nous (dec t).f)).length : Int) = powT t := by rw [S_len]; rfl
  dsimp only
  rw [eP]
  have hz : (digT t).head? ≠ some 48 := noz_head _
  have q : ∀ H' x M E, FloatOk (numA (NumText.digitsVal (digT t)) (powT t)) (numB (powT t)) M E → Same H1 H' → FltAt C H' x M E → Q (.ref x) H' := q
  generalize powT t = p at q ⊢
  generalize digT t = D at q gdg gdl ne hz ⊢
  have eL : ((S D).length : Int) = (D.length : Int) := by rw [S_len]
  refine ⟨_, rfl, _, rfl, szS (by omega), _, rfl, _, _, rfl, rfl, _, _, rfl, rfl, _, rfl, ite2 (fun c => ?_) (fun c => ?_)⟩
  · have c' : 330 < ((S D).length : Int) + p := of_decide_eq_true c
    rw [eL] at c'
    exact made_flt fun H' x s2 _ hx => q H' x 1 1024 (big_ok gdg ne hz gdl c') s2 hx
  have c' : ¬ 330 < ((S D).length : Int) + p := fun z => c (decide_eq_true z)
  rw [eL] at c'
  refine ⟨_, rfl, _, rfl, szS (by omega), _, rfl, _, _, rfl, rfl, _, rfl, _, _, rfl, rfl, _, rfl, ite2 (fun c2 => ?_) (fun c2 => ?_)⟩
  · have c2' : ((S D).length : Int) + p < -330 := of_decide_eq_true c2
    rw [eL] at c2'
    exact made_flt fun H' x s2 _ hx => q H' x 0 0 (small_ok gdg c2') s2 hx
  have c2' : ¬ ((S D).length : Int) + p < -330 := fun z => c2 (decide_eq_true z)
  rw [eL] at c2'
  have n0 : 0 < D.length := List.length_pos_iff.mpr ne
  have A18 := numA_lt18 (p := p) gdg gdl (by omega)
  have B18 := numB_lt18 (p := p) (by omega)
  have N0 : 0 < NumText.digitsVal D := Nat.lt_of_lt_of_le (Nat.pow_pos (by decide)) (val_ge gdg ne hz)
  have A0 : 0 < numA (NumText.digitsVal D) p := Nat.mul_pos N0 (Nat.pow_pos (by decide))
  have B0 : 0 < numB p := Nat.pow_pos (by decide)
  have b1 : Builtin.Int.intBits ((NumText.digitsVal D : Nat) : Int) ≤ 241 := bits_lt (Nat.lt_of_lt_of_le (val_lt gdg) (Nat.le_trans (Nat.pow_le_pow_right (by decide) gdl) (Nat.le_of_lt (ten_lt 60))))
  refine ⟨_, rfl, S D, _, rfl, int_S gdg ne (by omega), by rw [S_len]; omega, _, rfl, p, rfl, by omega, by omega, _, _, rfl, rfl, ?_, ?_⟩
  · show ((Builtin.Int.intBits ((NumText.digitsVal D : Nat) : Int) : Nat) : Int) + ((Builtin.Int.intBits ((10 ^ p.toNat : Nat) : Int) : Nat) : Int) ≤ 134217728
    have h2 : Builtin.Int.intBits ((10 ^ p.toNat : Nat) : Int) ≤ 2000 := ten_bits (by omega)
    omega
  refine ⟨_, rfl, _, rfl, -p, rfl, by omega, by omega, ?_⟩
  refine ⟨numA (NumText.digitsVal D) p, numB p, ?_, A0, B0, A18, B18, fun H' x M E hF s2 hx => q H' x M E hF s2 hx⟩
  show [V.int (((NumText.digitsVal D : Nat) : Int) * ((10 ^ p.toNat : Nat) : Int)), V.int ((10 ^ (-p).toNat : Nat) : Int)] = _
  rw [← Int.natCast_mul]
  rfl
end
end KN

namespace KN
open PySem PySem.Spec PyProof.Rows L2 SX
/-! ### errors without fields -/
abbrev vErr : List Value := [.type "ValueError", .type "Exception", .type "BaseException", .type "object"]
structure ErrC (K : PySem.W.Frag) (mg : Str → Option Value) (nm : Str) (C : Addr) : Prop where
  g : mg nm = some (.ref C)
  x : PySem.W.excIn K C vErr "ValueError.__new__" = true
  k : PySem.W.keepIn K (.ref C) = true
  b : PySem.W.subIn K (.ref C) (.type "BaseException") = some true
  t : PySem.W.typeIn K (.ref C) = some (.type "type")
theorem pmk_own0 {X : Cx} {C : Addr} {bmB : List Value} {B newId initId : String} {x : Str} {p pos : Pos} (F : ExcBaseFacts B newId initId bmB) (q : PySem.W.excIn X.K C bmB newId = true) (gC : X.mg x = some (.ref C)) (kC : PySem.W.keepIn X.K (.ref C) = true) (r : Raises X (.ref C)) (hg : Gl X x)
    (hdb : (x == ("__debug__" : Str)) = false := by decide) : PMk X (.Call (.Name x p) [] [] pos) (fun _ H Q => Q (.ref C) none H) := by
  intro pins s σ H Q I h
  refine wpAny_Call_Name_kw (ld_glob I hg gC ?_ hdb)
  refine PySem.W.callWith_K0 I.kIn kC ?_
  show wpAny _ _ (call (.ref C) []) _ _ _
  obtain ⟨bm, N, nm, qn, bs, hdct, sn, sub, ab, col, dd, k0, k1, k2, k3, k5, mN, hC, hN, hni, T⟩ := exc_obj I.kIn q
  refine wpAny_call_exc_subT F T hC hN hni (fun h' e hm => ?_) (by show 0 ≤ sizeLine; exact Nat.zero_le _)
  exact mk_of I hm r h (I.hok.gone hm.new)
theorem pss_cond {X : Cx} {sts : List Stmt} {t : TS} {c : Prop} (h : c → PSs X sts t) : PSs X sts (fun D σ H => c ∧ t D σ H) := ⟨fun pins s σ H D I q => (h q.1).run pins s σ H D I q.2⟩
/-- isinstance(e, (c1, c2, ..)), e the exception that the suite holds -/
def rIsET (K : PySem.W.Frag) (D a : Addr) : List V → Hp → VK → Prop := fun xs H Q => ∃ (tp : Addr) (cs : List V) (us : List Value) (b : Bool), xs = [.ref a, .ref tp] ∧ H tp = some (.tup cs) ∧ Paired ClsV cs us ∧ PySem.W.kitAny K (.ref D) us = some b ∧ Q (.bl b) H
theorem call_isET {X : Cx} {a D : Addr} {oe : Obj} {pn : List (Addr × Obj)} (C : ExcC X.K D) (hz : Zc (.ref D) none oe) (hf : ∃ vs, oe.data = .fields vs) : CallR (X.suite a ((a, oe) :: pn)) (.builtin "isinstance") (rIsET X.K D a) := by
  intro pins s σ H xs us Q I r h
  obtain ⟨tp, cs, ws, b, rfl, hT, k, e, q⟩ := h
  obtain ⟨u1, u2, rfl, r1, r2⟩ := vals2 r
  cases (show u2 = Value.ref tp from r2)
  cases (show u1 = Value.ref a from r1)
  obtain ⟨hget, _⟩ := I.pin (a, oe) (List.mem_append.mpr (.inl List.mem_cons_self))
  obtain ⟨vs, hv⟩ := hf
  have J : PySem.W.InstAt s.heap a oe D none := by
    obtain ⟨oc, od, oda, osl⟩ := oe
    obtain ⟨h1, h2⟩ := hz
    dsimp only at h1 h2 hv
    subst h1 h2 hv
    exact ⟨hget, rfl, rfl, trivial⟩
  obtain ⟨_, its, rv, o, h1, h2, n, h3⟩ := (show ObjOk X.prog X.w H s.heap tp (.tup cs) from I.hok tp _ hT)
  have e3 := ClsV.all k rv
  subst e3
  obtain ⟨oc, od, dt, sl⟩ := o
  simp only at h2 h3
  subst h2 h3
  exact PySem.W.kia_tup (PySem.W.handS_kitx_exc C.hg C.hk C.hs C.hd C.ha C.hn C.ht C.hm) I.kIn J h1 e (fun z => nomatch z) fun tk => ⟨.bl b, H, I.tok tk, rfl, q⟩
/-! ### a text that is none -/
def badB (t : List Nat) : Bool := decide (t.length ≤ 2000) && (decide ((dec t).e = 0) || decide ((dec t).e < t.length))
def spFoB (CB : Addr) : Sp := fun vs H _ E => ∃ t : List Nat, vs = [.str (S t)] ∧ badB t = true ∧ ∀ H', Same H H' → E (.ref CB) none H'
section
variable {P : Program} {w : World} {K : PySem.W.Frag} {mg : Str → Option Value} {base : Heap}
theorem ok_fob {CB f fD : Addr} {fd gD : FuncData} (F : Fun K "float_of" "float_of" sFo f fd) (X : ErrC K mg "BadFloat" CB) (mS : mg "isinstance" = none) (ms : mg "str" = none) (ml : mg "len" = none)
    (D : FnOk P w K mg base CX0 4 fD gD ["text", "at"] spDec) (bD : Binds K gD ["text", "at"] []) (kD : PySem.W.keepIn K (.ref fD) = true) (mD : mg "decimal_at" = some (.ref fD)) :
    FnOk P w K mg base (L2.CX P w) 5 f fd ["text"] (spFoB CB) := by
  refine F.okX scFo (fun vs H Q E h => ?_) (fun cdv A outer s H vs Q E hr h => ?_)
  · obtain ⟨t, rfl, _⟩ := h
    rfl
  obtain ⟨t, rfl, hb, q⟩ := h
  refine ⟨_, pss_cons (ps_if (pt_not (pt_val (pe_callB call_isi (by rfl) mS (by decide +kernel) (pa_cons (pv 0) (pa_cons (pe_bltn (v := .ty "str") (by rfl) ms (by decide +kernel) rfl) pa_nil))))) (pss_one ps_no) pss_nil)
    (pss_cons (ps_asg (pe_call D hr rfl mD kD bD .nil pass0 (pa_cons (pv 0) (pa_cons pe_int pa_nil))) (pg_tup (by rfl) (pgs_cons (pg_name (i := 1) scFo.nd rfl (.inl rfl)) (pgs_cons (pg_name (i := 2) scFo.nd rfl (.inl rfl)) (pgs_cons (pg_name (i := 3) scFo.nd rfl (.inl rfl)) (pgs_cons (pg_name (i := 4) scFo.nd rfl (.inl rfl)) pgs_nil))))))
    (pss_cons (ps_if (PW.pt (pw_or (pt_cmpR op_eq (pv 4) pe_int (nomark _)) (pw_or1 (pt_cmpR op_lt (pv 4) (pe_callB call_len_str rfl ml PySem.boot_len (pa_cons (pv 0) pa_nil)) (nomark _)))))
      (pss_one (ps_raise rfl (takes_of rfl rfl rfl rfl) (pmk_own0 PySem.F.excBase_ValueError X.x X.g X.k (raises_own X.b X.t) rfl))) pss_nil) pss_no)), ?_⟩
  have hb' : t.length ≤ 2000 ∧ ((dec t).e = 0 ∨ (dec t).e < t.length) := by
    unfold badB at hb
    simp only [Bool.and_eq_true, Bool.or_eq_true, decide_eq_true_eq] at hb
    exact hb
  refine ⟨_, rfl, _, _, _, _, true, rfl, .ty _, .base (.str _), kit_ty (by decide +kernel), _, rfl, iteF ?_⟩
  refine ⟨_, rfl, t, rfl, hb'.1, fun H1 p1 s1 h1 => ?_⟩
  refine ⟨p1, _, rfl, SqT.of h1, rfl, _, _, rfl, _, _, rfl, _, _, rfl, _, _, rfl, rfl, ?_⟩
  have q := q _ s1
  refine ⟨_, rfl, rfl, _, rfl, ite2 (fun c => ?_) (fun c => ?_)⟩
  · exact q
  have n0 : ¬ (dec t).e = 0 := fun z => c (by rw [dec_int, z]; rfl)
  refine ⟨_, rfl, _, rfl, _, rfl, szS hb'.1, _, _, rfl, rfl, _, rfl, ite2 (fun c => ?_) (fun c => ?_)⟩
  · exact q
  · exfalso
    refine c (decide_eq_true ?_)
    rw [S_len]
    have := hb'.2
    omega
end
end KN

namespace KN
open PySem PySem.Spec PyProof.Rows L2 SX
abbrev sOdd : Stmt := topS 31
abbrev sRef : Stmt := topS 32
theorem scOdd : FnScope ["_law_stream", "_law_some"] ["_law_stream"] (defScope sOdd) := ⟨rfl, rfl, rfl, by decide +kernel, rfl, by decide +kernel, by decide +kernel⟩
theorem scRef : FnScope ["_law_text", "_law_e"] ["_law_text"] (defScope sRef) := ⟨rfl, rfl, rfl, by decide +kernel, rfl, by decide +kernel, by decide +kernel⟩
structure ErrF (K : PySem.W.Frag) (mg : Str → Option Value) (CT CB CP CX : Addr) : Prop where
  gT : mg "TreeError" = some (.ref CT)
  gP : mg "BadPlace" = some (.ref CP)
  gX : mg "BadText" = some (.ref CX)
  EB : ErrC K mg "BadFloat" CB
  xB : ExcC K CB
  m : PySem.W.exmOne K (.ref CB) (.ref CT) = some true
  bb : PySem.W.kitOne K (.ref CB) (.ref CB) = some true
  no : PySem.W.kitAny K (.ref CB) [.ref CP, .ref CX] = some false
def spRef : Sp := fun vs H Q _ => ∃ t : List Nat, vs = [.str (S t)] ∧ badB t = true ∧ ∀ H', Same H H' → Q (.bl true) H'
def badV : V → Bool
  | .str x => badB x.cps.toList
  | _ => false
def spOdd : Sp := fun vs H Q _ => ∃ (a c : Addr) (M : Stm), vs = [.ref a] ∧ StmAt H a c M ∧ M.cnt < 1000000 ∧
  ∀ (H' : Hp) (M' : Stm) (t : List Nat), StmAt H' a c M' → M'.cnt ≤ M.cnt + 1 → Kept a c H H' → badB t = true → Q (.str (S t)) H'
def oddL1 : List V := [.str "", .str ".", .str "e5", .str "1e", .str "1e+", .str "1.5.2", .str "1._5", .str "1_.5", .str "_1", .str "1_", .str "1__0", .str "+1", .str "-1.5", .str " 1", .str "1 ", .str "1e5.0"]
def oddL2 : List V := [.str "0x10", .str "1j", .str "inf", .str "nan", .str "1e1_", .str "1e_1", .str ".e1", .str "1,5", .str "1e--1", .str "a", .str "1f", .str "0b1", .str "1\n"]
theorem odd_bad : (oddL1 ++ oddL2).all badV = true := by decide +kernel
section
variable {P : Program} {w : World} {K : PySem.W.Frag} {mg : Str → Option Value} {base : Heap}
theorem ok_ref {CT CB CP CX f fB : Addr} {fd gB : FuncData} (F : Fun K "_law_refused" "_law_refused" sRef f fd) (X : ErrF K mg CT CB CP CX) (mS : mg "isinstance" = none)
    (B : FnOk P w K mg base (L2.CX P w) 5 fB gB ["text"] (spFoB CB)) (bB : Binds K gB ["text"] []) (kB : PySem.W.keepIn K (.ref fB) = true) (mB : mg "float_of" = some (.ref fB)) :
    FnOk P w K mg base CX0 6 f fd ["_law_text"] spRef := by
  refine F.ok scRef (fun vs H Q E h => ?_) (fun cdv A outer s H vs Q E hr h => ?_)
  · obtain ⟨t, rfl, _⟩ := h
    rfl
  obtain ⟨t, rfl, hb, q⟩ := h
  have isE : ∀ (Y : Cx) (D a : Addr) (oe : Obj) (pn : List (Addr × Obj)), Y.K = K → ExcC K D → Zc (.ref D) none oe → (∃ vs, oe.data = .fields vs) → CallR (Y.suite a ((a, oe) :: pn)) (.builtin "isinstance") (rIsE K D a) := fun Y D a oe pn e C hz hf => by
    subst e
    exact call_isE C hz hf
  have isET : ∀ (Y : Cx) (D a : Addr) (oe : Obj) (pn : List (Addr × Obj)), Y.K = K → ExcC K D → Zc (.ref D) none oe → (∃ vs, oe.data = .fields vs) → CallR (Y.suite a ((a, oe) :: pn)) (.builtin "isinstance") (rIsET K D a) := fun Y D a oe pn e C hz hf => by
    subst e
    exact call_isET C hz hf
  refine ⟨_, pss_cons (ps_try_as (i := 1) rfl rfl scRef.nd rfl rfl ⟨rfl, by decide, .inl X.gT⟩ takes0 (fun W pn xe tk _ => pss_one (ps_expr (pe_callS B hr rfl mB kB bB (fun σ => passAt tk σ) (pa_cons (pv 0) pa_nil))))
      (fun a oe cls d pn hz hf => pss_cond (c := cls = .ref CB ∧ d = none) fun ⟨e1, e2⟩ => pss_one (ps_ret
          (pe_and (pe_callB (isE _ CB a oe pn rfl X.xB (by rw [e1, e2] at hz; exact hz) hf) (by rfl) mS (by decide +kernel) (pa_cons (pv 1) (pa_cons (pe_glob (v := .ref CB) rfl X.EB.g rfl) pa_nil)))
            (pe_one (pe_not (pe_callB (isET _ CB a oe pn rfl X.xB (by rw [e1, e2] at hz; exact hz) hf) (by rfl) mS (by decide +kernel) (pa_cons (pv 1) (pa_cons (pe_tup (pa_cons (pe_glob (v := .ref CP) rfl X.gP rfl) (pa_cons (pe_glob (v := .ref CX) rfl X.gX rfl) pa_nil))) pa_nil)))))))))
    (pss_one (ps_ret pe_bl)), ?_⟩
  refine ⟨_, rfl, t, rfl, hb, fun H1 s1 => ?_⟩
  refine ⟨true, X.m, fun _ a na => ⟨⟨rfl, rfl⟩, ?_⟩, fun z => (by cases z)⟩
  refine ⟨_, rfl, .ref CB, .ref CB, _, rfl, fun _ r => r, X.bb, _, rfl, iteT ?_⟩
  refine ⟨_, rfl, by show 2 ≤ sizeLine; decide, fun T nT => ⟨T, _, _, false, rfl, upd_same, .cons (.own _) (.cons (.own _) .nil), X.no, _, rfl, ?_⟩⟩
  exact q _ (s1.trans (same_new nT))
theorem Kept.same' {a c : Addr} {H H1 : Hp} (x : Same H H1) : Kept a c H H1 := fun b u _ _ h => x b u h
theorem ok_odd {f g : Addr} {fd gd : FuncData} (F : Fun K "_law_odd_text" "_law_odd_text" sOdd f fd) (D : FnOk P w K mg base CX0 2 g gd ["_law_stream", "_law_some"] (spPick K)) (bD : Binds K gd ["_law_stream", "_law_some"] []) (kD : PySem.W.keepIn K (.ref g) = true) (mD : mg "_law_pick" = some (.ref g)) :
    FnOk P w K mg base CX0 3 f fd ["_law_stream"] spOdd := by
  refine F.ok scOdd (fun vs H Q E h => ?_) (fun cdv A outer s H vs Q E hr h => ?_)
  · obtain ⟨a, c, M, rfl, _⟩ := h
    rfl
  obtain ⟨a, c, M, rfl, hS, hcnt, q⟩ := h
  refine ⟨_, pss_cons (ps_set (i := 1) scOdd.nd rfl (.inl rfl) (pe_lst (pa_cons pe_str (pa_cons pe_str (pa_cons pe_str (pa_cons pe_str (pa_cons pe_str (pa_cons pe_str (pa_cons pe_str (pa_cons pe_str (pa_cons pe_str (pa_cons pe_str (pa_cons pe_str (pa_cons pe_str (pa_cons pe_str (pa_cons pe_str (pa_cons pe_str (pa_cons pe_str pa_nil))))))))))))))))))
    (pss_cons (ps_set (i := 1) scOdd.nd rfl (.inl rfl) (pe_op op_cat (pv 1) (pe_lst (pa_cons pe_str (pa_cons pe_str (pa_cons pe_str (pa_cons pe_str (pa_cons pe_str (pa_cons pe_str (pa_cons pe_str (pa_cons pe_str (pa_cons pe_str (pa_cons pe_str (pa_cons pe_str (pa_cons pe_str (pa_cons pe_str pa_nil))))))))))))))))
    (pss_one (ps_ret (pe_call D hr rfl mD kD bD .nil pass0 (pa_cons (pv 0) (pa_cons (pv 1) pa_nil)))))), ?_⟩
  refine ⟨by show 16 ≤ sizeLine; decide, fun p1 n1 => ?_⟩
  have s1 : Same H (upd H p1 (.lst oddL1)) := same_new n1
  have h1 : (upd H p1 (.lst oddL1)) p1 = some (.lst oddL1) := upd_same
  show tSeq _ _ _ _ (upd H p1 (.lst oddL1))
  generalize upd H p1 (.lst oddL1) = H1 at s1 h1 ⊢
  refine ⟨_, rfl, by show 13 ≤ sizeLine; decide, fun p2 n2 => ?_⟩
  have s2 : Same H1 (upd H1 p2 (.lst oddL2)) := same_new n2
  have h2 : (upd H1 p2 (.lst oddL2)) p2 = some (.lst oddL2) := upd_same
  refine ⟨p1, p2, oddL1, oddL2, rfl, rfl, s2 _ _ h1, h2, by show 29 ≤ sizeLine; decide, fun p3 n3 => ?_⟩
  have s3 : Same (upd H1 p2 (.lst oddL2)) (upd (upd H1 p2 (.lst oddL2)) p3 (.lst (oddL1 ++ oddL2))) := same_new n3
  have h3 : (upd (upd H1 p2 (.lst oddL2)) p3 (.lst (oddL1 ++ oddL2))) p3 = some (.lst (oddL1 ++ oddL2)) := upd_same
  have sA := (s1.trans s2).trans s3
  have s12 := s1.trans s2
  have np : p3 ≠ a ∧ p3 ≠ c := ⟨(ne_of_none (s12 _ _ hS.lst) n3).symm, (ne_of_none (s12 _ _ hS.cel) n3).symm⟩
  refine ⟨_, rfl, _, rfl, a, c, p3, M, oddL1 ++ oddL2, rfl, hS.keep sA, hcnt, h3, np.1, np.2, by decide, by decide, fun H' M' x h' hc k hx => ?_⟩
  have hb := List.all_eq_true.mp odd_bad x hx
  cases x with
  | str y =>
    have e : S y.cps.toList = y := S_tl y
    rw [← e]
    exact q H' M' _ h' hc ((Kept.same sA).trans k) hb
  | _ => cases hb
end
end KN

namespace KN
open PySem PySem.Spec PyProof.Rows L2 SX
/-! ### the law's own texts, by lists -/
/-- digits, with one underscore between them or with none -/
inductive Whole (w : List Nat) : List Nat → Prop
  | all : Whole w w
  | us (l1 l2 : List Nat) (e : w = l1 ++ l2) (n1 : l1 ≠ []) (n2 : l2 ≠ []) : Whole w (l1 ++ 95 :: l2)
theorem Whole.run {w w' : List Nat} (h : Whole w w') (hw : w.all dig = true) {r : List Nat} (hs : stop r = true) : KN.run false (w' ++ r) = w'.length := by
  cases h with
  | all => exact run_all hw hs
  | us l1 l2 e n1 n2 =>
    rw [e, List.all_append, Bool.and_eq_true] at hw
    exact run_us hw.1 n1 hw.2 n2 hs
theorem Whole.nous {w w' : List Nat} (h : Whole w w') (hw : w.all dig = true) : KN.nous w' = w := by
  cases h with
  | all => exact nous_digs hw
  | us l1 l2 e n1 n2 =>
    rw [e, List.all_append, Bool.and_eq_true] at hw
    unfold KN.nous
    rw [List.filter_append, List.filter_cons, if_neg (by decide)]
    have h1 := nous_digs hw.1
    have h2 := nous_digs hw.2
    unfold KN.nous at h1 h2
    rw [h1, h2, e]
theorem Whole.len {w w' : List Nat} (h : Whole w w') : w.length ≤ w'.length ∧ w'.length ≤ w.length + 1 := by
  cases h with
  | all => omega
  | us l1 l2 e n1 n2 =>
    rw [e]
    simp
    omega
inductive Tail : List Nat → List Nat → Prop
  | no : Tail [] []
  | ex (c : Nat) (sg ds : List Nat) (hc : c = 101 ∨ c = 69) (hs : sg = [] ∨ sg = [43] ∨ sg = [45]) (hd : ds.all dig = true) (hn : ds ≠ []) : Tail (c :: (sg ++ ds)) (sg ++ ds)
theorem Tail.stop {tail x : List Nat} (h : Tail tail x) : KN.stop tail = true := by
  cases h with
  | no => rfl
  | ex c sg ds hc hs hd hn =>
    rcases hc with rfl | rfl <;> rfl
theorem drop_app (p q : List Nat) : (p ++ q).drop p.length = q := List.drop_left
theorem get_app (p q : List Nat) : (p ++ q)[p.length]? = q.head? := by
  rw [List.getElem?_append_right (Nat.le_refl _), Nat.sub_self, List.head?_eq_getElem?]
theorem get_app1 (p : List Nat) (c : Nat) (q : List Nat) : (p ++ c :: q)[p.length + 1]? = q.head? := by
  rw [List.getElem?_append_right (by omega)]
  have : p.length + 1 - p.length = 1 := by omega
  rw [this, List.head?_eq_getElem?]
  rfl
theorem eEnd_of {b tail x : List Nat} (h : Tail tail x) : eEnd (b ++ tail) b.length = (b ++ tail).length ∧ cut (b ++ tail) (b.length + 1) (b ++ tail).length = x := by
  cases h with
  | no =>
    rw [List.append_nil]
    refine ⟨?_, ?_⟩
    · unfold eEnd
      have : b[b.length]? = none := by simp
      rw [this]
      rfl
    · unfold cut
      rw [List.drop_eq_nil_of_le (by omega), List.take_nil]
  | ex c sg ds hc hs hd hn =>
    have e0 : (b ++ c :: (sg ++ ds))[b.length]? = some c := by rw [get_app]; rfl
    have e1 : (b ++ c :: (sg ++ ds))[b.length + 1]? = (sg ++ ds).head? := get_app1 _ _ _
    obtain ⟨d, ds', rfl⟩ := List.exists_cons_of_ne_nil hn
    have hdd := hd
    rw [List.all_cons, Bool.and_eq_true] at hdd
    have hdi := dig_iff.mp hdd.1
    have iE : isE (some c) = true := by rcases hc with rfl | rfl <;> rfl
    have eb : eBeg (b ++ c :: (sg ++ d :: ds')) b.length = b.length + 1 + sg.length := by
      unfold eBeg
      rw [e1]
      rcases hs with rfl | rfl | rfl
      · have : isSg (([] ++ d :: ds').head?) = false := by
          show ((some d == some 43) || (some d == some 45)) = false
          have a1 : d ≠ 43 := by omega
          have a2 : d ≠ 45 := by omega
          simp [a1, a2]
        rw [this]
        rfl
      · rfl
      · rfl
    have ed : (b ++ c :: (sg ++ d :: ds')).drop (b.length + 1 + sg.length) = d :: ds' := by
      have : b ++ c :: (sg ++ d :: ds') = (b ++ c :: sg) ++ d :: ds' := by simp
      rw [this]
      have l : b.length + 1 + sg.length = (b ++ c :: sg).length := by simp; omega
      rw [l, drop_app]
    have el : (b ++ c :: (sg ++ d :: ds')).length = b.length + 1 + sg.length + (d :: ds').length := by simp; omega
    have er : run false (d :: ds') = (d :: ds').length := by
      have := run_all (l := d :: ds') (r := []) (b := false) hd rfl
      rw [List.append_nil] at this
      exact this
    have hE : dEnd (b ++ c :: (sg ++ d :: ds')) (b.length + 1 + sg.length) = (b ++ c :: (sg ++ d :: ds')).length := by
      unfold dEnd
      rw [ed, er, el]
    refine ⟨?_, ?_⟩
    · unfold eEnd
      rw [e0, iE, eb, hE, if_pos rfl, if_pos]
      rw [el]
      simp
    · unfold cut
      have : (b ++ c :: (sg ++ d :: ds')).drop (b.length + 1) = sg ++ d :: ds' := by
        have : b ++ c :: (sg ++ d :: ds') = (b ++ [c]) ++ (sg ++ d :: ds') := by simp
        rw [this]
        have l : b.length + 1 = (b ++ [c]).length := by simp
        rw [l, drop_app]
      rw [this, List.take_of_length_le]
      rw [el]
      simp
      omega
theorem dec_of {w w' f b tail x : List Nat} (hW : Whole w w') (hw : w.all dig = true) (hf : f.all dig = true) (hb : b = w' ++ 46 :: f ∨ (f = [] ∧ b = w')) (hne : w' ≠ [] ∨ f ≠ []) (ht : Tail tail x) :
    dec (b ++ tail) = ⟨w', f, x, (b ++ tail).length⟩ := by
  have sT := ht.stop
  have bl : 0 < b.length := by
    rcases hb with rfl | ⟨rfl, rfl⟩
    · rw [List.length_append, List.length_cons]
      omega
    · rcases hne with h | h
      · exact List.length_pos_iff.mpr h
      · exact absurd rfl h
  obtain ⟨eE, eX⟩ := eEnd_of (b := b) ht
  have d0 : dEnd (b ++ tail) 0 = w'.length := by
    unfold dEnd
    rw [List.drop_zero, Nat.zero_add]
    rcases hb with rfl | ⟨rfl, rfl⟩
    · rw [List.append_assoc]
      exact hW.run hw rfl
    · exact hW.run hw sT
  have fE : fEnd (b ++ tail) = b.length := by
    unfold fEnd
    rw [d0]
    rcases hb with rfl | ⟨rfl, rfl⟩
    · have e0 : ((w' ++ 46 :: f) ++ tail)[w'.length]? = some 46 := by rw [List.append_assoc, get_app]; rfl
      rw [if_pos e0]
      unfold dEnd
      have : ((w' ++ 46 :: f) ++ tail).drop (w'.length + 1) = f ++ tail := by
        have : (w' ++ 46 :: f) ++ tail = (w' ++ [46]) ++ (f ++ tail) := by simp
        rw [this]
        have l : w'.length + 1 = (w' ++ [46]).length := by simp
        rw [l, drop_app]
      rw [this, run_all hf sT]
      simp
      omega
    · rw [if_neg]
      rw [get_app]
      cases ht with
      | no => simp
      | ex c sg ds hc hs hd hn =>
        show ¬ some c = some 46
        rcases hc with rfl | rfl <;> decide
  unfold dec
  rw [d0, fE, if_neg, if_pos bl, eE, eX]
  · congr 1
    · unfold cut
      rw [List.drop_zero, Nat.sub_zero]
      rcases hb with rfl | ⟨rfl, rfl⟩
      · rw [List.append_assoc, List.take_left]
      · rw [List.take_left]
    · unfold cut
      rcases hb with rfl | ⟨rfl, rfl⟩
      · have : ((w' ++ 46 :: f) ++ tail).drop (w'.length + 1) = f ++ tail := by
          have : (w' ++ 46 :: f) ++ tail = (w' ++ [46]) ++ (f ++ tail) := by simp
          rw [this]
          have l : w'.length + 1 = (w' ++ [46]).length := by simp
          rw [l, drop_app]
        rw [this]
        have l : (w' ++ 46 :: f).length - (w'.length + 1) = f.length := by simp; omega
        rw [l, List.take_left]
      · have : b.length - (b.length + 1) = 0 := by omega
        rw [this, List.take_zero]
  · rintro ⟨h1, h2⟩
    have w0 : w' = [] := List.length_eq_zero_iff.mp h2
    subst w0
    rcases hb with rfl | ⟨rfl, rfl⟩
    · simp at h1
      rcases hne with h | h
      · exact h rfl
      · exact h h1
    · simp at h1
theorem noz_val : ∀ l : List Nat, NumText.digitsVal (noz l) = NumText.digitsVal l
  | [] => rfl
  | c :: r => by
    unfold noz
    rw [List.dropWhile_cons]
    split
    · rename_i h
      have : c = 48 := by simpa using h
      subst this
      exact noz_val r
    · rfl
theorem noz_dig {l : List Nat} (h : l.all dig = true) : (noz l).all dig = true := by
  rw [List.all_eq_true] at h ⊢
  exact fun c hc => h c ((List.dropWhile_sublist _).subset hc)
theorem numL_dig (n : Nat) : (TL.numL n).all dig = true := List.all_eq_true.mpr fun c hc => dig_iff.mpr (TL.numL_digits n c hc)
theorem nosg_dig {l : List Nat} (h : l.all dig = true) : nosg l = l := by
  cases l with
  | nil => rfl
  | cons c r =>
    rw [List.all_cons, Bool.and_eq_true] at h
    have hc := dig_iff.mp h.1
    unfold nosg
    rw [List.dropWhile_cons, if_neg]
    have a1 : c ≠ 43 := by omega
    have a2 : c ≠ 45 := by omega
    simp [a1, a2]
theorem pw_of {sg z : List Nat} {left : Int} (h : ((sg = [] ∨ sg = [43]) ∧ 0 ≤ left) ∨ (sg = [45] ∧ left < 0)) (hz : z = [] ∨ z = [48]) (hn : left.natAbs < 10 ^ 9) :
    pwV (sg ++ (z ++ TL.numL left.natAbs)) = left ∧ (pwD (sg ++ (z ++ TL.numL left.natAbs))).all dig = true ∧ (z ++ TL.numL left.natAbs).all dig = true ∧ z ++ TL.numL left.natAbs ≠ [] := by
  have hd : (z ++ TL.numL left.natAbs).all dig = true := by
    rw [List.all_append, numL_dig, Bool.and_true]
    rcases hz with rfl | rfl <;> rfl
  have ne : z ++ TL.numL left.natAbs ≠ [] := fun e => TL.numL_ne _ (List.append_eq_nil_iff.mp e).2
  have eD : pwD (sg ++ (z ++ TL.numL left.natAbs)) = noz (TL.numL left.natAbs) := by
    have e1 : nous (sg ++ (z ++ TL.numL left.natAbs)) = sg ++ (z ++ TL.numL left.natAbs) := by
      unfold nous
      rw [List.filter_append]
      have := nous_digs hd
      unfold nous at this
      rw [this]
      rcases h with ⟨rfl | rfl, _⟩ | ⟨rfl, _⟩ <;> rfl
    have e2 : nosg (sg ++ (z ++ TL.numL left.natAbs)) = z ++ TL.numL left.natAbs := by
      have := nosg_dig hd
      rcases h with ⟨rfl | rfl, _⟩ | ⟨rfl, _⟩ <;> exact this
    unfold pwD
    rw [e1, e2]
    rcases hz with rfl | rfl <;> rfl
  have eN : pwN (sg ++ (z ++ TL.numL left.natAbs)) = (left.natAbs : Int) := by
    have ev : NumText.digitsVal (noz (TL.numL left.natAbs)) = left.natAbs := by rw [noz_val, TL.numL_val]
    have el : (noz (TL.numL left.natAbs)).length ≤ 10 := Nat.le_trans (noz_len _) (Nat.le_trans (TL.numL_len (by decide) hn) (by decide))
    unfold pwN
    rw [eD]
    split
    · rename_i e
      rw [e] at ev
      have : (0 : Nat) = left.natAbs := ev
      omega
    · rw [List.take_of_length_le el, ev]
  refine ⟨?_, ?_, hd, ne⟩
  · unfold pwV
    rw [eN]
    rcases h with ⟨hs, h0⟩ | ⟨rfl, h0⟩
    · rw [if_neg]
      · omega
      · rcases hs with rfl | rfl
        · obtain ⟨c, r, e⟩ := List.exists_cons_of_ne_nil ne
          rw [List.nil_append, e]
          rw [e, List.all_cons, Bool.and_eq_true] at hd
          have hc := dig_iff.mp hd.1
          intro q
          have : c = 45 := by simpa using q
          omega
        · intro q
          have : (43 : Nat) = 45 := Option.some.inj q
          omega
    · have hh : ([45] ++ (z ++ TL.numL left.natAbs)).head? = some 45 := rfl
      rw [if_pos hh]
      omega
  · rw [eD]
    exact noz_dig (numL_dig _)
/-- what the law spells -/
theorem spelt_good {d w w' f b tail x : List Nat} {p left : Int} (hd : d.all dig = true) (hl : d.length ≤ 50) (hwf : w ++ f = d) (hdn : d ≠ []) (hW : Whole w w') (hb : b = w' ++ 46 :: f ∨ (f = [] ∧ b = w')) (ht : Tail tail x) (hx : pwV x = left ∧ (pwD x).all dig = true) (hxl : x.length ≤ 1000)
    (hp : left = p + (f.length : Int)) : GoodT (b ++ tail) ∧ valT (b ++ tail) = NumText.digitsVal d ∧ powT (b ++ tail) = p := by
  have hd2 := hd
  rw [← hwf, List.all_append, Bool.and_eq_true] at hd2
  have hne : w' ≠ [] ∨ f ≠ [] := by
    by_cases c : f = []
    · refine .inl fun e => hdn ?_
      have := hW.len.1
      rw [e] at this
      have w0 : w = [] := List.length_eq_zero_iff.mp (by simpa using this)
      rw [← hwf, w0, c]
      rfl
    · exact .inr c
  have e := dec_of hW hd2.1 hd2.2 hb hne ht
  have eT : digT (b ++ tail) = noz d := by
    unfold digT
    rw [e]
    show noz (nous (w' ++ f)) = _
    have : nous (w' ++ f) = nous w' ++ nous f := List.filter_append ..
    rw [this, hW.nous hd2.1, nous_digs hd2.2, hwf]
  have hbl : b.length ≤ 60 := by
    have h1 := hW.len.2
    have h2 : w.length + f.length = d.length := by rw [← hwf, List.length_append]
    rcases hb with rfl | ⟨rfl, rfl⟩
    · simp
      omega
    · omega
  have htl : tail.length ≤ x.length + 1 := by cases ht <;> simp
  have bl : 0 < b.length := by
    rcases hb with rfl | ⟨rfl, rfl⟩
    · rw [List.length_append, List.length_cons]
      omega
    · rcases hne with h | h
      · exact List.length_pos_iff.mpr h
      · exact absurd rfl h
  refine ⟨⟨?_, ?_, ?_, ?_, ?_, ?_⟩, ?_, ?_⟩
  · rw [List.length_append]
    omega
  · rw [e]
    show 0 < (b ++ tail).length
    rw [List.length_append]
    omega
  · rw [e]
  · rw [eT]
    exact noz_dig hd
  · rw [eT]
    have := noz_len d
    omega
  · rw [e]
    exact hx.2
  · unfold valT
    rw [eT, noz_val]
  · unfold powT
    rw [e]
    show pwV x - ((nous f).length : Int) = p
    rw [nous_digs hd2.2, hx.1, hp]
    omega
end KN

namespace KN
open PySem PySem.Spec PyProof.Rows L2 SX
abbrev sSp : Stmt := topS 29
abbrev nSp : List Str := ["_law_stream", "_law_digits", "_law_power", "_law_at", "_law_left", "_law_whole", "_law_part", "_law_text", "_law_sign"]
theorem scSp : FnScope nSp ["_law_stream", "_law_digits", "_law_power"] (defScope sSp) := ⟨rfl, rfl, rfl, by decide +kernel, rfl, by decide +kernel, by decide +kernel⟩
theorem op_mulS {X : Cx} : OpR X (binaryOp .Mult) (fun x y H Q => ∃ (z : Str) (n : Int), x = .str z ∧ y = .int n ∧ PySem.MulOk z n ∧ Q (.str (Txt.mul z n)) H) := by
  intro pins s σ H x y v u Q I rx ry h
  obtain ⟨z, n, rfl, rfl, hz, q⟩ := h
  obtain ⟨t, rfl⟩ := rx
  obtain ⟨t', rfl⟩ := ry
  exact PySem.SB.mul hz (fun t' k => ⟨.str (Txt.mul z n), H, I.tok _, ⟨_, rfl⟩, q⟩)
/-- the reading of [v, ..][_law_draw(_law_stream, n)] -/
theorem rd_pick {K : PySem.W.Frag} {E : XK} {a c : Addr} {M : Stm} {H : Hp} {xs : List V} {n : Int} {Q : VK} (hS : StmAt H a c M) (hcnt : M.cnt < 1000000) (hn : n = (xs.length : Int)) (h0 : 0 < xs.length) (h1 : xs.length ≤ 1000)
    (q : ∀ (H' : Hp) (M' : Stm) (x : V), StmAt H' a c M' → M'.cnt ≤ M.cnt + 1 → Kept a c H H' → x ∈ xs → Q x H') (l : Addr) (nl : H l = none) : spDraw [V.ref a, V.int n] (upd H l (.lst xs)) (fun y H2 => rIxL K (V.ref l) y H2 Q) E := by
  have sN : Same H (upd H l (.lst xs)) := same_new nl
  have la : l ≠ a := (ne_of_none hS.lst nl).symm
  have lc : l ≠ c := (ne_of_none hS.cel nl).symm
  refine ⟨a, c, M, n, rfl, hS.keep sN, hcnt, by omega, by omega, fun H' M' r h' hc k r0 r1 => ?_⟩
  obtain ⟨j, rfl⟩ : ∃ j : Nat, r = (j : Int) := ⟨r.toNat, by omega⟩
  have hj : j < xs.length := by omega
  exact ⟨l, xs, (j : Int), xs[j], rfl, rfl, SqL.of (k l _ la lc upd_same), atI_nat (List.getElem?_eq_getElem hj), q H' M' _ h' hc ((Kept.same sN).trans k) (List.getElem_mem hj)⟩
/-- the reading of _law_draw(_law_stream, n) -/
theorem rd_draw {E : XK} {a c : Addr} {M : Stm} {H : Hp} {n : Int} {Q : VK} (hS : StmAt H a c M) (hcnt : M.cnt < 1000000) (h0 : 0 < n) (h1 : n < 1000000000)
    (q : ∀ (H' : Hp) (M' : Stm) (r : Nat), StmAt H' a c M' → M'.cnt ≤ M.cnt + 1 → Kept a c H H' → (r : Int) < n → Q (.int (r : Int)) H') : spDraw [V.ref a, V.int n] H Q E := by
  refine ⟨a, c, M, n, rfl, hS, hcnt, h0, h1, fun H' M' r h' hc k r0 r1 => ?_⟩
  obtain ⟨j, rfl⟩ : ∃ j : Nat, r = (j : Int) := ⟨r.toNat, by omega⟩
  exact q H' M' j h' hc k r1
/-- _law_draw(_law_stream, n), the stream at the first name -/
theorem rdC {a c : Addr} {M : Stm} {σ : L2.St} {H : Hp} {n : Int} {Q : VK} (hσ : σ[0]? = some (some (V.ref a))) (hS : StmAt H a c M) (hcnt : M.cnt < 1000000) (h0 : 0 < n) (h1 : n < 1000000000)
    (q : ∀ (H' : Hp) (M' : Stm) (r : Nat), StmAt H' a c M' → M'.cnt ≤ M.cnt + 1 → Kept a c H H' → (r : Int) < n → Q (.int (r : Int)) H') : tCall spDraw [] E0 (tCons (tVar 0) (tCons (tC (V.int n)) tNil)) σ H Q :=
  ⟨_, hσ, rd_draw (E := E0) (n := n) (Q := Q) hS hcnt h0 h1 q⟩
/-- [v, ..][_law_draw(_law_stream, n)] -/
theorem rdP {K : PySem.W.Frag} {a c : Addr} {M : Stm} {σ : L2.St} {H : Hp} {t : TA} {xs : List V} {n : Int} {Q : VK} (hσ : σ[0]? = some (some (V.ref a))) (hS : StmAt H a c M) (hcnt : M.cnt < 1000000) (hn : n = (xs.length : Int)) (h0 : 0 < xs.length) (h1 : xs.length ≤ 1000)
    (ht : ∀ Q' : List V → Hp → Prop, Q' xs H → t σ H Q') (q : ∀ (H' : Hp) (M' : Stm) (x : V), StmAt H' a c M' → M'.cnt ≤ M.cnt + 1 → Kept a c H H' → x ∈ xs → Q x H') :
    tOp (rIxL K) (tLst t) (tCall spDraw [] E0 (tCons (tVar 0) (tCons (tC (V.int n)) tNil))) σ H Q :=
  ht _ ⟨by have : (1000 : Nat) ≤ sizeLine := by decide
           omega, fun l nl => ⟨_, hσ, rd_pick (E := E0) (K := K) (Q := Q) hS hcnt hn h0 h1 q l nl⟩⟩
def spSp : Sp := fun vs H Q _ => ∃ (a c : Addr) (M : Stm) (d : List Nat) (p : Int), vs = [.ref a, .str (S d), .int p] ∧ StmAt H a c M ∧ M.cnt < 900000 ∧ d.all dig = true ∧ d ≠ [] ∧ d.length ≤ 45 ∧ -1000 ≤ p ∧ p ≤ 1000 ∧
  ∀ (H' : Hp) (M' : Stm) (t : List Nat), StmAt H' a c M' → M'.cnt ≤ M.cnt + 10 → Kept a c H H' → GoodT t → valT t = NumText.digitsVal d → powT t = p → Q (.str (S t)) H'
structure Bl (mg : Str → Option Value) : Prop where
  ln : mg "len" = none
  it : mg "int" = none
  st : mg "str" = none
  ab : mg "abs" = none
section
variable {P : Program} {w : World} {K : PySem.W.Frag} {mg : Str → Option Value} {base : Heap}
theorem ok_sp {f g : Addr} {fd gd : FuncData} (F : Fun K "_law_spelt" "_law_spelt" sSp f fd) (Z : Bl mg) (D : FnOk P w K mg base CX0 1 g gd ["_law_stream", "_law_many"] spDraw) (bD : Binds K gd ["_law_stream", "_law_many"] []) (kD : PySem.W.keepIn K (.ref g) = true) (mD : mg "_law_draw" = some (.ref g)) :
    FnOk P w K mg base CX0 2 f fd ["_law_stream", "_law_digits", "_law_power"] spSp := by
  refine F.ok scSp (fun vs H Q E h => ?_) (fun cdv A outer s H vs Q E hr h => ?_)
  · obtain ⟨a, c, M, d, p, rfl, _⟩ := h
    rfl
  obtain ⟨a, c, M, d0, p, rfl, hS, hcnt, hd0, hdn0, hdl0, p0, p1, q⟩ := h
  refine ⟨_, pss_cons (ps_set (i := 1) scSp.nd rfl (.inl rfl) (pe_op op_add_str (pe_op op_mulS pe_str (pe_op op_mul (pe_ix ix_list (pe_lst (pa_cons pe_int (pa_cons pe_int (pa_cons pe_int (pa_cons pe_int pa_nil))))) (pe_call D hr rfl mD kD bD .nil pass0 (pa_cons (pv 0) (pa_cons pe_int pa_nil))) (fun _ _ => rfl))
        (pe_callTy call_int1 (by rfl) Z.it (by decide +kernel) (pa_cons (pe_cmpR op_lt (pe_callB call_len_str rfl Z.ln PySem.boot_len (pa_cons (pv 1) pa_nil)) pe_int (nomark _)) pa_nil)))) (pv 1)))
    (pss_cons (ps_set (i := 3) scSp.nd rfl (.inl rfl) (pe_ix ix_list (pe_lst (pa_cons pe_int (pa_cons (pe_callB call_len_str rfl Z.ln PySem.boot_len (pa_cons (pv 1) pa_nil)) (pa_cons (pe_call D hr rfl mD kD bD .nil pass0 (pa_cons (pv 0) (pa_cons (pe_op op_add (pe_callB call_len_str rfl Z.ln PySem.boot_len (pa_cons (pv 1) pa_nil)) pe_int) pa_nil))) pa_nil)))) (pe_call D hr rfl mD kD bD .nil pass0 (pa_cons (pv 0) (pa_cons pe_int pa_nil))) (fun _ _ => rfl)))
    (pss_cons (ps_set (i := 4) scSp.nd rfl (.inl rfl) (pe_op op_sub (pe_op op_add (pv 2) (pe_callB call_len_str rfl Z.ln PySem.boot_len (pa_cons (pv 1) pa_nil))) (pv 3)))
    (pss_cons (ps_par (by rfl) scSp.nd (i := 5) (j := 6) rfl rfl (by decide) rfl rfl (pa_cons (pe_slice sl_str (pv 1) po_none (po_some (pv 3))) (pa_cons (pe_slice sl_str (pv 1) (po_some (pv 3)) po_none) pa_nil)) (by rfl))
    (C8.pss_cut (ps_if (PW.pt (pw_and (pt_cmpR op_eq (pe_call D hr rfl mD kD bD .nil pass0 (pa_cons (pv 0) (pa_cons pe_int pa_nil))) pe_int (nomark _)) (pw_and1 (pt_cmpR op_gt (pe_callB call_len_str rfl Z.ln PySem.boot_len (pa_cons (pv 5) pa_nil)) pe_int (nomark _)))))
      (pss_cons (ps_set (i := 3) scSp.nd rfl (.inl rfl) (pe_op op_add pe_int (pe_call D hr rfl mD kD bD .nil pass0 (pa_cons (pv 0) (pa_cons (pe_op op_sub (pe_callB call_len_str rfl Z.ln PySem.boot_len (pa_cons (pv 5) pa_nil)) pe_int) pa_nil)))))
      (pss_one (ps_set (i := 5) scSp.nd rfl (.inl rfl) (pe_op op_add_str (pe_op op_add_str (pe_slice sl_str (pv 5) po_none (po_some (pv 3))) pe_str) (pe_slice sl_str (pv 5) (po_some (pv 3)) po_none))))) pss_nil)
    (pss_cons (ps_set (i := 7) scSp.nd rfl (.inl rfl) (pe_op op_add_str (pe_op op_add_str (pv 5) pe_str) (pv 6)))
    (C8.pss_cut (ps_if (PW.pt (pw_and (pt_cmpR op_eq (pv 6) pe_str (nomark _)) (pw_and1 (pt_cmpR op_eq (pe_call D hr rfl mD kD bD .nil pass0 (pa_cons (pv 0) (pa_cons pe_int pa_nil))) pe_int (nomark _)))))
      (pss_one (ps_set (i := 7) scSp.nd rfl (.inl rfl) (pv 5))) pss_nil)
    (C8.pss_cut (ps_if (PW.pt (pw_and (pt_cmpR op_eq (pv 4) pe_int (nomark _)) (pw_and1 (pt_cmpR op_eq (pe_call D hr rfl mD kD bD .nil pass0 (pa_cons (pv 0) (pa_cons pe_int pa_nil))) pe_int (nomark _)))))
      (pss_one (ps_ret (pv 7))) pss_nil)
    (C8.pss_cut (ps_set (i := 8) scSp.nd rfl (.inl rfl) (pe_ifExp (pt_cmpR op_ge (pv 4) pe_int (nomark _)) (pe_ix ix_list (pe_lst (pa_cons pe_str (pa_cons pe_str pa_nil))) (pe_call D hr rfl mD kD bD .nil pass0 (pa_cons (pv 0) (pa_cons pe_int pa_nil))) (fun _ _ => rfl)) pe_str))
    (pss_one (ps_ret (pe_op op_add_str (pe_op op_add_str (pe_op op_add_str (pe_op op_add_str (pv 7) (pe_ix ix_list (pe_lst (pa_cons pe_str (pa_cons pe_str pa_nil))) (pe_call D hr rfl mD kD bD .nil pass0 (pa_cons (pv 0) (pa_cons pe_int pa_nil))) (fun _ _ => rfl))) (pv 8)) (pe_ix ix_list (pe_lst (pa_cons pe_str (pa_cons pe_str pa_nil))) (pe_call D hr rfl mD kD bD .nil pass0 (pa_cons (pv 0) (pa_cons pe_int pa_nil))) (fun _ _ => rfl)))
      (pe_callTy call_str_int (by rfl) Z.st (by decide +kernel) (pa_cons (pe_callB call_abs (by rfl) Z.ab (by decide +kernel) (pa_cons (pv 4) pa_nil)) pa_nil))))))))))))), ?_⟩
  refine ⟨by show 4 ≤ sizeLine; decide, fun l nl => ⟨_, rfl, rd_pick (E := E0) (xs := [.int 0, .int 0, .int 0, .int 2]) (n := 4) hS (by omega) rfl (by decide) (by decide) (fun H1 M1 x h1 c1 k1 hx => ?_) l nl⟩⟩
  obtain ⟨i, rfl, hi⟩ : ∃ i : Int, x = .int i ∧ (i = 0 ∨ i = 2) := by
    simp only [List.mem_cons, List.not_mem_nil, or_false] at hx
    rcases hx with rfl | rfl | rfl | rfl
    · exact ⟨0, rfl, .inl rfl⟩
    · exact ⟨0, rfl, .inl rfl⟩
    · exact ⟨0, rfl, .inl rfl⟩
    · exact ⟨2, rfl, .inr rfl⟩
  refine ⟨_, rfl, _, rfl, szS (by omega), _, _, rfl, rfl, .inr ⟨_, rfl, ?_⟩⟩
  have hk : ∃ k zs, i * (if decide (((S d0).length : Int) < 39) = true then 1 else 0) = k ∧ MulOk (S [48]) k ∧ Txt.mul (S [48]) k = S zs ∧ (zs = [] ∨ zs = [48, 48]) := by
    have m0 : MulOk (S [48]) 0 := ⟨by decide, fun z => absurd (by decide) z, fun z => absurd (by decide) z⟩
    have m2 : MulOk (S [48]) 2 := ⟨by decide, fun _ _ => by decide, fun _ _ => by decide +kernel⟩
    rcases hi with rfl | rfl
    · exact ⟨0, [], Int.zero_mul _, m0, by decide +kernel, .inl rfl⟩
    · split
      · exact ⟨2, [48, 48], rfl, m2, by decide +kernel, .inr rfl⟩
      · exact ⟨0, [], rfl, m0, by decide +kernel, .inl rfl⟩
  obtain ⟨k, zs, ek, mk, emul, hzs⟩ := hk
  refine ⟨_, _, rfl, rfl, ?_, ?_⟩
  · rcases hi with rfl | rfl
    · exact .inl ⟨by decide, by decide⟩
    · exact .inl ⟨by decide, by decide⟩
  dsimp only
  rw [ek, l48]
  have zl : zs.length ≤ 2 := by rcases hzs with rfl | rfl <;> decide
  have szl : ∀ {x y : List Nat}, x.length ≤ 2000 → y.length ≤ 2000 → (S x).length + (S y).length ≤ sizeLine := fun hx hy => by
    rw [S_len, S_len]
    have : (4000 : Nat) ≤ sizeLine := by decide
    omega
  refine ⟨S [48], k, rfl, rfl, mk, ?_⟩
  rw [emul]
  refine ⟨_, rfl, S zs, S d0, rfl, rfl, szl (by omega) (by omega), ?_⟩
  rw [S_cat]
  obtain ⟨d, ed⟩ : ∃ d, d = zs ++ d0 := ⟨_, rfl⟩
  rw [← ed]
  have hd : d.all dig = true := by
    rw [ed, List.all_append, hd0, Bool.and_true]
    rcases hzs with rfl | rfl <;> rfl
  have hdn : d ≠ [] := fun z => hdn0 (by rw [z] at ed; exact (List.append_eq_nil_iff.mp ed.symm).2)
  have hdl : d.length ≤ 47 := by rw [ed, List.length_append]; omega
  have hdv : NumText.digitsVal d = NumText.digitsVal d0 := by
    rw [ed]
    rcases hzs with rfl | rfl <;> rfl
  rw [← hdv] at q
  clear hdv ed hzs emul mk ek hi hd0 hdn0 hdl0
  have len0 : 0 < d.length := List.length_pos_iff.mpr hdn
  refine ⟨_, rfl, _, rfl, szS (by omega), _, rfl, _, rfl, _, rfl, szS (by omega), _, _, rfl, rfl, ?_⟩
  dsimp only [tNil]
  refine rd_draw (E := E0) (n := ((S d).length : Int) + 1) h1 (by omega) (by omega) (by rw [S_len]; omega) fun H2 M2 r2 h2 c2 k2 lr2 => ?_
  refine ⟨by show 3 ≤ sizeLine; decide, fun l2 nl2 => ⟨_, rfl, rd_pick (E := E0) (xs := [.int 0, .int ((S d).length : Int), .int (r2 : Int)]) (n := 3) h2 (by omega) rfl (by show 0 < 3; decide) (by show 3 ≤ 1000; decide) (fun H3 M3 x3 h3 c3 k3 hx3 => ?_) l2 nl2⟩⟩
  rw [S_len] at hx3 lr2
  obtain ⟨at_, rfl, hat⟩ : ∃ n : Nat, x3 = .int (n : Int) ∧ n ≤ d.length := by
    simp only [List.mem_cons, List.not_mem_nil, or_false] at hx3
    rcases hx3 with rfl | rfl | rfl
    · exact ⟨0, rfl, Nat.zero_le _⟩
    · exact ⟨d.length, rfl, Nat.le_refl _⟩
    · exact ⟨r2, rfl, by omega⟩
  refine ⟨_, rfl, _, rfl, _, rfl, szS (by omega), _, _, rfl, rfl, _, rfl, _, _, rfl, rfl, ?_⟩
  dsimp only
  rw [S_len]
  obtain ⟨left, eleft⟩ : ∃ left, left = p + (d.length : Int) - (at_ : Int) := ⟨_, rfl⟩
  rw [← eleft]
  refine ⟨_, rfl, ?_⟩
  dsimp only [tNoPart]
  refine ⟨_, rfl, _, rfl, _, rfl, szS (by omega), _, rfl, _, rfl, _, rfl, _, rfl, szS (by omega), _, _, rfl, ?_⟩
  rw [cutS_to, cutS_from]
  obtain ⟨w, ew⟩ : ∃ w, w = d.take at_ := ⟨_, rfl⟩
  obtain ⟨f', ef⟩ : ∃ f', f' = d.drop at_ := ⟨_, rfl⟩
  have hwf : w ++ f' = d := by rw [ew, ef]; exact List.take_append_drop ..
  have hlf : left = p + (f'.length : Int) := by rw [eleft, ef, List.length_drop]; omega
  have hwl : w.length ≤ 47 := by rw [ew, List.length_take]; omega
  have hfl : f'.length ≤ 47 := by rw [ef, List.length_drop]; omega
  rw [← ew, ← ef]
  clear eleft ew ef hx3 lr2
  have kk3 := (k1.trans k2).trans k3
  have cc3 : M3.cnt ≤ M.cnt + 3 := by omega
  clear k1 k2 k3 c1 c2 c3 h1 h2
  refine ⟨fun σ H4 => ∃ (M4 : Stm) (w' : List Nat) (x3 : Option V), σ = [some (.ref a), some (.str (S d)), some (.int p), x3, some (.int left), some (.str (S w')), some (.str (S f')), none, none] ∧ Whole w w' ∧ StmAt H4 a c M4 ∧ M4.cnt ≤ M.cnt + 5 ∧ Kept a c H H4, ?_, ?_⟩
  · refine rdC rfl h3 (by omega) (by decide) (by decide) (fun H4 M4 r4 h4 c4 k4 _ => ⟨rfl, _, rfl, ite2 (fun _ => ?_) (fun _ => ?_)⟩)
    · refine ⟨_, rfl, _, rfl, szS (by omega), _, _, rfl, rfl, _, rfl, ite2 (fun c => ?_) (fun _ => ?_)⟩
      · have c' : 1 < w.length := by
          have c : (1 : Int) < ((S w).length : Int) := of_decide_eq_true c
          rw [S_len] at c
          omega
        refine ⟨_, rfl, _, rfl, _, rfl, szS (by omega), _, _, rfl, rfl, ?_⟩
        dsimp only [tNil]
        refine rd_draw (E := E0) (n := ((S w).length : Int) - 1) h4 (by omega) (by rw [S_len]; omega) (by rw [S_len]; omega) fun H5 M5 r5 h5 c5 k5 lr5 => ⟨_, _, rfl, rfl, ?_⟩
        rw [S_len] at lr5
        have e1 : (1 : Int) + (r5 : Int) = ((1 + r5 : Nat) : Int) := by omega
        dsimp only
        rw [e1]
        refine ⟨_, rfl, ?_⟩
        dsimp only [tNoPart]
        refine ⟨_, rfl, _, rfl, _, rfl, szS (by omega), _, _, rfl, rfl, ?_, _, rfl, _, rfl, _, rfl, _, rfl, szS (by omega), _, _, rfl, rfl, ?_, ?_⟩
        · rw [cutS_to, l95]
          exact szl (by rw [List.length_take]; omega) (by decide)
        · rw [cutS_to, cutS_from, l95, S_cat]
          exact szl (by rw [List.length_append, List.length_take]; simp; omega) (by rw [List.length_drop]; omega)
        · rw [cutS_to, cutS_from, l95, S_cat, S_cat, List.append_assoc]
          refine ⟨M5, w.take (1 + r5) ++ 95 :: w.drop (1 + r5), _, rfl, .us _ _ (List.take_append_drop ..).symm ?_ ?_, h5, by omega, (kk3.trans k4).trans k5⟩
          · intro z
            have z2 : min (1 + r5) w.length = 0 := by rw [← List.length_take, z]; rfl
            omega
          · intro z
            have z2 : w.length - (1 + r5) = 0 := by rw [← List.length_drop, z]; rfl
            omega
      · exact ⟨M4, w, _, rfl, .all, h4, by omega, kk3.trans k4⟩
    · exact iteF ⟨M4, w, _, rfl, .all, h4, by omega, kk3.trans k4⟩
  rintro σ H4 ⟨M4, w', x3, rfl, hW, h4, c4, k4⟩
  have hw'l : w'.length ≤ 48 := by have := hW.len.2; omega
  refine ⟨_, rfl, _, _, rfl, rfl, ?_, _, rfl, _, _, rfl, rfl, ?_, ?_⟩
  · rw [l46]
    exact szl (by omega) (by decide)
  · rw [l46, S_cat]
    exact szl (by rw [List.length_append]; simp; omega) (by omega)
  rw [l46, S_cat, S_cat, List.append_assoc]
  refine ⟨fun σ H5 => ∃ (M5 : Stm) (b : List Nat), σ = [some (.ref a), some (.str (S d)), some (.int p), x3, some (.int left), some (.str (S w')), some (.str (S f')), some (.str (S b)), none] ∧ (b = w' ++ 46 :: f' ∨ (f' = [] ∧ b = w')) ∧ StmAt H5 a c M5 ∧ M5.cnt ≤ M.cnt + 6 ∧ Kept a c H H5, ?_, ?_⟩
  · refine ⟨_, rfl, rfl, _, rfl, ite2 (fun cf => ?_) (fun _ => ?_)⟩
    · have f0 : f' = [] := by
        have z := of_decide_eq_true cf
        rw [l0] at z
        exact S_inj (V.str.inj z)
      refine rdC rfl h4 (by omega) (by decide) (by decide) (fun H5 M5 r5 h5 c5 k5 _ => ⟨rfl, _, rfl, ite2 (fun _ => ?_) (fun _ => ?_)⟩)
      · exact ⟨_, rfl, M5, w', rfl, .inr ⟨f0, rfl⟩, h5, by omega, k4.trans k5⟩
      · exact ⟨M5, _, rfl, .inl rfl, h5, by omega, k4.trans k5⟩
    · exact iteF ⟨M4, _, rfl, .inl rfl, h4, by omega, k4⟩
  rintro σ H5 ⟨M5, b, rfl, hb, h5, c5, k5⟩
  have hbl : b.length ≤ 100 := by
    rcases hb with rfl | ⟨_, rfl⟩
    · simp
      omega
    · omega
  refine ⟨fun σ H6 => ∃ (M6 : Stm), σ = [some (.ref a), some (.str (S d)), some (.int p), x3, some (.int left), some (.str (S w')), some (.str (S f')), some (.str (S b)), none] ∧ StmAt H6 a c M6 ∧ M6.cnt ≤ M.cnt + 7 ∧ Kept a c H H6, ?_, ?_⟩
  · refine ⟨_, rfl, rfl, _, rfl, ite2 (fun cl => ?_) (fun _ => ?_)⟩
    · have l0' : left = 0 := by
        rw [dec_int] at cl
        simpa using cl
      refine rdC rfl h5 (by omega) (by decide) (by decide) (fun H6 M6 r6 h6 c6 k6 _ => ⟨rfl, _, rfl, ite2 (fun _ => ?_) (fun _ => ?_)⟩)
      · refine ⟨_, rfl, ?_⟩
        obtain ⟨g1, g2, g3⟩ := spelt_good (tail := []) (x := []) (left := 0) hd (by omega) hwf hdn hW hb .no ⟨rfl, rfl⟩ (by decide) (by rw [← l0']; exact hlf)
        rw [List.append_nil] at g1 g2 g3
        exact q _ M6 b h6 (by omega) (k5.trans k6) g1 g2 g3
      · exact ⟨M6, rfl, h6, by omega, k5.trans k6⟩
    · exact iteF ⟨M5, rfl, h5, by omega, k5⟩
  rintro σ H6 ⟨M6, rfl, h6, c6, k6⟩
  refine ⟨fun σ H7 => ∃ (M7 : Stm) (sg : List Nat), σ = [some (.ref a), some (.str (S d)), some (.int p), x3, some (.int left), some (.str (S w')), some (.str (S f')), some (.str (S b)), some (.str (S sg))] ∧ (((sg = [] ∨ sg = [43]) ∧ 0 ≤ left) ∨ (sg = [45] ∧ left < 0)) ∧ StmAt H7 a c M7 ∧ M7.cnt ≤ M.cnt + 8 ∧ Kept a c H H7, ?_, ?_⟩
  · refine ⟨_, rfl, _, _, rfl, rfl, _, rfl, ite2 (fun cl => ?_) (fun cl => ?_)⟩
    · have cl' : 0 ≤ left := of_decide_eq_true cl
      refine rdP (xs := [.str (Str.ofString ""), .str (Str.ofString "+")]) rfl h6 (by omega) rfl (by decide) (by decide) (fun Q' z => z) (fun H7 M7 x h7 c7 k7 hx => ?_)
      simp only [List.mem_cons, List.not_mem_nil, or_false] at hx
      rcases hx with rfl | rfl
      · exact ⟨M7, [], by rw [← l0]; rfl, .inl ⟨.inl rfl, cl'⟩, h7, by omega, k6.trans k7⟩
      · exact ⟨M7, [43], by rw [← l43]; rfl, .inl ⟨.inr rfl, cl'⟩, h7, by omega, k6.trans k7⟩
    · have cl' : left < 0 := by
        have : ¬ 0 ≤ left := fun z => cl (decide_eq_true z)
        omega
      exact ⟨M6, [45], by rw [← l45]; rfl, .inr ⟨rfl, cl'⟩, h6, by omega, k6⟩
  rintro σ H7 ⟨M7, sg, rfl, hsg, h7, c7, k7⟩
  have hsl : sg.length ≤ 1 := by
    rcases hsg with ⟨rfl | rfl, _⟩ | ⟨rfl, _⟩ <;> decide
  refine ⟨_, rfl, rdP (xs := [.str (Str.ofString "e"), .str (Str.ofString "E")]) rfl h7 (by omega) rfl (by decide) (by decide) (fun Q' z => z) (fun H8 M8 x8 h8 c8 k8 hx8 => ?_)⟩
  obtain ⟨e, rfl, he⟩ : ∃ e : Nat, x8 = .str (S [e]) ∧ (e = 101 ∨ e = 69) := by
    simp only [List.mem_cons, List.not_mem_nil, or_false] at hx8
    rcases hx8 with rfl | rfl
    · exact ⟨101, by rw [← l101], .inl rfl⟩
    · exact ⟨69, by rw [← l69], .inr rfl⟩
  refine ⟨_, _, rfl, rfl, szl (by omega) (by simp), ?_⟩
  rw [S_cat]
  refine ⟨_, rfl, _, _, rfl, rfl, szl (by rw [List.length_append]; simp; omega) (by omega), ?_⟩
  rw [S_cat]
  refine rdP (xs := [.str (Str.ofString ""), .str (S [48])]) rfl h8 (by omega) rfl (by decide) (by decide) (fun Q' z => z) (fun H9 M9 x9 h9 c9 k9 hx9 => ?_)
  obtain ⟨z, rfl, hz⟩ : ∃ z : List Nat, x9 = .str (S z) ∧ (z = [] ∨ z = [48]) := by
    simp only [List.mem_cons, List.not_mem_nil, or_false] at hx9
    rcases hx9 with rfl | rfl
    · exact ⟨[], by rw [← l0], .inl rfl⟩
    · exact ⟨[48], rfl, .inr rfl⟩
  have hzl : z.length ≤ 1 := by rcases hz with rfl | rfl <;> decide
  have ln : left.natAbs < 10 ^ 9 := by
    have : (10 : Nat) ^ 9 = 1000000000 := by decide
    omega
  have hnl : (TL.numL left.natAbs).length ≤ 9 := TL.numL_len (by decide) ln
  refine ⟨_, _, rfl, rfl, szl (by rw [List.length_append, List.length_append]; simp; omega) (by omega), ?_⟩
  rw [S_cat]
  have el : (if left < 0 then -left else left) = ((left.natAbs : Nat) : Int) := by split <;> omega
  refine ⟨_, rfl, _, rfl, _, rfl, ?_, ?_⟩
  · rw [el]
    refine log2_lt' (by decide) (Nat.lt_of_lt_of_le ln ?_)
    calc (10 : Nat) ^ 9 ≤ 2 ^ 30 := by decide
      _ ≤ 2 ^ 1920 := Nat.pow_le_pow_right (by decide) (by decide)
  rw [el, num_S]
  refine ⟨_, _, rfl, rfl, szl (by rw [List.length_append, List.length_append, List.length_append]; simp; omega) (by omega), ?_⟩
  rw [S_cat]
  obtain ⟨q1, q2, q3, q4⟩ := pw_of (sg := sg) (z := z) (left := left) hsg hz ln
  have eT : b ++ [e] ++ sg ++ z ++ TL.numL left.natAbs = b ++ e :: (sg ++ (z ++ TL.numL left.natAbs)) := by simp
  rw [eT]
  have sg3 : sg = [] ∨ sg = [43] ∨ sg = [45] := by
    rcases hsg with ⟨r | r, _⟩ | ⟨r, _⟩
    · exact .inl r
    · exact .inr (.inl r)
    · exact .inr (.inr r)
  obtain ⟨g1, g2, g3⟩ := spelt_good hd (by omega) hwf hdn hW hb (.ex e sg _ he sg3 q3 q4) ⟨q1, q2⟩ (by rw [List.length_append, List.length_append]; omega) hlf
  exact q _ M9 _ h9 (by omega) ((k7.trans k8).trans k9) g1 g2 g3
end
end KN

namespace KN
open PySem PySem.Spec PyProof.Rows L2 SX
abbrev sNum : Stmt := topS 30
abbrev nNum : List Str := ["_law_stream", "_law_way", "_law_many", "_law_digits", "_law_e", "_law_m", "_law_some", "_law_k"]
theorem scNum : FnScope nNum ["_law_stream"] (defScope sNum) := ⟨rfl, rfl, rfl, by decide +kernel, rfl, by decide +kernel, by decide +kernel⟩
structure GoodD (d : List Nat) : Prop where
  dg : d.all dig = true
  ne : d ≠ []
  len : d.length ≤ 45
theorem GoodD.num {n : Nat} (h : n < 10 ^ 45) : GoodD (TL.numL n) := ⟨numL_dig n, TL.numL_ne n, TL.numL_len (by decide) h⟩
theorem log_num {i : Int} {n : Nat} (e : i = (n : Int)) (h : n < 10 ^ 45) : i.natAbs.log2 < 1920 := by
  subst e
  refine log2_lt' (by decide) (Nat.lt_of_lt_of_le h ?_)
  exact Nat.le_trans (Nat.le_of_lt (ten_lt 45)) (Nat.pow_le_pow_right (by decide) (by decide))
theorem str_num {i : Int} {n : Nat} (e : i = (n : Int)) : Str.ofString (toString i) = S (TL.numL n) := by rw [e, num_S]
def digL (zs : List Nat) : List Nat := TL.joinL [] (zs.map TL.numL)
theorem digL_ok : ∀ zs : List Nat, (∀ n ∈ zs, n < 10) → (digL zs).all dig = true ∧ (digL zs).length = zs.length
  | [], _ => ⟨rfl, rfl⟩
  | [n], h => by
    have hn := h n (List.mem_cons_self ..)
    refine ⟨numL_dig n, ?_⟩
    show (TL.numL n).length = 1
    rw [TL.numL_lt hn]
    rfl
  | n :: m :: r, h => by
    have hn := h n (List.mem_cons_self ..)
    obtain ⟨h1, h2⟩ := digL_ok (m :: r) fun x hx => h x (List.mem_cons_of_mem _ hx)
    have e : digL (n :: m :: r) = TL.numL n ++ digL (m :: r) := rfl
    rw [e, TL.numL_lt hn]
    refine ⟨?_, ?_⟩
    · rw [List.all_append, h1, Bool.and_true, ← TL.numL_lt hn]
      exact numL_dig n
    · rw [List.length_append, h2, List.length_cons, List.length_cons (as := m :: r)]
      simp
      omega
def v5 : V → Bool
  | .str x => x.cps.toList.all dig && decide (0 < x.cps.toList.length) && decide (x.cps.toList.length ≤ 40) && decide (10 ≤ NumText.digitsVal x.cps.toList)
  | _ => false
def l5a : List V := [.str "179769313486231570814527423731704356798", .str "17976931348623159077293051907890247336"]
def l5 : List V := l5a ++ [.str "179769313486231580793728971405303415079"]
theorem l5_ok : l5.all v5 = true := by decide +kernel
theorem l5_at {x : V} (h : x ∈ l5) : ∃ d : List Nat, x = .str (S d) ∧ d.all dig = true ∧ d ≠ [] ∧ d.length ≤ 40 ∧ 10 ≤ NumText.digitsVal d := by
  have z := List.all_eq_true.mp l5_ok x h
  cases x with
  | str y =>
    unfold v5 at z
    simp only [Bool.and_eq_true, decide_eq_true_eq] at z
    exact ⟨y.cps.toList, by rw [S_tl], z.1.1.1, fun e => by rw [e] at z; exact absurd z.1.1.2 (by decide), z.1.2, z.2⟩
  | _ => cases z
/-! pairs of digits and a power in the heap -/
def goodV : V × V → Bool
  | (.str x, .int p) => x.cps.toList.all dig && decide (0 < x.cps.toList.length) && decide (x.cps.toList.length ≤ 45) && decide (-1000 ≤ p) && decide (p ≤ 1000)
  | _ => false
def GN (H : Hp) (x : V) : Prop := ∃ (t : Addr) (vw : V × V), x = .ref t ∧ H t = some (.tup [vw.1, vw.2]) ∧ goodV vw = true
theorem GN.up {H H' : Hp} {x : V} (h : GN H x) (s : Same H H') : GN H' x := by
  obtain ⟨t, vw, e, ht, g⟩ := h
  exact ⟨t, vw, e, s _ _ ht, g⟩
theorem GN.get {H : Hp} {x : V} (h : GN H x) : ∃ (t : Addr) (d : List Nat) (p : Int), x = .ref t ∧ H t = some (.tup [.str (S d), .int p]) ∧ GoodD d ∧ -1000 ≤ p ∧ p ≤ 1000 := by
  obtain ⟨t, ⟨v, w⟩, e, ht, g⟩ := h
  cases v with
  | str y =>
    cases w with
    | int p =>
      unfold goodV at g
      simp only [Bool.and_eq_true, decide_eq_true_eq] at g
      exact ⟨t, y.cps.toList, p, e, by rw [S_tl]; exact ht, ⟨g.1.1.1.1, fun z => by rw [z] at g; exact absurd g.1.1.1.2 (by decide), g.1.1.2⟩, g.1.2, g.2⟩
    | _ => cases g
  | _ => cases g
inductive TpL (σ : L2.St) : TA → List (V × V) → Prop
  | nil : TpL σ tNil []
  | cons {t r : TA} {v w : V} {vs : List (V × V)} (ht : ∀ (H : Hp) (Q' : List V → Hp → Prop), Q' [v, w] H → t σ H Q') (hr : TpL σ r vs) : TpL σ (tCons (tTup t) r) ((v, w) :: vs)
theorem TpL.run {σ : L2.St} {r : TA} {vs : List (V × V)} (h : TpL σ r vs) : vs.all goodV = true → ∀ (H : Hp) (Q : List V → Hp → Prop), (∀ (H' : Hp) (xs : List V), Same H H' → xs.length = vs.length → (∀ x ∈ xs, GN H' x) → Q xs H') → r σ H Q := by
  induction h with
  | nil => exact fun _ H Q q => q H [] (Same.refl H) rfl fun x hx => by cases hx
  | @cons t r v w vs ht hr ih =>
    intro hv H Q q
    rw [List.all_cons, Bool.and_eq_true] at hv
    refine ht H _ ⟨by show 2 ≤ sizeLine; decide, fun p np => ?_⟩
    refine ih hv.2 _ _ fun H' xs s hl hx => ?_
    have s0 : Same H (upd H p (.tup [v, w])) := same_new np
    refine q H' (.ref p :: xs) (s0.trans s) (by rw [List.length_cons, List.length_cons, hl]) fun x hm => ?_
    rcases List.mem_cons.mp hm with rfl | hm
    · exact ⟨p, (v, w), rfl, s _ _ upd_same, hv.1⟩
    · exact hx x hm
theorem rdL {σ : L2.St} {r : TA} {vs : List (V × V)} {H : Hp} {Q : VK} (h : TpL σ r vs) (hv : vs.all goodV = true) (hl : vs.length ≤ 1000) (q : ∀ (H' : Hp) (l : Addr) (xs : List V), Same H H' → H l = none → H' l = some (.lst xs) → xs.length = vs.length → (∀ x ∈ xs, GN H' x) → Q (.ref l) H') : tLst r σ H Q := by
  refine h.run hv H _ fun H' xs s e hx => ⟨?_, fun l nl => ?_⟩
  · have : (1000 : Nat) ≤ sizeLine := by decide
    omega
  have hn : H l = none := by
    cases z : H l with
    | none => rfl
    | some o => rw [s _ _ z] at nl; cases nl
  exact q _ l xs (s.trans (same_new nl)) hn upd_same e fun x hm => (hx x hm).up (same_new nl)
def spNum : Sp := fun vs H Q _ => ∃ (a c : Addr) (M : Stm), vs = [.ref a] ∧ StmAt H a c M ∧ M.cnt < 800000 ∧
  ∀ (H' : Hp) (M' : Stm) (t : Addr) (d : List Nat) (p : Int), StmAt H' a c M' → M'.cnt ≤ M.cnt + 60 → Kept a c H H' → H' t = some (.tup [.str (S d), .int p]) → GoodD d → -1000 ≤ p → p ≤ 1000 → Q (.ref t) H'
section
variable {P : Program} {w : World} {K : PySem.W.Frag} {mg : Str → Option Value} {base : Heap}
theorem ok_num {f g e h2 : Addr} {fd gd ed hd : FuncData} (F : Fun K "_law_number" "_law_number" sNum f fd) (Z : Bl mg) (zr : mg "range" = none)
    (D : FnOk P w K mg base CX0 1 g gd ["_law_stream", "_law_many"] spDraw) (bD : Binds K gd ["_law_stream", "_law_many"] []) (kD : PySem.W.keepIn K (.ref g) = true) (mD : mg "_law_draw" = some (.ref g))
    (G : FnOk P w K mg base CX0 2 e ed ["_law_stream", "_law_some"] (spPick K)) (bG : Binds K ed ["_law_stream", "_law_some"] []) (kG : PySem.W.keepIn K (.ref e) = true) (mG : mg "_law_pick" = some (.ref e))
    (T : FnOk P w K mg base CX0 1 h2 hd ["_law_power"] spLTen) (bT : Binds K hd ["_law_power"] []) (kT : PySem.W.keepIn K (.ref h2) = true) (mT : mg "_law_ten" = some (.ref h2)) :
    FnOk P w K mg base CX0 3 f fd ["_law_stream"] spNum := by
  refine F.ok scNum (fun vs H Q E h => ?_) (fun cdv A outer s H vs Q E hr h => ?_)
  · obtain ⟨a, c, M, rfl, _⟩ := h
    rfl
  obtain ⟨a, c, M, rfl, hS, hcnt, q⟩ := h
  have hr1 := hr.mono (show 1 ≤ 2 by decide)
  refine ⟨_, pss_cons (ps_set (i := 1) scNum.nd rfl (.inl rfl) (pe_call D hr1 rfl mD kD bD .nil pass0 (pa_cons (pv 0) (pa_cons pe_int pa_nil))))
    (pss_cons (ps_if (pt_cmpR op_lt (pv 1) pe_int (nomark _))
      (pss_cons (ps_set (i := 2) scNum.nd rfl (.inl rfl) (pe_call D hr1 rfl mD kD bD .nil pass0 (pa_cons (pv 0) (pa_cons pe_int pa_nil))))
      (pss_cons (ps_set (i := 3) scNum.nd rfl (.inl rfl) (pe_op op_add_str (pe_callTy call_str_int (by rfl) Z.st (by decide +kernel) (pa_cons (pe_op op_add pe_int (pe_call D hr1 rfl mD kD bD .nil pass0 (pa_cons (pv 0) (pa_cons pe_int pa_nil)))) pa_nil))
        (pe_join pe_str (pe_lc (own := [("_law_k", 7)]) (g := gName 7) (tt := tYes) rfl scNum.nd (pi_range1 rfl zr (pa_cons (pv 2) pa_nil))
          (blkOk_by (own := [("_law_k", 7)]) (N := nNum) (sc := defScope sNum) (by decide +kernel)) (fun _ _ _ _ _ => pg_name (i := 7) scNum.nd rfl (.inl rfl)) (fun _ _ _ _ _ => pts_nil)
          (fun _ _ _ _ _ => pe_callTy call_str_int (by rfl) Z.st (by decide +kernel) (pa_cons (pe_call D hr1 rfl mD kD bD .nil pass0 (pa_cons (pv 0) (pa_cons pe_int pa_nil))) pa_nil))))))
      (pss_one (ps_ret (pe_tup (pa_cons (pv 3) (pa_cons (pe_ix ix_list (pe_lst (pa_cons pe_int (pa_cons (pe_op op_sub pe_int (pv 2)) (pa_cons (pe_op op_sub (pe_call D hr1 rfl mD kD bD .nil pass0 (pa_cons (pv 0) (pa_cons pe_int pa_nil))) pe_int) (pa_cons (pe_op op_sub (pe_call D hr1 rfl mD kD bD .nil pass0 (pa_cons (pv 0) (pa_cons pe_int pa_nil))) pe_int) pa_nil))))) (pe_call D hr1 rfl mD kD bD .nil pass0 (pa_cons (pv 0) (pa_cons pe_int pa_nil))) (fun _ _ => rfl)) pa_nil))))))) pss_nil)
    (pss_cons (ps_if (pt_cmpR op_lt (pv 1) pe_int (nomark _))
      (pss_cons (ps_set (i := 4) scNum.nd rfl (.inl rfl) (pe_op op_sub (pe_call D hr1 rfl mD kD bD .nil pass0 (pa_cons (pv 0) (pa_cons pe_int pa_nil))) pe_int))
      (pss_cons (ps_set (i := 5) scNum.nd rfl (.inl rfl) (pe_op op_add (pe_op op_add (pe_op op_pow pe_int pe_int) (pe_op op_mul pe_int (pe_op op_add (pe_op op_mul (pe_op op_pow pe_int pe_int) (pe_call D hr1 rfl mD kD bD .nil pass0 (pa_cons (pv 0) (pa_cons (pe_op op_pow pe_int pe_int) pa_nil)))) (pe_call D hr1 rfl mD kD bD .nil pass0 (pa_cons (pv 0) (pa_cons (pe_op op_pow pe_int pe_int) pa_nil)))))) pe_int))
      (pss_cons (ps_if (pt_cmpR op_lt (pv 4) pe_int (nomark _))
        (pss_one (ps_ret (pe_tup (pa_cons (pe_callTy call_str_int (by rfl) Z.st (by decide +kernel) (pa_cons (pe_op op_sub (pe_op op_add (pe_op op_mulX (pv 5) (pe_op op_shrN (pe_call T hr1 rfl mT kT bT .nil pass0 (pa_cons (pe_op op_sub pe_int (pv 4)) pa_nil)) (pe_op op_sub pe_int (pv 4)))) (pe_call D hr1 rfl mD kD bD .nil pass0 (pa_cons (pv 0) (pa_cons pe_int pa_nil)))) pe_int) pa_nil)) (pa_cons (pv 4) pa_nil))))) pss_nil)
      (pss_one (ps_ret (pe_tup (pa_cons (pe_callTy call_str_int (by rfl) Z.st (by decide +kernel) (pa_cons (pe_op op_sub (pe_op op_add (pe_op op_shlW (pv 5) (pv 4)) (pe_call D hr1 rfl mD kD bD .nil pass0 (pa_cons (pv 0) (pa_cons pe_int pa_nil)))) pe_int) pa_nil)) (pa_cons pe_int pa_nil)))))))) pss_nil)
    (pss_cons (ps_if (pt_cmpR op_eq (pv 1) pe_int (nomark _))
      (pss_cons (ps_set (i := 6) scNum.nd rfl (.inl rfl) (pe_lst (pa_cons pe_str (pa_cons pe_str pa_nil))))
      (pss_cons (ps_expr (pe_bm PySem.F.plainAttrs_list PySem.F.slot_list_append PySem.F.type_list_append mt_append (pv 6) (pa_cons pe_str pa_nil)))
      (pss_cons (ps_set (i := 3) scNum.nd rfl (.inl rfl) (pe_ix ix_list (pv 6) (pe_call D hr1 rfl mD kD bD .nil pass0 (pa_cons (pv 0) (pa_cons pe_int pa_nil))) (fun _ _ => rfl)))
      (pss_one (ps_ret (pe_tup (pa_cons (pe_callTy call_str_int (by rfl) Z.st (by decide +kernel) (pa_cons (pe_op op_sub (pe_op op_add (pe_callTy call_int_str (by rfl) Z.it (by decide +kernel) (pa_cons (pv 3) pa_nil)) (pe_call D hr1 rfl mD kD bD .nil pass0 (pa_cons (pv 0) (pa_cons pe_int pa_nil)))) pe_int) pa_nil)) (pa_cons (pe_op op_sub pe_int (pe_callB call_len_str rfl Z.ln PySem.boot_len (pa_cons (pv 3) pa_nil))) pa_nil)))))))) pss_nil)
    (pss_cons (ps_set (i := 6) scNum.nd rfl (.inl rfl) (pe_lst (pa_cons (pe_tup (pa_cons pe_str (pa_cons (pe_un un_neg pe_int) pa_nil))) (pa_cons (pe_tup (pa_cons pe_str (pa_cons (pe_un un_neg pe_int) pa_nil))) (pa_cons (pe_tup (pa_cons pe_str (pa_cons (pe_un un_neg pe_int) pa_nil))) (pa_cons (pe_tup (pa_cons pe_str (pa_cons (pe_un un_neg pe_int) pa_nil))) pa_nil))))))
    (pss_cons (ps_set (i := 6) scNum.nd rfl (.inl rfl) (pe_op op_cat (pv 6) (pe_lst (pa_cons (pe_tup (pa_cons pe_str (pa_cons (pe_un un_neg pe_int) pa_nil))) (pa_cons (pe_tup (pa_cons pe_str (pa_cons (pe_un un_neg pe_int) pa_nil))) (pa_cons (pe_tup (pa_cons pe_str (pa_cons pe_int pa_nil))) (pa_cons (pe_tup (pa_cons pe_str (pa_cons pe_int pa_nil))) (pa_cons (pe_tup (pa_cons pe_str (pa_cons pe_int pa_nil))) pa_nil))))))))
    (pss_one (ps_ret (pe_call G hr rfl mG kG bG .nil pass0 (pa_cons (pv 0) (pa_cons (pe_op op_cat (pv 6) (pe_lst (pa_cons (pe_tup (pa_cons pe_str (pa_cons pe_int pa_nil))) pa_nil))) pa_nil)))))))))), ?_⟩
  have fin : ∀ (H1 : Hp) (M1 : Stm) (d : List Nat) (p : Int), StmAt H1 a c M1 → M1.cnt ≤ M.cnt + 60 → Kept a c H H1 → GoodD d → -1000 ≤ p → p ≤ 1000 → 2 ≤ sizeLine ∧ ∀ t, H1 t = none → Q (.ref t) (upd H1 t (.tup [.str (S d), .int p])) := fun H1 M1 d p h1 c1 k1 g p0 p1 =>
    ⟨by decide, fun t nt => q _ M1 t d p (h1.keep (same_new nt)) c1 (k1.trans (Kept.same (same_new nt))) upd_same g p0 p1⟩
  have zS : (4000 : Nat) ≤ sizeLine := by decide
  have szl : ∀ {x y : List Nat}, x.length ≤ 2000 → y.length ≤ 2000 → (S x).length + (S y).length ≤ sizeLine := fun hx hy => by
    rw [S_len, S_len]
    omega
  have q0 := q
  clear q
  refine rdC rfl hS (by omega) (by decide) (by decide) (fun H1 M1 way h1 c1 k1 lw => ?_)
  refine ⟨_, rfl, _, _, rfl, rfl, _, rfl, ite2 (fun _ => ?_) (fun _ => ?_)⟩
  · refine rdC rfl h1 (by omega) (by decide) (by decide) (fun H2 M2 m h2 c2 k2 lm => ?_)
    refine rdC rfl h2 (by omega) (by decide) (by decide) (fun H3 M3 r3 h3 c3 k3 l3 => ⟨_, _, rfl, rfl, _, rfl, ?_, ?_⟩)
    · exact log_num (n := 1 + r3) (by omega) (by have : (10 : Nat) ^ 1 ≤ 10 ^ 45 := Nat.pow_le_pow_right (by decide) (by decide)
                                                 omega)
    have e1 : (1 : Int) + (r3 : Int) = ((1 + r3 : Nat) : Int) := by omega
    rw [str_num e1]
    refine ⟨⟨_, rfl⟩, _, rfl, _, rfl, by omega, by omega, fun D0 nD => ?_⟩
    have Da : a ≠ D0 := ne_of_none h3.lst nD
    have Dc : c ≠ D0 := ne_of_none h3.cel nD
    have lm' : m < 36 := by omega
    refine lc_range (lo := 0) (n := ((m : Int)).toNat) (fun j H4 => ∃ (M4 : Stm) (zs : List Nat), StmAt H4 a c M4 ∧ M4.cnt ≤ M3.cnt + (j : Int) ∧ Kept a c H3 H4 ∧ H4 D0 = some (.lst ((zs.map fun n => S (TL.numL n)).map V.str)) ∧ zs.length = j ∧ ∀ n ∈ zs, n < 10)
      ⟨M3, [], h3.keep (same_new nD), by omega, Kept.same (same_new nD), upd_same, rfl, fun n hn => by cases hn⟩ ?_ ?_
    · rintro j H4 hj ⟨M4, zs, h4, hc4, k4, hD4, hl4, lo4⟩
      refine ⟨rfl, ?_⟩
      unfold tYes
      refine iteT ?_
      refine rdC rfl h4 (by omega) (by decide) (by decide) (fun H5 M5 n h5 c5 k5 ln => ⟨_, rfl, log_num (n := n) rfl (Nat.lt_of_lt_of_le (show n < 10 ^ 1 by omega) (Nat.pow_le_pow_right (by decide) (by decide))), ?_⟩)
      rw [num_S]
      have hD5 := k5 _ _ Da.symm Dc.symm hD4
      refine ⟨_, hD5, by rw [List.length_map, List.length_map]; omega, M5, zs ++ [n], ⟨by rw [upd_ne Da]; exact h5.lst, by rw [upd_ne Dc]; exact h5.cel, h5.ne, h5.len, h5.cur0, h5.cnt0, h5.mix0, h5.mix1⟩, by omega, ?_, ?_, by rw [List.length_append, hl4]; rfl, ?_⟩
      · intro b o n1 n2 e
        rw [upd_ne (ne_of_none e nD)]
        exact k5 _ _ n1 n2 (k4 _ _ n1 n2 e)
      · rw [upd_same, List.map_append, List.map_append]
        rfl
      · intro n' hn'
        rcases List.mem_append.mp hn' with z | z
        · exact lo4 n' z
        · rw [List.mem_singleton.mp z]; omega
    · rintro H4 ⟨M4, zs, h4, hc4, k4, hD4, hl4, lo4⟩
      obtain ⟨jd, jl⟩ := digL_ok zs lo4
      have ej : Txt.join (S []) (zs.map fun n => S (TL.numL n)) = S (digL zs) := by
        have := join_S [] (zs.map TL.numL)
        rw [List.map_map] at this
        exact this
      have hsum : ((zs.map fun n => S (TL.numL n)).map (·.length)).sum = zs.length := by
        clear hD4 hl4 jd jl ej
        induction zs with
        | nil => rfl
        | cons n r ih =>
          have hn := lo4 n (List.mem_cons_self ..)
          rw [List.map_cons, List.map_cons, List.sum_cons, ih fun x hx => lo4 x (List.mem_cons_of_mem _ hx), List.length_cons, S_len, TL.numL_lt hn]
          show 1 + _ = _
          omega
      refine ⟨S [], D0, zs.map fun n => S (TL.numL n), by rw [l0], rfl, .inl (SqL.of hD4), ?_, ?_⟩
      · rw [hsum, S_len, List.length_map]
        show zs.length + zs.length * 0 ≤ _
        omega
      rw [ej]
      have n1 : (TL.numL (1 + r3)).length ≤ 2 := TL.numL_len (by decide) (by omega)
      refine ⟨_, _, rfl, rfl, szl (by omega) (by omega), ?_⟩
      rw [S_cat]
      have gd : GoodD (TL.numL (1 + r3) ++ digL zs) := ⟨by rw [List.all_append, numL_dig, jd]; rfl, fun z => TL.numL_ne _ (List.append_eq_nil_iff.mp z).1, by rw [List.length_append]; omega⟩
      have k14 := ((k1.trans k2).trans k3).trans k4
      clear n1 jd jl ej hsum hD4 hl4 lo4
      generalize TL.numL (1 + r3) ++ digL zs = d at gd ⊢
      refine ⟨_, rfl, _, rfl, _, _, rfl, rfl, ?_⟩
      refine rdC rfl h4 (by omega) (by decide) (by decide) (fun H5 M5 r5 h5 c5 k5 l5 => ⟨_, _, rfl, rfl, ?_⟩)
      refine rdC rfl h5 (by omega) (by decide) (by decide) (fun H6 M6 r6 h6 c6 k6 l6 => ⟨_, _, rfl, rfl, ?_⟩)
      refine ⟨by show 4 ≤ sizeLine; decide, fun l nl => ⟨_, rfl, rd_pick (E := E0) (xs := [.int 0, .int (0 - (m : Int)), .int ((r5 : Int) - 350), .int ((r6 : Int) - 30)]) (n := 4) h6 (by omega) rfl (by show 0 < 4; decide) (by show 4 ≤ 1000; decide) (fun H7 M7 x7 h7 c7 k7 hx7 => ?_) l nl⟩⟩
      obtain ⟨p, rfl, hp⟩ : ∃ p : Int, x7 = .int p ∧ -1000 ≤ p ∧ p ≤ 1000 := by
        simp only [List.mem_cons, List.not_mem_nil, or_false] at hx7
        rcases hx7 with rfl | rfl | rfl | rfl
        · exact ⟨_, rfl, by omega⟩
        · exact ⟨_, rfl, by omega⟩
        · exact ⟨_, rfl, by omega⟩
        · exact ⟨_, rfl, by omega⟩
      exact fin H7 M7 d p h7 (by omega) (((k14.trans k5).trans k6).trans k7) gd hp.1 hp.2
  refine ⟨_, rfl, _, _, rfl, rfl, _, rfl, ite2 (fun _ => ?_) (fun _ => ?_)⟩
  · refine rdC rfl h1 (by omega) (by decide) (by decide) (fun H2 M2 r2 h2 c2 k2 l2 => ⟨_, _, rfl, rfl, ?_⟩)
    obtain ⟨e, ee, e0, e1⟩ : ∃ e : Int, e = (r2 : Int) - 30 ∧ -30 ≤ e ∧ e ≤ 64 := ⟨_, rfl, by omega, by omega⟩
    dsimp only
    rw [← ee]
    clear ee
    have p26 : (2 : Int) ^ (26 : Int).toNat = 67108864 := by rfl
    have p53 : (2 : Int) ^ (53 : Int).toNat = 9007199254740992 := by rfl
    refine ⟨_, _, rfl, rfl, ⟨by decide, by decide, by decide⟩, _, _, rfl, rfl, ⟨by decide, by decide, by decide⟩, _, rfl, _, _, rfl, rfl, ⟨by decide, by decide, by decide⟩, ?_⟩
    dsimp only
    rw [p26, p53]
    dsimp only [tNil]
    refine rd_draw (E := E0) (n := 67108864) h2 (by omega) (by decide) (by decide) fun H3 M3 r3 h3 c3 k3 l3 => ⟨_, _, rfl, rfl, .inl ⟨by decide, by decide⟩, ?_⟩
    refine ⟨_, rfl, _, _, rfl, rfl, ⟨by decide, by decide, by decide⟩, ?_⟩
    dsimp only
    rw [p26]
    dsimp only [tNil]
    refine rd_draw (E := E0) (n := 67108864) h3 (by omega) (by decide) (by decide) fun H4 M4 r4 h4 c4 k4 l4 => ⟨_, _, rfl, rfl, _, _, rfl, rfl, .inl ⟨by decide, by decide⟩, _, _, rfl, rfl, _, _, rfl, rfl, ?_⟩
    obtain ⟨m, em, m0, m1⟩ : ∃ m : Nat, 9007199254740992 + 2 * (67108864 * (r3 : Int) + (r4 : Int)) + 1 = (m : Int) ∧ 0 < m ∧ m < 2 ^ 55 := ⟨9007199254740992 + 2 * (67108864 * r3 + r4) + 1, by omega, by omega, by
      have : (2 : Nat) ^ 55 = 36028797018963968 := by decide
      omega⟩
    dsimp only
    rw [em]
    clear em
    have kk := ((k1.trans k2).trans k3).trans k4
    refine ⟨_, rfl, _, _, rfl, rfl, _, rfl, ite2 (fun ce => ?_) (fun ce => ?_)⟩
    · have ce' : e < 0 := of_decide_eq_true ce
      obtain ⟨k, ek, k30⟩ : ∃ k : Nat, 0 - e = (k : Int) ∧ k ≤ 30 := ⟨(0 - e).toNat, by omega, by omega⟩
      have eV : [V.int (0 - e)] = [V.int (k : Int)] := by rw [ek]
      have eV1 : V.int (0 - e) = V.int (k : Int) := by rw [ek]
      have e5 : ((10 ^ k : Nat) : Int) / 2 ^ k = ((5 ^ k : Nat) : Int) := by
        have h1 : (10 : Nat) ^ k = 5 ^ k * 2 ^ k := by rw [← Nat.mul_pow]
        have h2 : 10 ^ k / 2 ^ k = 5 ^ k := by rw [h1, Nat.mul_div_cancel _ (Nat.two_pow_pos k)]
        have h3 : ((10 ^ k : Nat) : Int) / ((2 ^ k : Nat) : Int) = ((10 ^ k / 2 ^ k : Nat) : Int) := rfl
        rw [h2, Int.natCast_pow] at h3
        exact h3
      have l5 : 5 ^ k < 2 ^ 70 := Nat.lt_of_le_of_lt (Nat.pow_le_pow_right (by decide) k30) (by decide)
      have g5 : 0 < 5 ^ k := Nat.pow_pos (by decide)
      refine ⟨_, rfl, _, rfl, _, _, rfl, rfl, k, eV, by omega, fun H5 s5 => ⟨_, rfl, _, _, rfl, rfl, _, k, rfl, eV1, ?_⟩⟩
      rw [e5]
      generalize 5 ^ k = F5 at l5 g5 ⊢
      refine ⟨_, _, rfl, rfl, ?_, ?_⟩
      · show ((Builtin.Int.intBits (m : Int) : Nat) : Int) + ((Builtin.Int.intBits (F5 : Int) : Nat) : Int) ≤ 134217728
        have b1 := bits_lt m1
        have b2 := bits_lt l5
        omega
      have h5 := h4.keep s5
      refine rdC rfl h5 (by omega) (by decide) (by decide) (fun H6 M6 r6 h6 c6 k6 l6 => ⟨_, _, rfl, rfl, _, _, rfl, rfl, _, rfl, ?_⟩)
      have mf : 0 < m * F5 := Nat.mul_pos m0 g5
      have mfl : m * F5 < 2 ^ 125 := by
        calc m * F5 ≤ m * 2 ^ 70 := Nat.mul_le_mul_left _ (Nat.le_of_lt l5)
          _ < 2 ^ 55 * 2 ^ 70 := Nat.mul_lt_mul_of_pos_right m1 (Nat.two_pow_pos _)
          _ = 2 ^ 125 := (Nat.pow_add 2 55 70).symm
      have t125 : (2 : Nat) ^ 125 + 10 < 10 ^ 45 := by decide
      have eI : (m : Int) * (F5 : Int) + (r6 : Int) - 1 = ((m * F5 + r6 - 1 : Nat) : Int) := by
        rw [← Int.natCast_mul]
        omega
      have nl : m * F5 + r6 - 1 < 10 ^ 45 := by omega
      refine ⟨log_num eI nl, ?_⟩
      dsimp only
      rw [str_num eI]
      refine ⟨_, rfl, ?_⟩
      exact fin H6 M6 _ e h6 (by omega) ((kk.trans (Kept.same s5)).trans k6) (.num nl) (by omega) (by omega)
    · have ce' : 0 ≤ e := by
        have : ¬ e < 0 := fun z => ce (decide_eq_true z)
        omega
      obtain ⟨k, rfl⟩ : ∃ k : Nat, e = (k : Int) := ⟨e.toNat, by omega⟩
      have k64 : k ≤ 64 := by omega
      have eP : (2 : Int) ^ ((k : Int)).toNat = ((2 ^ k : Nat) : Int) := by rw [Int.toNat_natCast, Int.natCast_pow]; rfl
      have g2 : 0 < 2 ^ k := Nat.two_pow_pos k
      have l2k : 2 ^ k ≤ 2 ^ 64 := Nat.pow_le_pow_right (by decide) k64
      refine ⟨_, rfl, _, rfl, _, _, rfl, rfl, ⟨by omega, ?_⟩, ?_⟩
      · have b1 := bits_lt m1
        show ((Builtin.Int.intBits (m : Int) : Nat) : Int) + (k : Int) ≤ 2 ^ 27
        have : (2 : Int) ^ 27 = 134217728 := by decide
        omega
      try dsimp only
      rw [eP]
      generalize 2 ^ k = F5 at l2k g2 ⊢
      refine rdC rfl h4 (by omega) (by decide) (by decide) (fun H6 M6 r6 h6 c6 k6 l6 => ⟨_, _, rfl, rfl, _, _, rfl, rfl, _, rfl, ?_⟩)
      have mf : 0 < m * F5 := Nat.mul_pos m0 g2
      have mfl : m * F5 < 2 ^ 119 := by
        calc m * F5 ≤ m * 2 ^ 64 := Nat.mul_le_mul_left _ l2k
          _ < 2 ^ 55 * 2 ^ 64 := Nat.mul_lt_mul_of_pos_right m1 (Nat.two_pow_pos _)
          _ = 2 ^ 119 := (Nat.pow_add 2 55 64).symm
      have t119 : (2 : Nat) ^ 119 + 10 < 10 ^ 45 := by decide
      have eI : (m : Int) * (F5 : Int) + (r6 : Int) - 1 = ((m * F5 + r6 - 1 : Nat) : Int) := by
        rw [← Int.natCast_mul]
        omega
      have nl : m * F5 + r6 - 1 < 10 ^ 45 := by omega
      refine ⟨log_num eI nl, ?_⟩
      try dsimp only
      rw [str_num eI]
      exact fin H6 M6 _ 0 h6 (by omega) (kk.trans k6) (.num nl) (by omega) (by omega)
  refine ⟨_, rfl, rfl, _, rfl, ite2 (fun _ => ?_) (fun _ => ?_)⟩
  · refine ⟨by show 2 ≤ sizeLine; decide, fun l nl => ?_⟩
    have la : a ≠ l := ne_of_none h1.lst nl
    have lc : c ≠ l := ne_of_none h1.cel nl
    refine ⟨_, rfl, .inl ⟨rfl, _, SqL.of upd_same⟩, l, l5a, _, rfl, rfl, upd_same, by show 2 < sizeLine; decide, ?_⟩
    have hl : (upd (upd H1 l (.lst l5a)) l (.lst l5)) l = some (.lst l5) := upd_same
    have h2 : StmAt (upd (upd H1 l (.lst l5a)) l (.lst l5)) a c M1 := ⟨by rw [upd_ne la, upd_ne la]; exact h1.lst, by rw [upd_ne lc, upd_ne lc]; exact h1.cel, h1.ne, h1.len, h1.cur0, h1.cnt0, h1.mix0, h1.mix1⟩
    have k2 : Kept a c H1 (upd (upd H1 l (.lst l5a)) l (.lst l5)) := fun b o _ _ e => by rw [upd_ne (ne_of_none e nl), upd_ne (ne_of_none e nl)]; exact e
    refine ⟨_, rfl, rdC rfl h2 (by omega) (by decide) (by decide) (fun H3 M3 r3 h3 c3 k3 l3 => ?_)⟩
    have hj : r3 < l5.length := by
      have : l5.length = 3 := rfl
      omega
    obtain ⟨d, ed, hd, hn, hdl, hv⟩ := l5_at (List.getElem_mem hj)
    refine ⟨l, l5, (r3 : Int), l5[r3], rfl, rfl, SqL.of (k3 _ _ la.symm lc.symm hl), atI_nat (List.getElem?_eq_getElem hj), ?_⟩
    rw [ed]
    refine ⟨_, rfl, S d, _, rfl, int_S hd hn (by omega), by rw [S_len]; omega, ?_⟩
    refine rdC rfl h3 (by omega) (by decide) (by decide) (fun H6 M6 r6 h6 c6 k6 l6 => ⟨_, _, rfl, rfl, _, _, rfl, rfl, _, rfl, ?_⟩)
    have vl := Nat.lt_of_lt_of_le (val_lt hd) (Nat.pow_le_pow_right (show 0 < 10 by decide) hdl)
    generalize NumText.digitsVal d = N at hv vl ⊢
    have eI : (N : Int) + (r6 : Int) - 1 = ((N + r6 - 1 : Nat) : Int) := by omega
    have t40 : (10 : Nat) ^ 40 + 10 < 10 ^ 45 := by decide
    have nl : N + r6 - 1 < 10 ^ 45 := by omega
    refine ⟨log_num eI nl, ?_⟩
    dsimp only
    rw [str_num eI]
    refine ⟨_, rfl, _, rfl, szS (by omega), _, _, rfl, rfl, ?_⟩
    have e309 : (309 : Int) - ((S d).length : Int) = 309 - (d.length : Int) := by rw [S_len]
    dsimp only
    rw [e309]
    exact fin H6 M6 _ _ h6 (by omega) (((k1.trans k2).trans k3).trans k6) (.num nl) (by omega) (by omega)
  · dsimp only [tNext, tSeq, tAsg]
    refine rdL (vs := [(.str "24703282292062327208", .int (-343)), (.str "24703282292062327209", .int (-343)), (.str "49406564584124654", .int (-340)), (.str "1", .int (-400))]) ?_ (by decide +kernel) (by decide) (fun H2 p2 xs2 s2 n2 h2 e2 g2 => ?_)
    · exact .cons (fun _ _ z => ⟨_, rfl, z⟩) (.cons (fun _ _ z => ⟨_, rfl, z⟩) (.cons (fun _ _ z => ⟨_, rfl, z⟩) (.cons (fun _ _ z => ⟨_, rfl, z⟩) .nil)))
    refine ⟨_, rfl, ?_⟩
    dsimp only
    refine rdL (vs := [(.str "22250738585072011", .int (-324)), (.str "22250738585072014", .int (-324)), (.str "1", .int 308), (.str "2", .int 308), (.str "1", .int 400)]) ?_ (by decide +kernel) (by decide) (fun H3 p3 xs3 s3 n3 h3 e3 g3 => ?_)
    · exact .cons (fun _ _ z => ⟨_, rfl, z⟩) (.cons (fun _ _ z => ⟨_, rfl, z⟩) (.cons (fun _ _ z => z) (.cons (fun _ _ z => z) (.cons (fun _ _ z => z) .nil))))
    have e2 : xs2.length = 4 := e2
    have e3 : xs3.length = 5 := e3
    refine ⟨p2, p3, xs2, xs3, rfl, rfl, s3 _ _ h2, h3, by omega, fun p4 n4 => ?_⟩
    have s4 : Same H3 (upd H3 p4 (.lst (xs2 ++ xs3))) := same_new n4
    have h4 : (upd H3 p4 (.lst (xs2 ++ xs3))) p4 = some (.lst (xs2 ++ xs3)) := upd_same
    generalize upd H3 p4 (.lst (xs2 ++ xs3)) = H4 at s4 h4 ⊢
    refine ⟨_, rfl, _, rfl, ?_⟩
    dsimp only
    refine rdL (vs := [(.str "0", .int 5)]) ?_ (by decide +kernel) (by decide) (fun H5 p5 xs5 s5 n5 h5 e5 g5 => ?_)
    · exact .cons (fun _ _ z => z) .nil
    have e5 : xs5.length = 1 := e5
    refine ⟨p4, p5, xs2 ++ xs3, xs5, rfl, rfl, s5 _ _ h4, h5, by rw [List.length_append]; omega, fun p6 n6 => ?_⟩
    have s6 : Same H5 (upd H5 p6 (.lst (xs2 ++ xs3 ++ xs5))) := same_new n6
    have h6 : (upd H5 p6 (.lst (xs2 ++ xs3 ++ xs5))) p6 = some (.lst (xs2 ++ xs3 ++ xs5)) := upd_same
    generalize upd H5 p6 (.lst (xs2 ++ xs3 ++ xs5)) = H6 at s6 h6 ⊢
    have s15 := ((s2.trans s3).trans s4).trans s5
    have s16 := s15.trans s6
    refine ⟨a, c, p6, M1, xs2 ++ xs3 ++ xs5, rfl, h1.keep s16, by omega, h6, (ne_of_none (s15 _ _ h1.lst) n6).symm, (ne_of_none (s15 _ _ h1.cel) n6).symm, by rw [List.length_append, List.length_append]; omega, by rw [List.length_append, List.length_append]; omega, fun H' M' x h' hc k hx => ?_⟩
    have gx : GN H6 x := by
      rcases List.mem_append.mp hx with hx | hx
      · rcases List.mem_append.mp hx with hx | hx
        · exact (g2 x hx).up (((s3.trans s4).trans s5).trans s6)
        · exact (g3 x hx).up ((s4.trans s5).trans s6)
      · exact (g5 x hx).up s6
    obtain ⟨t, d, p, rfl, ht, gd, g0, g1⟩ := gx.get
    have hA := h1.keep s16
    have ta : t ≠ a := fun z => by rw [z, hA.lst] at ht; cases ht
    have tc : t ≠ c := fun z => by rw [z, hA.cel] at ht; cases ht
    exact q0 H' M' t d p h' (by omega) ((k1.trans (Kept.same s16)).trans k) (k t _ ta tc ht) gd g0 g1
end
end KN

namespace KN
open PySem PySem.Spec PyProof.Rows L2 SX
abbrev sLaw : Stmt := topS 33
abbrev nLaw : List Str := ["_law_script", "_law_stream", "_law_turn", "_law_digits", "_law_power"]
theorem scLaw : FnScope nLaw ["_law_script"] (defScope sLaw) := ⟨rfl, rfl, rfl, by decide +kernel, rfl, by decide +kernel, by decide +kernel⟩
def spLaw (K : PySem.W.Frag) : Sp := fun vs H Q _ => ∃ (a : Addr) (ns : List Int), vs = [.ref a] ∧ SqL K H a (ns.map V.int) ∧ ns.length ≤ 63 ∧ ∀ H', Q (.bl true) H'
structure LawF (P : Program) (w : World) (K : PySem.W.Frag) (mg : Str → Option Value) (base : Heap) (C : Addr) (fN fS fF fI fR fO : Addr) (dN dS dF dI dR dO : FuncData) : Prop where
  zl : mg "list" = none
  zr : mg "range" = none
  zi : mg "int" = none
  N : FnOk P w K mg base CX0 3 fN dN ["_law_stream"] spNum
  bN : Binds K dN ["_law_stream"] []
  kN : PySem.W.keepIn K (.ref fN) = true
  mN : mg "_law_number" = some (.ref fN)
  S : FnOk P w K mg base CX0 2 fS dS ["_law_stream", "_law_digits", "_law_power"] spSp
  bS : Binds K dS ["_law_stream", "_law_digits", "_law_power"] []
  kS : PySem.W.keepIn K (.ref fS) = true
  mS : mg "_law_spelt" = some (.ref fS)
  F : FnOk P w K mg base CX0 5 fF dF ["text"] (spFo C)
  bF : Binds K dF ["text"] []
  kF : PySem.W.keepIn K (.ref fF) = true
  mF : mg "float_of" = some (.ref fF)
  I : FnOk P w K mg base CX0 4 fI dI ["_law_found", "_law_number_here", "_law_power"] (spIsN C)
  bI : Binds K dI ["_law_found", "_law_number_here", "_law_power"] []
  kI : PySem.W.keepIn K (.ref fI) = true
  mI : mg "_law_is_near" = some (.ref fI)
  R : FnOk P w K mg base CX0 6 fR dR ["_law_text"] spRef
  bR : Binds K dR ["_law_text"] []
  kR : PySem.W.keepIn K (.ref fR) = true
  mR : mg "_law_refused" = some (.ref fR)
  O : FnOk P w K mg base CX0 3 fO dO ["_law_stream"] spOdd
  bO : Binds K dO ["_law_stream"] []
  kO : PySem.W.keepIn K (.ref fO) = true
  mO : mg "_law_odd_text" = some (.ref fO)
section
variable {P : Program} {w : World} {K : PySem.W.Frag} {mg : Str → Option Value} {base : Heap} {C fN fS fF fI fR fO : Addr} {dN dS dF dI dR dO : FuncData}
theorem law_body {f : Addr} {cdv : Value} {A : Around} {outer : List Env} {s : Shared} {H : Hp} {vs : List V} {Q : VK} {E : XK} (L : LawF P w K mg base C fN fS fF fI fR fO dN dS dF dI dR dO)
    (hr : Room 7 (A.deeper (envOfC "law" (defScope sLaw) s.heap.objs.size f cdv))) (h : spLaw K vs H Q E) :
    ∃ t, PSs (cxOf CX0 P w K mg base nLaw "law" (defScope sLaw) f cdv A outer s H E).nox (defBody sLaw) t ∧ t { nx := fun _ H' => Q .non H', rt := Q } (start nLaw vs) H := by
  obtain ⟨sc, ns, rfl, hsc, h63, q⟩ := h
  have hr2 := hr.mono (show 2 ≤ 7 by omega)
  have hr3 := hr.mono (show 3 ≤ 7 by omega)
  have hr4 := hr.mono (show 4 ≤ 7 by omega)
  have hr5 := hr.mono (show 5 ≤ 7 by omega)
  have hr6 := hr.mono (show 6 ≤ 7 by omega)
  refine ⟨_, pss_cons (ps_set (i := 1) scLaw.nd rfl (.inl rfl) (pe_lst (pa_cons (pe_callTy call_list_of (by rfl) L.zl (by decide +kernel) (pa_cons (pv 0) pa_nil)) (pa_cons pe_int (pa_cons pe_int (pa_cons pe_int pa_nil))))))
    (pss_cons (ps_for PassesOwn.never rfl (pi_range1 rfl L.zr (pa_cons pe_int pa_nil)) (pg_name (i := 2) scLaw.nd rfl (.inl rfl))
      (pss_cons (ps_asg (pe_call L.N hr3 rfl L.mN L.kN L.bN .nil pass0 (pa_cons (pv 1) pa_nil)) (pg_tup (by rfl) (pgs_cons (pg_name (i := 3) scLaw.nd rfl (.inl rfl)) (pgs_cons (pg_name (i := 4) scLaw.nd rfl (.inl rfl)) pgs_nil))))
      (pss_cons (ps_if (pt_not (pt_val (pe_call L.I hr4 rfl L.mI L.kI L.bI .nil pass0 (pa_cons (pe_call L.F hr5 rfl L.mF L.kF L.bF .nil pass0 (pa_cons (pe_call L.S hr2 rfl L.mS L.kS L.bS .nil pass0 (pa_cons (pv 1) (pa_cons (pv 3) (pa_cons (pv 4) pa_nil)))) pa_nil))
          (pa_cons (pe_callTy call_int_str (by rfl) L.zi (by decide +kernel) (pa_cons (pv 3) pa_nil)) (pa_cons (pv 4) pa_nil)))))) (pss_one (ps_ret pe_bl)) pss_nil)
      (pss_one (ps_if (pt_not (pt_val (pe_call L.R hr6 rfl L.mR L.kR L.bR .nil pass0 (pa_cons (pe_call L.O hr3 rfl L.mO L.kO L.bO .nil pass0 (pa_cons (pv 1) pa_nil)) pa_nil)))) (pss_one (ps_ret pe_bl)) pss_nil)))))
    (pss_one (ps_ret pe_bl))), ?_⟩
  refine ⟨_, rfl, sc, _, rfl, .inl hsc, fun c0 nc0 => ⟨by show 4 ≤ sizeLine; decide, fun a0 na0 => ?_⟩⟩
  have ac : a0 ≠ c0 := fun z => by rw [z, upd_same] at na0; cases na0
  have h0 : StmAt (upd (upd H c0 (.lst (ns.map V.int))) a0 (.lst [.ref c0, .int 0, .int 0, .int 0])) a0 c0 ⟨ns, 0, 0, 0⟩ :=
    ⟨upd_same, by rw [upd_ne ac.symm, upd_same], ac, h63, Int.le_refl 0, Int.le_refl 0, Int.le_refl 0, by show (0 : Int) < 2147483647; decide⟩
  generalize upd (upd H c0 (.lst (ns.map V.int))) a0 (.lst [.ref c0, .int 0, .int 0, .int 0]) = H0 at h0 ⊢
  clear hsc nc0 na0
  refine ⟨10, rfl, by decide, by decide, for_range (lo := 0) (n := 10) (fun i σ H1 => ∃ (M : Stm) (x2 x3 x4 : Option V), σ = [some (.ref sc), some (.ref a0), x2, x3, x4] ∧ StmAt H1 a0 c0 M ∧ M.cnt ≤ (i : Int) * 100)
    ⟨⟨ns, 0, 0, 0⟩, none, none, none, rfl, h0, by show (0 : Int) ≤ _; omega⟩ ?_ ?_⟩
  rotate_left
  · rintro σ H1 ⟨M, x2, x3, x4, rfl, _, _⟩
    exact q H1
  clear h0
  rintro i σ H hi ⟨M, x2, x3, x4, rfl, hS, hc0⟩
  refine ⟨_, rfl, a0, c0, M, rfl, hS, by omega, fun H1 M1 t d p h1 hc1 k1 ht gd g0 g1 => ?_⟩
  refine ⟨t, _, rfl, SqT.of ht, rfl, _, _, rfl, _, _, rfl, rfl, ?_⟩
  refine ⟨_, rfl, _, rfl, _, rfl, a0, c0, M1, d, p, rfl, h1, by omega, gd.dg, gd.ne, gd.len, g0, g1, fun H2 M2 x h2 hc2 k2 gt ev ep => ?_⟩
  refine ⟨x, rfl, gt, fun H3 y m e hF s3 hy => ?_⟩
  rw [ev, ep] at hF
  have gl := gd.len
  have vl : NumText.digitsVal d < 2 ^ 1000 := Nat.lt_of_lt_of_le (val_lt gd.dg) (Nat.le_trans (Nat.pow_le_pow_right (by decide) gl) (Nat.le_trans (Nat.le_of_lt (ten_lt 45)) (Nat.pow_le_pow_right (by decide) (by decide))))
  refine ⟨_, rfl, S d, _, rfl, int_S gd.dg gd.ne (by omega), by rw [S_len]; omega, _, rfl, y, m, e, p, NumText.digitsVal d, rfl, hy, vl, g0, g1, hF, fun H4 s4 => ?_⟩
  refine ⟨_, rfl, iteF ?_⟩
  have h4 := h2.keep (s3.trans s4)
  refine ⟨_, rfl, a0, c0, M2, rfl, h4, by omega, fun H5 M5 u h5 hc5 k5 hb => ?_⟩
  refine ⟨u, rfl, hb, fun H6 s6 => ?_⟩
  refine ⟨_, rfl, iteF ?_⟩
  exact ⟨M5, _, _, _, rfl, h5.keep s6, by omega⟩
end
end KN

namespace KN
open PySem PySem.Spec PyProof.Rows L2
/-! ### a def called at the very top, where no repr is under way -/
/-- the def at f keeps sp where it is called from outside -/
def TopOk (P : Program) (w : World) (K : PySem.W.Frag) (mg : Str → Option Value) (base : Heap) (f : Addr) (fd : FuncData) (ps : List Str) (sp : Sp) : Prop :=
  ∀ (s : Shared) (H : Hp) (args : Args) (us : List Value) (vs : List V) (Q : VK) (E : XK), Env0 P w K mg base callerA [] s H → BindsTo s fd args (ps.zip us) → Vals vs us → sp vs H Q E → codeAny (model P w) callerA (.call (.ref f) args) (CR CX0 [] P w H s Q E) s
theorem top_of {P : Program} {w : World} {K : PySem.W.Frag} {mg : Str → Option Value} {base : Heap} {k : Nat} {f : Addr} {x qual : Str} {st : Stmt} {fd : FuncData} {N ps : List Str} {sp : Sp} (F : Fun K x qual st f fd) (S : FnScope N ps (defScope st))
    (len : ∀ vs H Q E, sp vs H Q E → vs.length = ps.length) (hk : Room (k + 1) callerA)
    (hbody : ∀ (cdv : Value) (s : Shared) (H : Hp) (vs : List V) (Q : VK) (E : XK), sp vs H Q E →
      ∃ t, PSs (cxOf CX0 P w K mg base N qual (defScope st) f cdv callerA [] s H E).nox (defBody st) t ∧ t { nx := fun _ H' => Q .non H', rt := Q } (start N vs) H) : TopOk P w K mg base f fd ps sp := by
  obtain ⟨oc, od, kV, doc, pm, an, cdv, ct, osl, rfl, lk, hcd⟩ := F.ex
  intro s H args us vs Q E e0 hb r hsp
  have keepB : ∀ b o, base.get? b = some o → s.heap.get? b = some o := fun b o e => (e0.bs b o e).1
  have hl := len _ _ _ _ hsp
  have kinds : ∀ y ∈ ps.zip us, (defScope st).names.lookup y.1 = some .local ∨ ((defScope st).names.lookup y.1 = some .cell ∧ ((cellsFrom (s.heap.objs.size + 1) (defScope st).names []).lookup y.1).isSome = true) := by
    rintro ⟨n, v⟩ hy
    rcases S.par n (List.of_mem_zip hy).1 with z | z
    · exact Or.inl z
    · exact Or.inr ⟨z, PySem.W.cellsFrom_some _ _ _ (.inl z)⟩
  refine codeAny_call_function hk.depth ((e0.mod.kin.keeps keepB) _ _ lk) rfl S.co S.gen rfl (PySem.W.codeRec_of (e0.mod.kin.keeps keepB) hcd) (hb _ _ _ _ (wpAny_newFunctionEnv_cells S.kind kinds fun env he s1 z => ?_))
  subst he
  refine ⟨(e0.mod.nolimit.keeps keepB).keeps z.toInCall.keep, codeAny_func ?_⟩
  obtain ⟨t, ht, hq⟩ := hbody cdv s H vs Q E hsp
  have I : Inv (cxOf CX0 P w K mg base N qual (defScope st) f cdv callerA [] s H E) [] (start N vs) H s1 := inv_start S hk.hd e0 hl r z
  refine wpAny_mono (ht.nox.run [] s1 (start N vs) H _ I hq) (fun fl s' hs => ?_) fun e s' hs => hs
  cases fl with
  | ret u =>
    obtain ⟨v, σ', H', J, rv, q⟩ := hs
    exact ⟨v, H', J.os, J.bare, J.base, J.hok, rv, q⟩
  | next =>
    obtain ⟨σ', H', J, q⟩ := hs
    exact ⟨.non, H', J.os, J.bare, J.base, J.hok, rfl, q⟩
  | brk =>
    obtain ⟨_, _, _, q⟩ := hs
    exact q.elim
  | cont =>
    obtain ⟨_, _, _, q⟩ := hs
    exact q.elim
/-- one abstract heap for the script at a: nothing else is tracked -/
theorem top_one {P : Program} {w : World} {K : PySem.W.Frag} {mg mb : Str → Option Value} {fa a : Addr} {fd : FuncData} {x : Str} {sp : Sp} {s₁ : Shared} {vs : List Value} {n : Nat} {H : Hp}
    (KX : K.In s₁.heap) (hns : s₁.heap.Ns mainGlobals mg) (hb : s₁.heap.Ns builtinsNs mb) (hbb : ∀ x : Str, x ≠ "__name__" → mb x = bootBuiltins x) (hlim : s₁.heap.NoLimit) (hg : s₁.gens = #[])
    (ha : s₁.heap.get? a = some { cls := .type "list", data := .seq vs.toArray n }) (F : ∀ base : Heap, K.In base → base.Ns mainGlobals mg → TopOk P w K mg base fa fd [x] sp)
    (hbind : ∀ (s : Shared) (u : Value), BindsTo s fd ⟨[u], []⟩ [(x, u)]) (hsp : sp [.ref a] H (fun v _ => v = .bl true) fun _ _ _ => False) (hO : Only H) (hok : HOk P w H s₁.heap) (hA : ∀ b, H b ≠ none → b = a) (hK : H a ≠ none → K.lookup a = none) :
    codeAny (model P w) callerA (.call (.ref fa) ⟨[.ref a], []⟩) (fun r s' => r = .ok (.ret (.bool true)) ∧ PySem.OldK s₁.heap s'.heap ∧ s'.os = s₁.os ∧ AllBare s'.gens) s₁ := by
  have untracked : ∀ {b : Addr} {o : Obj}, s₁.heap.get? b = some o → (∀ n', o.data ≠ .seq vs.toArray n') → H b = none := fun {b o} e hd => by
    cases q : H b with
    | none => rfl
    | some u =>
      have eb : b = a := hA b (by rw [q]; simp)
      rw [eb, ha] at e
      cases e
      exact absurd rfl (hd n)
  have toNs : ∀ {b : Addr} {m : Str → Option Value}, s₁.heap.Ns b m → (hidT s₁.heap H).Ns b m := fun {b m} z => by
    obtain ⟨o, es, ep, e, d, r⟩ := z
    exact ⟨o, es, ep, hidT_get e (untracked e fun n' z => by rw [z] at d; cases d), d, r⟩
  have toK : K.In (hidT s₁.heap H) := fun b o e => hidT_get (KX b o e) (by
    cases q : H b with
    | none => rfl
    | some u =>
      have eb : b = a := hA b (by rw [q]; simp)
      rw [eb] at q e
      rw [hK (by rw [q]; simp)] at e
      cases e)
  have md : Mod K mg (hidT s₁.heap H) := by
    obtain ⟨mc, h1, h2⟩ := hlim
    exact ⟨toK, toNs hns, ⟨mb, toNs hb, hbb⟩, ⟨mc, toNs h1, h2⟩⟩
  have e0 : Env0 P w K mg (hidT s₁.heap H) callerA [] s₁ H :=
    { frames := rfl, mod := md, bs := fun b o e => of_hidT e, bsz := Nat.le_of_eq (hidT_size _ _), funs := trivial, frf := fun b z => absurd z (by simp [frs]), hok := hok, bare := .of_eq hg }
  refine codeAny_mono (F _ toK (toNs hns) s₁ H _ [.ref a] [.ref a] _ _ e0 (hbind s₁ (.ref a)) (.cons rfl .nil) hsp) fun r s' h => ?_
  cases r with
  | error e => exact (h : False).elim
  | ok fl =>
    cases fl with
    | next => exact (h : False).elim
    | brk => exact (h : False).elim
    | cont => exact (h : False).elim
    | ret u =>
      obtain ⟨v, H', os, bare, un, hok', rv, q⟩ := h
      obtain rfl : v = .bl true := q
      obtain rfl : u = Value.bool true := rv
      refine ⟨rfl, PySem.OldK.of_keep fun b o e => ?_, os, bare⟩
      cases q : H b with
      | none => exact un.keep b o e q (by simp [frs]) (by simp)
      | some u =>
        rcases hO b with z | ⟨ob, xs, z⟩
        · rw [q] at z; cases z
        · have e1 := (hok b _ z).1
          have e2 := (hok' b _ (un.frzs b ob _ z)).1
          rw [e] at e1
          cases e1
          exact e2
/-- the script handed to the law's def, whatever stands at it in the written part -/
theorem top_call {P : Program} {w : World} {K : PySem.W.Frag} {mg mb : Str → Option Value} {fa a : Addr} {fd : FuncData} {x : Str} {sp : Sp} {s₁ : Shared} {vs : List Value} {ns : List Int}
    (KX : K.In s₁.heap) (hns : s₁.heap.Ns mainGlobals mg) (hb : s₁.heap.Ns builtinsNs mb) (hbb : ∀ x : Str, x ≠ "__name__" → mb x = bootBuiltins x) (hlim : s₁.heap.NoLimit) (hg : s₁.gens = #[])
    (ha : s₁.heap.get? a = some { cls := .type "list", data := .seq vs.toArray }) (hi : IntsAre vs ns) (hl : ns.length ≤ sizeLine) (F : ∀ base : Heap, K.In base → base.Ns mainGlobals mg → TopOk P w K mg base fa fd [x] sp)
    (hbind : ∀ (s : Shared) (u : Value), BindsTo s fd ⟨[u], []⟩ [(x, u)]) (hsp : ∀ H : Hp, Only H → SqL K H a (ns.map V.int) → sp [.ref a] H (fun v _ => v = .bl true) fun _ _ _ => False) :
    codeAny (model P w) callerA (.call (.ref fa) ⟨[.ref a], []⟩) (fun r s' => r = .ok (.ret (.bool true)) ∧ PySem.OldK s₁.heap s'.heap ∧ s'.os = s₁.os ∧ AllBare s'.gens) s₁ := by
  have rv := vals_ints hi
  have len := hi.length
  cases hk : K.lookup a with
  | some o =>
    have e := KX a o hk
    rw [ha] at e
    cases e
    have O : Only fun _ => none := fun _ => .inl rfl
    exact top_one (H := fun _ => none) KX hns hb hbb hlim hg ha F hbind (hsp _ O (.inr ⟨_, vs.toArray, _, hk, rfl, rfl, rfl, by rw [List.size_toArray, len]; exact hl, by simpa using rv⟩)) O (fun b u z => nomatch z) (fun b z => absurd rfl z) fun z => absurd rfl z
  | none =>
    have atA : ∀ {b : Addr} {u : HO}, (upd (fun _ => none) a (.frz { cls := .type "list", data := .seq vs.toArray } (.lst (ns.map V.int)))) b = some u → b = a ∧ u = .frz { cls := .type "list", data := .seq vs.toArray } (.lst (ns.map V.int)) := fun {b u} z => by
      by_cases e : b = a
      · subst e
        rw [upd_same] at z
        exact ⟨rfl, (Option.some.inj z).symm⟩
      · rw [upd_ne e] at z
        cases z
    have O : Only (upd (fun _ => none) a (.frz { cls := .type "list", data := .seq vs.toArray } (.lst (ns.map V.int)))) := fun b => by
      by_cases e : b = a
      · exact .inr ⟨_, _, by rw [e]; exact upd_same⟩
      · exact .inl (by rw [upd_ne e])
    refine top_one (H := upd (fun _ => none) a (.frz { cls := .type "list", data := .seq vs.toArray } (.lst (ns.map V.int)))) KX hns hb hbb hlim hg ha F hbind (hsp _ O (.inl (.inr ⟨_, upd_same⟩))) O (fun b u z => ?_) (fun b z => ?_) fun _ => hk
    · obtain ⟨rfl, rfl⟩ := atA z
      exact ⟨ha, by rw [List.length_map]; exact hl, vs, _, rv, ha⟩
    · cases q : (upd (fun _ => none) a (.frz { cls := .type "list", data := .seq vs.toArray } (.lst (ns.map V.int)))) b with
      | none => exact absurd q z
      | some u => exact (atA q).1
/-- the goal that the head leaves -/
theorem walk_top {l : PySem.W.OpenLaw} {n : Nat} {q : Program} {loose : List Str} {XP : (Str → Option Value) → Heap → Prop} {YP : World → Heap → Prop} {d : DefRec} {K : Params → PySem.W.Frag} {sp : PySem.W.Frag → Sp} {x : Str}
    (hn : l.most = some n) (hn2 : n ≤ sizeLine) (hdf : d.params.defaults = []) (hY : ∀ (w : World) (h : Heap), YP w h → (K w.params).In h)
    (F : ∀ (w : World) (mg : Str → Option Value) (fa : Addr) (h : Heap), (K w.params).In h → h.Ns mainGlobals mg → mg d.name = some (.ref fa) →
      ∃ fd : FuncData, (∀ (s : Shared) (u : Value), BindsTo s fd ⟨[u], []⟩ [(x, u)]) ∧ ∀ base : Heap, (K w.params).In base → base.Ns mainGlobals mg → TopOk l.prog w (K w.params) mg base fa fd [x] (sp (K w.params)))
    (hsp : ∀ (K : PySem.W.Frag) (H : Hp) (a : Addr) (ns : List Int), ns.length ≤ n → Only H → SqL K H a (ns.map V.int) → sp K [.ref a] H (fun v _ => v = .bl true) fun _ _ _ => False) :
    PySem.W.WalkO q loose XP YP l.row.toRowW d [] (fun f vs => PySem.call f vs) := by
  refine Att.attach_call hn hdf fun w s₀ s₁ mg mb fa o pm cd doc a vs ns G Y ho hd hcd hmg hobj hints hlen hg => ?_
  obtain ⟨fd, hb, hF⟩ := F w mg fa _ (hY w _ Y) G.T.g hmg
  exact top_call (hY w _ Y) G.T.g G.T.b G.T.builtins G.T.nolimit hg hobj hints (Nat.le_trans hlen hn2) hF hb fun H hO hS => hsp _ H a ns hlen hO hS
/-- the goal that a head by facts leaves -/
theorem walk_topE {l : PySem.W.OpenLaw} {n : Nat} {q : Program} {loose : List Str} {XP : (Str → Option Value) → Heap → Prop} {YP : World → Heap → Prop} {d : DefRec} {x : Str}
    (hn : l.most = some n) (hn2 : n ≤ sizeLine) (hdf : d.params.defaults = [])
    (F : ∀ (w : World) (mg : Str → Option Value) (fa : Addr) (h : Heap), YP w h → h.Ns mainGlobals mg → mg d.name = some (.ref fa) →
      ∃ (K : PySem.W.Frag) (fd : FuncData) (sp : Sp), K.In h ∧ (∀ (s : Shared) (u : Value), BindsTo s fd ⟨[u], []⟩ [(x, u)]) ∧
        (∀ (H : Hp) (a : Addr) (ns : List Int), ns.length ≤ n → Only H → SqL K H a (ns.map V.int) → sp [.ref a] H (fun v _ => v = .bl true) fun _ _ _ => False) ∧
        ∀ base : Heap, K.In base → base.Ns mainGlobals mg → TopOk l.prog w K mg base fa fd [x] sp) :
    PySem.W.WalkO q loose XP YP l.row.toRowW d [] (fun f vs => PySem.call f vs) := by
  refine Att.attach_call hn hdf fun w s₀ s₁ mg mb fa o pm cd doc a vs ns G Y ho hd hcd hmg hobj hints hlen hg => ?_
  obtain ⟨K, fd, sp, KX, hb, hsp, hF⟩ := F w mg fa _ Y G.T.g hmg
  exact top_call KX G.T.g G.T.b G.T.builtins G.T.nolimit hg hobj hints (Nat.le_trans hlen hn2) hF hb fun H hO hS => hsp H a ns hlen hO hS
theorem room_top : Room 8 callerA := ⟨rfl, by decide, by decide⟩
/-! ### what the head tells -/
def lv (g : Addr → Option Obj) (as : List Addr) : List Addr := as.flatMap fun a => match g a with
  | some o => He.refsD o
  | none => []
def lvs (g : Addr → Option Obj) : Nat → List Addr → List Addr
  | 0, as => as
  | n + 1, as => as ++ lvs g n (lv g as)
def hookX (n : Nat) (fa : List He.Fa) (fn : List He.DefD) (ts : List He.Tab) (ex : PySem.W.Frag → Bool) : PySem.W.Hook where
  α := He.AlT × Bool
  obs := fun s => (He.obsT fa fn ts (He.frG s.heap.get? (lvs s.heap.get? n [mainGlobals])), ex (He.frG s.heap.get? (lvs s.heap.get? n [mainGlobals])))
  val := fun w => (He.valT fn ts w, true)
  says := fun w h => ∃ K : PySem.W.Frag, K.In h ∧ He.SaysT fa fn ts w K ∧ ex K = true
  of := fun _ _ e => ⟨_, He.frG_in, congrArg (fun z : He.AlT × Bool => z.1) e, congrArg (fun z : He.AlT × Bool => z.2) e⟩
  keeps := fun _ _ _ ⟨K, hK, c⟩ k => ⟨K, PySem.W.Frag.In.keeps hK k, c⟩
def obX (n : Nat) (fa : List He.Fa) (fn : List He.DefD) (ts : List He.Tab) (ex : PySem.W.Frag → Bool) (g : Addr → Option Obj) : He.AlT × Bool := (He.obsT fa fn ts (He.frG g (lvs g n [mainGlobals])), ex (He.frG g (lvs g n [mainGlobals])))
theorem obX_eq {n : Nat} {fa : List He.Fa} {fn : List He.DefD} {ts : List He.Tab} {ex : PySem.W.Frag → Bool} {g : Addr → Option Obj} {s : Shared} (h : ∀ a, g a = s.heap.get? a) : obX n fa fn ts ex g = (hookX n fa fn ts ex).obs s := by
  have e : g = s.heap.get? := funext h
  rw [e] <;> rfl
theorem fun_of {K : PySem.W.Frag} {x qual : Str} {st : Stmt} {f : Addr} {fd : FuncData} (F : FunD K x qual (defArgs st) (defBody st) (defScope st) [] [] f fd) : Fun K x qual st f fd := by
  obtain ⟨oc, od, dV, kV, doc, pm, an, cdv, ct, osl, rfl, lk, hcd, hd, _⟩ := F.ex
  rcases hd with ⟨_, rfl⟩ | ⟨e, _⟩
  · exact ⟨⟨oc, od, kV, doc, pm, an, cdv, ct, osl, rfl, lk, hcd⟩, F.kp⟩
  · exact absurd rfl e
end KN

namespace KN
open PySem PySem.Spec PyProof.Rows L2
def faL0 : List He.Fa := [.mkr "Float", .cls "Float", .noat "Float" "mantissa", .noat "Float" "exponent", .exc "BadFloat", .exm "BadFloat" "TreeError" true, .glo "Float", .glo "TreeError", .glo "BadPlace", .glo "BadText", .glo "BadFloat", .str "DIGITS" "0123456789", .int "MANTISSA_BITS" 53, .int "LEAST_EXPONENT" (-1074), .int "INFINITE_EXPONENT" 1024, .int "MOST_PLACES" 330]
def faL1 : List He.Fa := [.glo "float_of", .glo "decimal_at", .glo "digits_end", .glo "_has_digit", .glo "_exponent_end", .glo "_power_of", .glo "ten_to", .glo "_nearest", .glo "_rounded", .glo "_law_draw", .glo "_law_pick", .glo "_law_is_near", .glo "_law_ten", .glo "_law_times", .glo "_law_beside", .glo "_law_spelt", .glo "_law_number", .glo "_law_odd_text", .glo "_law_refused", .glo "law"]
def faL2 : List He.Fa := [.free "isinstance", .free "int", .free "bool", .free "str", .free "len", .free "range", .free "max", .free "divmod", .free "list", .free "abs"]
def faL : List He.Fa := faL0 ++ faL1 ++ faL2
def dd (x : Str) (st : Stmt) : He.DefD := ⟨(x, none), x, x, defArgs st, defBody st, defScope st, [], []⟩
def fnL : List He.DefD := [dd "float_of" sFo, dd "decimal_at" sDec, dd "digits_end" sDE, dd "_has_digit" sHD, dd "_exponent_end" sEE, dd "_power_of" sPw, dd "ten_to" sTen, dd "_nearest" sNear, dd "_rounded" sRnd, dd "_law_draw" sDraw, dd "_law_pick" sPick, dd "_law_is_near" sIsN, dd "_law_ten" sLTen, dd "_law_times" sTms, dd "_law_beside" sBsd, dd "_law_spelt" sSp, dd "_law_number" sNum, dd "_law_odd_text" sOdd, dd "_law_refused" sRef, dd "law" sLaw, ⟨("Float", some "__init__"), "__init__", "Float.__init__", defArgs sFin, defBody sFin, defScope sFin, [], []⟩]
def tsL : List He.Tab := []
def getB (K : PySem.W.Frag) : Bool := He.eqO (PySem.W.specialIn K (.builtin "object.__class__") "__get__") (some (some (.builtin "getset_descriptor.__get__"))) && decide (PySem.W.takesIn K (.builtin "object.__class__") = some true)
def clsB (K : PySem.W.Frag) (C : Addr) : Bool := He.eqO (PySem.W.findIn K (.ref C) "__class__") (some (some (.builtin "object.__class__"))) && decide (PySem.W.mroIn K C (.type "object") = some true)
def kiB (K : PySem.W.Frag) (x y : Str) (b : Bool) : Bool := decide (PySem.W.kitOne K (.ref (He.ga K x)) (.ref (He.ga K y)) = some b)
def excB (K : PySem.W.Frag) (D : Addr) : Bool := He.eqO (PySem.W.findIn K (.ref D) "__getattribute__") (some (some (.builtin "BaseException.__getattribute__"))) && (He.eqO (PySem.W.findIn K (.ref D) "__getattr__") (some none) &&
  (decide (PySem.W.subIn K (.ref D) (.type "BaseException") = some true) && (PySem.W.hasDictIn K D && clsB K D)))
def exL (K : PySem.W.Frag) : Bool := getB K && (clsB K (He.ga K "Float") && (kiB K "Float" "Float" true && (excB K (He.ga K "BadFloat") && (kiB K "BadFloat" "BadFloat" true && decide (PySem.W.kitAny K (.ref (He.ga K "BadFloat")) [.ref (He.ga K "BadPlace"), .ref (He.ga K "BadText")] = some false)))))
theorem excB_ok {K : PySem.W.Frag} {D : Addr} (g : getB K = true) (h : excB K D = true) : ExcC K D := by
  unfold excB clsB at h
  unfold getB at g
  simp only [Bool.and_eq_true] at h g
  exact ⟨He.eqO_ok h.1, He.eqO_ok h.2.1, of_decide_eq_true h.2.2.1, h.2.2.2.1, He.eqO_ok h.2.2.2.2.1, He.eqO_ok g.1, of_decide_eq_true g.2, of_decide_eq_true h.2.2.2.2.2⟩
theorem facts {P : Program} {w : World} {K : PySem.W.Frag} {h : Heap} {mg : Str → Option Value} {f : Addr} (X : K.In h) (G : h.Ns mainGlobals mg) (hfa : mg ("law" : Str) = some (.ref f)) (c : He.SaysT faL fnL tsL w K) (e : exL K = true) :
    ∃ fd : FuncData, (∀ (s : Shared) (u : Value), BindsTo s fd ⟨[u], []⟩ [("_law_script", u)]) ∧ ∀ base : Heap, K.In base → base.Ns mainGlobals mg → TopOk P w K mg base f fd ["_law_script"] (spLaw K) := by
  have c1 := c.d
  obtain ⟨d0, D0⟩ := c1.def_ 0 rfl
  have F0 := fun_of (st := sFo) D0
  obtain ⟨d1, D1⟩ := c1.def_ 1 rfl
  have F1 := fun_of (st := sDec) D1
  obtain ⟨d2, D2⟩ := c1.def_ 2 rfl
  have F2 := fun_of (st := sDE) D2
  obtain ⟨d3, D3⟩ := c1.def_ 3 rfl
  have F3 := fun_of (st := sHD) D3
  obtain ⟨d4, D4⟩ := c1.def_ 4 rfl
  have F4 := fun_of (st := sEE) D4
  obtain ⟨d5, D5⟩ := c1.def_ 5 rfl
  have F5 := fun_of (st := sPw) D5
  obtain ⟨d6, D6⟩ := c1.def_ 6 rfl
  have F6 := fun_of (st := sTen) D6
  obtain ⟨d7, D7⟩ := c1.def_ 7 rfl
  have F7 := fun_of (st := sNear) D7
  obtain ⟨d8, D8⟩ := c1.def_ 8 rfl
  have F8 := fun_of (st := sRnd) D8
  obtain ⟨d9, D9⟩ := c1.def_ 9 rfl
  have F9 := fun_of (st := sDraw) D9
  obtain ⟨d10, D10⟩ := c1.def_ 10 rfl
  have F10 := fun_of (st := sPick) D10
  obtain ⟨d11, D11⟩ := c1.def_ 11 rfl
  have F11 := fun_of (st := sIsN) D11
  obtain ⟨d12, D12⟩ := c1.def_ 12 rfl
  have F12 := fun_of (st := sLTen) D12
  obtain ⟨d13, D13⟩ := c1.def_ 13 rfl
  have F13 := fun_of (st := sTms) D13
  obtain ⟨d14, D14⟩ := c1.def_ 14 rfl
  have F14 := fun_of (st := sBsd) D14
  obtain ⟨d15, D15⟩ := c1.def_ 15 rfl
  have F15 := fun_of (st := sSp) D15
  obtain ⟨d16, D16⟩ := c1.def_ 16 rfl
  have F16 := fun_of (st := sNum) D16
  obtain ⟨d17, D17⟩ := c1.def_ 17 rfl
  have F17 := fun_of (st := sOdd) D17
  obtain ⟨d18, D18⟩ := c1.def_ 18 rfl
  have F18 := fun_of (st := sRef) D18
  obtain ⟨d19, D19⟩ := c1.def_ 19 rfl
  have F19 := fun_of (st := sLaw) D19
  obtain ⟨d20, D20⟩ := c1.def_ 20 rfl
  have F20 := fun_of (st := sFin) D20
  have b0 : Binds K d0 ["text"] [] := F0.binds fun _ _ _ _ _ _ us hl => match us, hl with | [_], _ => rfl
  have b1 : Binds K d1 ["text", "at"] [] := F1.binds fun _ _ _ _ _ _ us hl => match us, hl with | [_, _], _ => rfl
  have b2 : Binds K d2 ["text", "at"] [] := F2.binds fun _ _ _ _ _ _ us hl => match us, hl with | [_, _], _ => rfl
  have b3 : Binds K d3 ["text", "at"] [] := F3.binds fun _ _ _ _ _ _ us hl => match us, hl with | [_, _], _ => rfl
  have b4 : Binds K d4 ["text", "at"] [] := F4.binds fun _ _ _ _ _ _ us hl => match us, hl with | [_, _], _ => rfl
  have b5 : Binds K d5 ["exponent"] [] := F5.binds fun _ _ _ _ _ _ us hl => match us, hl with | [_], _ => rfl
  have b6 : Binds K d6 ["power"] [] := F6.binds fun _ _ _ _ _ _ us hl => match us, hl with | [_], _ => rfl
  have b7 : Binds K d7 ["above", "below"] [] := F7.binds fun _ _ _ _ _ _ us hl => match us, hl with | [_, _], _ => rfl
  have b8 : Binds K d8 ["above", "below", "exponent"] [] := F8.binds fun _ _ _ _ _ _ us hl => match us, hl with | [_, _, _], _ => rfl
  have b9 : Binds K d9 ["_law_stream", "_law_many"] [] := F9.binds fun _ _ _ _ _ _ us hl => match us, hl with | [_, _], _ => rfl
  have b10 : Binds K d10 ["_law_stream", "_law_some"] [] := F10.binds fun _ _ _ _ _ _ us hl => match us, hl with | [_, _], _ => rfl
  have b11 : Binds K d11 ["_law_found", "_law_number_here", "_law_power"] [] := F11.binds fun _ _ _ _ _ _ us hl => match us, hl with | [_, _, _], _ => rfl
  have b12 : Binds K d12 ["_law_power"] [] := F12.binds fun _ _ _ _ _ _ us hl => match us, hl with | [_], _ => rfl
  have b13 : Binds K d13 ["_law_number_here", "_law_power"] [] := F13.binds fun _ _ _ _ _ _ us hl => match us, hl with | [_, _], _ => rfl
  have b14 : Binds K d14 ["_law_number_here", "_law_power", "_law_mantissa", "_law_exponent"] [] := F14.binds fun _ _ _ _ _ _ us hl => match us, hl with | [_, _, _, _], _ => rfl
  have b15 : Binds K d15 ["_law_stream", "_law_digits", "_law_power"] [] := F15.binds fun _ _ _ _ _ _ us hl => match us, hl with | [_, _, _], _ => rfl
  have b16 : Binds K d16 ["_law_stream"] [] := F16.binds fun _ _ _ _ _ _ us hl => match us, hl with | [_], _ => rfl
  have b17 : Binds K d17 ["_law_stream"] [] := F17.binds fun _ _ _ _ _ _ us hl => match us, hl with | [_], _ => rfl
  have b18 : Binds K d18 ["_law_text"] [] := F18.binds fun _ _ _ _ _ _ us hl => match us, hl with | [_], _ => rfl
  have b19 : Binds K d19 ["_law_script"] [] := F19.binds fun _ _ _ _ _ _ us hl => match us, hl with | [_], _ => rfl
  have b20 : Binds K d20 ["self", "mantissa", "exponent"] [] := F20.binds fun _ _ _ _ _ _ us hl => match us, hl with | [_, _, _], _ => rfl
  have m_float_of : mg "float_of" = some (.ref (He.ga K "float_of")) := He.glo_ok X G (c1.fact 16 (f := .glo "float_of") rfl)
  have m_decimal_at : mg "decimal_at" = some (.ref (He.ga K "decimal_at")) := He.glo_ok X G (c1.fact 17 (f := .glo "decimal_at") rfl)
  have m_digits_end : mg "digits_end" = some (.ref (He.ga K "digits_end")) := He.glo_ok X G (c1.fact 18 (f := .glo "digits_end") rfl)
  have m__has_digit : mg "_has_digit" = some (.ref (He.ga K "_has_digit")) := He.glo_ok X G (c1.fact 19 (f := .glo "_has_digit") rfl)
  have m__exponent_end : mg "_exponent_end" = some (.ref (He.ga K "_exponent_end")) := He.glo_ok X G (c1.fact 20 (f := .glo "_exponent_end") rfl)
  have m__power_of : mg "_power_of" = some (.ref (He.ga K "_power_of")) := He.glo_ok X G (c1.fact 21 (f := .glo "_power_of") rfl)
  have m_ten_to : mg "ten_to" = some (.ref (He.ga K "ten_to")) := He.glo_ok X G (c1.fact 22 (f := .glo "ten_to") rfl)
  have m__nearest : mg "_nearest" = some (.ref (He.ga K "_nearest")) := He.glo_ok X G (c1.fact 23 (f := .glo "_nearest") rfl)
  have m__rounded : mg "_rounded" = some (.ref (He.ga K "_rounded")) := He.glo_ok X G (c1.fact 24 (f := .glo "_rounded") rfl)
  have m__law_draw : mg "_law_draw" = some (.ref (He.ga K "_law_draw")) := He.glo_ok X G (c1.fact 25 (f := .glo "_law_draw") rfl)
  have m__law_pick : mg "_law_pick" = some (.ref (He.ga K "_law_pick")) := He.glo_ok X G (c1.fact 26 (f := .glo "_law_pick") rfl)
  have m__law_is_near : mg "_law_is_near" = some (.ref (He.ga K "_law_is_near")) := He.glo_ok X G (c1.fact 27 (f := .glo "_law_is_near") rfl)
  have m__law_ten : mg "_law_ten" = some (.ref (He.ga K "_law_ten")) := He.glo_ok X G (c1.fact 28 (f := .glo "_law_ten") rfl)
  have m__law_times : mg "_law_times" = some (.ref (He.ga K "_law_times")) := He.glo_ok X G (c1.fact 29 (f := .glo "_law_times") rfl)
  have m__law_beside : mg "_law_beside" = some (.ref (He.ga K "_law_beside")) := He.glo_ok X G (c1.fact 30 (f := .glo "_law_beside") rfl)
  have m__law_spelt : mg "_law_spelt" = some (.ref (He.ga K "_law_spelt")) := He.glo_ok X G (c1.fact 31 (f := .glo "_law_spelt") rfl)
  have m__law_number : mg "_law_number" = some (.ref (He.ga K "_law_number")) := He.glo_ok X G (c1.fact 32 (f := .glo "_law_number") rfl)
  have m__law_odd_text : mg "_law_odd_text" = some (.ref (He.ga K "_law_odd_text")) := He.glo_ok X G (c1.fact 33 (f := .glo "_law_odd_text") rfl)
  have m__law_refused : mg "_law_refused" = some (.ref (He.ga K "_law_refused")) := He.glo_ok X G (c1.fact 34 (f := .glo "_law_refused") rfl)
  have m_law : mg "law" = some (.ref (He.ga K "law")) := He.glo_ok X G (c1.fact 35 (f := .glo "law") rfl)
  have m_Float : mg "Float" = some (.ref (He.ga K "Float")) := He.glo_ok X G (c1.fact 6 (f := .glo "Float") rfl)
  have m_TreeError : mg "TreeError" = some (.ref (He.ga K "TreeError")) := He.glo_ok X G (c1.fact 7 (f := .glo "TreeError") rfl)
  have m_BadPlace : mg "BadPlace" = some (.ref (He.ga K "BadPlace")) := He.glo_ok X G (c1.fact 8 (f := .glo "BadPlace") rfl)
  have m_BadText : mg "BadText" = some (.ref (He.ga K "BadText")) := He.glo_ok X G (c1.fact 9 (f := .glo "BadText") rfl)
  have m_BadFloat : mg "BadFloat" = some (.ref (He.ga K "BadFloat")) := He.glo_ok X G (c1.fact 10 (f := .glo "BadFloat") rfl)
  have z_isinstance : mg "isinstance" = none := He.free_ok X G (c1.fact 36 (f := .free "isinstance") rfl)
  have z_int : mg "int" = none := He.free_ok X G (c1.fact 37 (f := .free "int") rfl)
  have z_bool : mg "bool" = none := He.free_ok X G (c1.fact 38 (f := .free "bool") rfl)
  have z_str : mg "str" = none := He.free_ok X G (c1.fact 39 (f := .free "str") rfl)
  have z_len : mg "len" = none := He.free_ok X G (c1.fact 40 (f := .free "len") rfl)
  have z_range : mg "range" = none := He.free_ok X G (c1.fact 41 (f := .free "range") rfl)
  have z_max : mg "max" = none := He.free_ok X G (c1.fact 42 (f := .free "max") rfl)
  have z_divmod : mg "divmod" = none := He.free_ok X G (c1.fact 43 (f := .free "divmod") rfl)
  have z_list : mg "list" = none := He.free_ok X G (c1.fact 44 (f := .free "list") rfl)
  have z_abs : mg "abs" = none := He.free_ok X G (c1.fact 45 (f := .free "abs") rfl)
  have dg := He.str_ok X G (c1.fact 11 (f := .str "DIGITS" "0123456789") rfl)
  have Nm : Nums mg := ⟨He.int_ok X G (c1.fact 12 (f := .int "MANTISSA_BITS" 53) rfl), He.int_ok X G (c1.fact 13 (f := .int "LEAST_EXPONENT" (-1074)) rfl), He.int_ok X G (c1.fact 14 (f := .int "INFINITE_EXPONENT" 1024) rfl), He.int_ok X G (c1.fact 15 (f := .int "MOST_PLACES" 330) rfl)⟩
  have cF : Cls K (He.ga K "Float") := He.cls_ok (c1.fact 1 (f := .cls "Float") rfl)
  have n1 : NoAttr K (He.ga K "Float") "mantissa" := He.noat_ok (c1.fact 2 (f := .noat "Float" "mantissa") rfl)
  have n2 : NoAttr K (He.ga K "Float") "exponent" := He.noat_ok (c1.fact 3 (f := .noat "Float" "exponent") rfl)
  have M := He.mkr_ok (c1.fact 0 (f := .mkr "Float") rfl)
  obtain ⟨eb, heb⟩ := He.exc_ok (c1.fact 4 (f := .exc "BadFloat") rfl)
  have EB : ErrC K mg "BadFloat" (He.ga K "BadFloat") := ⟨m_BadFloat, eb, heb.1, heb.2.1, heb.2.2⟩
  unfold exL at e
  simp only [Bool.and_eq_true] at e
  obtain ⟨x1, x2, x3, x4, x5, x6⟩ := e
  have gg := x1
  unfold getB at gg
  unfold clsB at x2
  simp only [Bool.and_eq_true] at gg x2
  have XF : ErrF K mg (He.ga K "TreeError") (He.ga K "BadFloat") (He.ga K "BadPlace") (He.ga K "BadText") := ⟨m_TreeError, m_BadPlace, m_BadText, EB, excB_ok x1 x4, He.exm_ok (c1.fact 5 (f := .exm "BadFloat" "TreeError" true) rfl), of_decide_eq_true x5, of_decide_eq_true x6⟩
  have FK : FltK K mg (He.ga K "Float") := ⟨m_Float, cF, n1, n2, He.eqO_ok x2.1, He.eqO_ok gg.1, of_decide_eq_true gg.2, of_decide_eq_true x2.2, of_decide_eq_true x3⟩
  have el := hfa.symm.trans m_law
  cases el
  refine ⟨d19, fun s u => (FunD.bindsA (ps := ["_law_script"]) D19 fun _ _ _ _ _ _ us hl => match us, hl with | [_], _ => rfl) s [u] rfl, fun base _ _ => ?_⟩
  have fin := ok_fin (P := P) (w := w) (mg := mg) (base := base) F20 cF n1 n2
  have Z : FltC P w K mg base (He.ga K "Float") _ _ := ⟨m_Float, M, fin, b20⟩
  have rn := ok_rnd (P := P) (w := w) (mg := mg) (base := base) F8 z_divmod
  have nr := ok_near F7 Z Nm rn b8 D8.kp m__rounded z_max
  have tt := ok_ten (P := P) (w := w) (mg := mg) (base := base) F6 z_range
  have hd := ok_hd (P := P) (w := w) (mg := mg) (base := base) F3 z_len dg
  have de := ok_de F2 hd b3 D3.kp m__has_digit
  have ee := ok_ee F4 de b2 D2.kp m_digits_end
  have dc := ok_dec F1 de b2 D2.kp m_digits_end ee b4 D4.kp m__exponent_end
  have pw := ok_pw (P := P) (w := w) (mg := mg) (base := base) F5 z_int
  have fo := ok_fo F0 Z Nm z_isinstance z_str z_len z_int dc b1 D1.kp m_decimal_at pw b5 D5.kp m__power_of tt b6 D6.kp m_ten_to nr b7 D7.kp m__nearest
  have fob := ok_fob F0 EB z_isinstance z_str z_len dc b1 D1.kp m_decimal_at
  have dr := ok_draw (P := P) (w := w) (mg := mg) (base := base) F9 z_int
  have pk := ok_pick F10 dr b9 D9.kp m__law_draw z_len
  have lt := ok_lten (P := P) (w := w) (mg := mg) (base := base) F12 z_int
  have tm := ok_tms F13 lt b12 D12.kp m__law_ten z_max
  have bs := ok_bsd F14 tm b13 D13.kp m__law_times z_max z_int
  have isn := ok_isn F11 FK ⟨z_isinstance, z_int, z_bool⟩ bs b14 D14.kp m__law_beside
  have BL : Bl mg := ⟨z_len, z_int, z_str, z_abs⟩
  have sp := ok_sp F15 BL dr b9 D9.kp m__law_draw
  have nm := ok_num F16 BL z_range dr b9 D9.kp m__law_draw pk b10 D10.kp m__law_pick lt b12 D12.kp m__law_ten
  have od := ok_odd F17 pk b10 D10.kp m__law_pick
  have rf := ok_ref F18 XF z_isinstance fob b0 D0.kp m_float_of
  have L : LawF P w K mg base (He.ga K "Float") _ _ _ _ _ _ _ _ _ _ _ _ := ⟨z_list, z_range, z_int, nm, b16, D16.kp, m__law_number, sp, b15, D15.kp, m__law_spelt, fo, b0, D0.kp, m_float_of, isn, b11, D11.kp, m__law_is_near, rf, b18, D18.kp, m__law_refused, od, b17, D17.kp, m__law_odd_text⟩
  exact top_of F19 scLaw (fun vs H Q E h => by obtain ⟨a, ns, rfl, _⟩ := h; rfl) (k := 7) room_top fun cdv s H vs Q E h => law_body L (room_top.deeper _) h
end KN

open PySem PySem.W PyProof.Rows
set_option maxRecDepth 100000 in
set_option maxHeartbeats 0 in
theorem PySem.Challenge.cw_treequill_k08_floats_read_holds : PySem.Challenge.rw_treequill_k08_floats_read.Holds := by
  w_on; o_law; k_head; (case hw => w_witness2)
  k_fill
  refine KN.walk_top (l := PySem.Challenge.rw_treequill_k08_floats_read) (n := 63) (sp := KN.spLaw) (x := "_law_script") rfl (by decide) rfl (fun w h Y => PySem.W.kIn_of Y) ?F ?S
  case F =>
    intro w mg fa h KX G hmg
    refine KN.facts KX G hmg ?c ?e
    (case c => show He.obsT KN.faL KN.fnL KN.tsL _ = He.valT KN.fnL KN.tsL w; kernel_rfl)
    (case e => kernel_rfl)
  case S =>
    intro K H a ns hl _ hS
    exact ⟨a, ns, rfl, hS, hl, fun _ => rfl⟩
#print axioms PySem.Challenge.cw_treequill_k08_floats_read_holds
