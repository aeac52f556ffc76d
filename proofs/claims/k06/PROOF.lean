import PyProof.Rows.All
import Wide.All
import OpenK.AllK
import Wide.FinOn
import HandS.ForMost
import HandS.Wide
import HandS.Codes
import HandS.OwnEq
import HandS.IsInst
import KE.KEqSeq
import PySem.Challenge.RW_treequill_k06_values_compared
import HandS.Zip
import HandS.Walk
set_option Elab.async false
set_option linter.all false
set_option maxRecDepth 100000
/-! part A -/
set_option maxHeartbeats 4000000
namespace K6X
open PySem PySem.SeqAt PySem.W
open AutoSeq1 (wpAny_loadPart')
open MeetsSeq MeetsSeq2 MeetsSeq3 SeqRoads2
section
variable {prog : Program} {w : World} {A : Around} {E : Value → Shared → Prop} {s : Shared} {K : Frag} {x C : Addr} {ox : Obj} {od : Option Obj} {Q : Value → Shared → Prop}
theorem noInst (X : K.In s.heap) (I : InstAt s.heap x ox C od) {T : String} (hm : mroIn K C (.type T) = some false) : Looks (model prog w) s.heap (isInstance (.ref x) (.type T)) false := I.type.andThen (looks_mroIn X hm)
theorem noInstT (X : K.In s.heap) (I : InstAt s.heap x ox C od) {T : String} (hm : mroIn K C (.type T) = some true) : Looks (model prog w) s.heap (isInstance (.ref x) (.type T)) true := I.type.andThen (looks_mroIn X hm)
theorem int_no {dx : Addr} (b : Int) (u : Tok) (X : K.In s.heap) (I : InstAt s.heap x (instObj C dx) C od) (hm : mroIn K C (.type "int") = some false) (hq : Q .notImplemented s) : wpAny (model prog w) A (call (.builtin "int.__eq__") [.int b u, .ref x]) Q E s := by
  have L := noInst (prog := prog) (w := w) X I hm
  have ho := I.at_
  refine GQ.call_here F.slot_int_eq (typeIs_int s b u) F.entry_int_eq (F.args_int_eq_2 _ _) ?_
  obtain ⟨hp, g, d, tk, os⟩ := s
  unfold Builtin.«int.__eq__»
  repeat (first | with_reducible refine L.at ?_ | wp_step)
  exact hq
theorem str_no {dx : Addr} (b : Str) (u : Tok) (X : K.In s.heap) (I : InstAt s.heap x (instObj C dx) C od) (hm : mroIn K C (.type "str") = some false) (hq : Q .notImplemented s) : wpAny (model prog w) A (call (.builtin "str.__eq__") [.str b u, .ref x]) Q E s := by
  have L := noInst (prog := prog) (w := w) X I hm
  have ho := I.at_
  refine GQ.call_here F.slot_str_eq (typeIs_str s b u) F.entry_str_eq (F.args_str_eq_2 _ _) ?_
  obtain ⟨hp, g, d, tk, os⟩ := s
  unfold Builtin.«str.__eq__»
  repeat (first | with_reducible refine L.at ?_ | wp_step)
  exact hq
theorem list_no {dx l : Addr} {items : Array Value} (hl : s.heap.IsList l items) (X : K.In s.heap) (I : InstAt s.heap x (instObj C dx) C od) (hm : mroIn K C (.type "list") = some false) (hq : Q .notImplemented s) : wpAny (model prog w) A (call (.builtin "list.__eq__") [.ref l, .ref x]) Q E s := by
  have L := noInst (prog := prog) (w := w) X I hm
  obtain ⟨⟨cls, dd, data, sl⟩, ho, hc, n, hd⟩ := hl
  simp only at hc hd
  subst hc hd
  refine GQ.call_here F.slot_list_eq ⟨_, ho, rfl⟩ F.entry_list_eq (F.args_list_eq_2 _ _) ?_
  obtain ⟨hp, g, d, tk, os⟩ := s
  unfold Builtin.«list.__eq__»
  repeat (first | with_reducible refine L.at ?_ | with_reducible refine wpAny_loadPart_at ho ?_ | wp_step)
  exact hq
theorem tup_no {dx l : Addr} {items : Array Value} (hl : s.heap.IsTuple l items) (X : K.In s.heap) (I : InstAt s.heap x (instObj C dx) C od) (hm : mroIn K C (.type "tuple") = some false) (hq : Q .notImplemented s) : wpAny (model prog w) A (call (.builtin "tuple.__eq__") [.ref l, .ref x]) Q E s := by
  have L := noInst (prog := prog) (w := w) X I hm
  obtain ⟨⟨cls, dd, data, sl⟩, ho, hc, n, hd⟩ := hl
  simp only at hc hd
  subst hc hd
  refine GQ.call_here F.slot_tuple_eq ⟨_, ho, rfl⟩ F.entry_tuple_eq (F.args_tuple_eq_2 _ _) ?_
  obtain ⟨hp, g, d, tk, os⟩ := s
  unfold Builtin.«tuple.__eq__»
  repeat (first | with_reducible refine L.at ?_ | with_reducible refine wpAny_loadPart_at ho ?_ | wp_step)
  exact hq
theorem none_no (hq : Q .notImplemented s) : wpAny (model prog w) A (call (.builtin "NoneType.__eq__") [.none, .ref x]) Q E s :=
  call_gives F.slot_NoneType_eq rfl F.entry_NoneType_eq (F.args_NoneType_eq_2 _ _) (NoneType___eq___none_ref_0 x) hq
/-- a == x, where a's own type declines and x is an instance with an own == -/
theorem rc_right {f : Addr} {a : Value} {Ta ida : String} (hu : A.units < cLine) (X : K.In s.heap) (I : InstAt s.heap x ox C od) (ha : s.TypeIs a Ta) (hm : mroIn K C (.type Ta) = some false) (h1 : Slot Ta "__eq__" ida) (hne : a ≠ .ref x)
    (hc1 : ∀ Q' : Value → Shared → Prop, Q' .notImplemented s → wpAny (model prog w) A (call (.builtin ida) [a, .ref x]) Q' E s)
    (hs : findIn K (.ref C) "__eq__" = some (some (.ref f))) (hf : isFn K (.ref f) = true) (h : wpAny (model prog w) A (call (.ref f) [.ref x, a]) (CmpBack Q) E s) : wpAny (model prog w) A (richCompare .Eq a (.ref x)) Q E s := by
  have L2 : Looks (model prog w) s.heap (isSubtype (.ref C) (.type Ta)) false := looks_mroIn X hm
  have two : wpAny (model prog w) A (tryCompare (.ref x) "__eq__" a) (fun r s' => ∃ v, r = some v ∧ Q v s') E s := by
    unfold tryCompare
    refine wpAny_bind (ifBound_K X I hs hf (wpAny_mono h (fun v s' hv => ?_) fun _ _ e => e))
    cases v <;> first | exact hv.elim | exact wpAny_pure ⟨_, rfl, hv⟩
  unfold richCompare
  have one : oneThing? .Eq a (.ref x) = none := ha.oneThing_none _ _
  simp only [one]
  refine wpAny_holding (wpAny_bind (wpAny_cRoomFor hu ?_))
  refine wpAny_bind (wpAny_typeOf ha (wpAny_bind (I.type.here ?_)))
  rw [show (Value.type Ta != Value.ref C) = true from by simp]
  simp only [if_true]
  refine wpAny_bind (L2.here ?_)
  simp only [Bool.false_eq_true, if_false, Bool.not_false, if_true]
  refine wpAny_bind (m := tryCompare a _ (.ref x)) (wpAny_tryCompare_declines ha h1 (hc1 _ ⟨rfl, ?_⟩))
  refine wpAny_bind (wpAny_mono two (fun r s' z => ?_) fun _ _ e => e)
  obtain ⟨v, rfl, hq⟩ := z
  exact wpAny_pure hq
/-- x != b, x an instance with an own == and object's != -/
theorem ne_left {f : Addr} {b tb : Value} (hu : A.units + 1 < cLine) (X : K.In s.heap) (I : InstAt s.heap x ox C od) (hb : Looks (model prog w) s.heap (typeOf b) tb) (hn : notFirst K C tb = true) (hno : findIn K (.ref C) "__ne__" = some (some (.builtin "object.__ne__")))
    (hob : mroIn K C (.type "object") = some true) (hs : findIn K (.ref C) "__eq__" = some (some (.ref f))) (hf : isFn K (.ref f) = true)
    (h : wpAny (model prog w) A.in1 (call (.ref f) [.ref x, b]) (fun v s' => ∃ r, v = .bool r ∧ Q (.bool (!r)) s') E s) : wpAny (model prog w) A (richCompare .NotEq (.ref x) b) Q E s := by
  have sub : Looks (model prog w) s.heap (isInstance (.ref x) (.type "object")) true := noInstT X I hob
  have entry : wpAny (model prog w) A.in1 (Builtin.«object.__ne__» ⟨[.ref x, b], []⟩) (GQ.FinOf prog w A (wants (fun v s' => v ≠ .notImplemented ∧ Q v s') E)) (fun e s' => wants (fun v s' => v ≠ .notImplemented ∧ Q v s') E (.error e) s') s := by
    unfold Builtin.«object.__ne__»
    refine wpAny_bind (wpAny_of_eq (a := ((Value.ref x : Value), [b])) (by first | rfl | (simp only [slotArgs]; rfl)) ?_)
    refine wpAny_bind (wpAny_cRoomFor (by show A.units + 1 < cLine; exact hu) ?_)
    refine wpAny_bind (ifBound_K X I hs hf (wpAny_mono h (fun v s' hv => ?_) fun _ _ e => e))
    obtain ⟨r, rfl, hq⟩ := hv
    refine wpAny_bind (wpAny_truthy_bool ?_)
    exact wpAny_pure ⟨(fun z => nomatch z), hq⟩
  have bnd : bindSpecial (.builtin "object.__ne__") (.ref x) = pure (.builtin "object.__ne__", [.ref x]) := F.cmp_object.ne.bind (.ref x)
  have callNe : wpAny (model prog w) A (call (.builtin "object.__ne__") [.ref x, b]) (fun v s' => v ≠ .notImplemented ∧ Q v s') E s :=
    wpAny_call (codeAny_call_builtin F.cmp_object.ne.plain F.cmpEntry_ne (check_slot F.cmpKind_ne F.cmpSplit_ne sub (F.cmpArgs_ne _ _) entry))
  have try1 : wpAny (model prog w) A (tryCompare (.ref x) "__ne__" b) (fun r s' => ∃ v, r = some v ∧ Q v s') E s := by
    unfold tryCompare
    refine wpAny_bind ?_
    simp only [callSpecialIfBound?, bindSpecialIfBound?]
    refine wpAny_holding (wpAny_bind (wpAny_bind (wpAny_bind (I.type.here ((looks_findIn X hno).here ?_)))))
    refine wpAny_bind (wpAny_askSetting (wpAny_ite ?_))
    have fin : wpAny (model prog w) A (call (.builtin "object.__ne__") ([.ref x] ++ [b]) >>= fun v => pure (some v)) (fun a s' => wpAny (model prog w) A (match a with | some .notImplemented | none => pure none | some v => pure (some v)) (fun r s' => ∃ v, r = some v ∧ Q v s') E s') E s :=
      wpAny_bind (wpAny_mono callNe (fun v s' h' => wpAny_pure (by
        obtain ⟨h1, h2⟩ := h'
        cases v <;> first | exact absurd rfl h1 | exact wpAny_pure ⟨_, rfl, h2⟩)) fun _ _ e => e)
    rw [bnd]
    split
    · exact wpAny_bind (wpAny_pure (wpAny_pure (by exact fin)))
    · exact wpAny_tryCatch (wpAny_bind (wpAny_pure (wpAny_pure (by exact fin))))
  unfold richCompare
  simp only [oneThing_ref]
  refine wpAny_holding (wpAny_bind (wpAny_cRoomFor (Nat.lt_of_succ_lt hu) ?_))
  refine wpAny_bind (I.type.here (wpAny_bind (hb.here ?_)))
  rw [cmpInfo_NotEq]
  dsimp only
  split
  · rename_i q
    have e : subIn K tb (.ref C) = some false := by
      rcases Bool.or_eq_true_iff.mp hn with e | e
      · rw [beq_iff_eq.mp e] at q; simp at q
      · exact beq_iff_eq.mp e
    refine wpAny_bind ((looks_subIn X e).here ?_)
    simp only [Bool.false_eq_true, if_false]
    refine wpAny_bind (wpAny_mono try1 (fun r s' z => ?_) fun _ _ e => e)
    obtain ⟨v, rfl, hq⟩ := z
    exact wpAny_pure hq
  · refine wpAny_bind (wpAny_pure ?_)
    simp only [Bool.false_eq_true, if_false]
    refine wpAny_bind (wpAny_mono try1 (fun r s' z => ?_) fun _ _ e => e)
    obtain ⟨v, rfl, hq⟩ := z
    exact wpAny_pure hq
end
end K6X
/-! part B -/
set_option maxHeartbeats 4000000
/-! == of two lists, of two tuples, item by item, with either answer -/
namespace K6X
open PySem PySem.SeqAt PySem.W
open AutoSeq1 (wpAny_loadPart')
open MeetsSeq MeetsSeq2 MeetsSeq3 SeqRoads2
section
variable {prog : Program} {w : World} {A : Around} {R : Result → Shared → Prop}
theorem all_false {N i : Nat} {e : Nat → Bool} (hi : i < N) (h : e i = false) : (List.range N).all e = false := by
  rw [Bool.eq_false_iff]
  intro z
  have := List.all_eq_true.mp z i (List.mem_range.mpr hi)
  rw [h] at this
  cases this
theorem all_true {N : Nat} {e : Nat → Bool} (h : ∀ j, j < N → e j = true) : (List.range N).all e = true := List.all_eq_true.mpr fun j hj => h j (List.mem_range.mp hj)
/-- at each turn the two lists are read anew; the i-th items compare as e says -/
def LstJ (prog : Program) (w : World) (A : Around) (E : Value → Shared → Prop) (l b : Addr) (N : Nat) (e : Nat → Bool) (I : Nat → Shared → Prop) : Prop :=
  ∀ i s, I i s → ∃ (its its2 : Array Value) (n n2 : Nat), s.heap.get? l = some { cls := .type "list", data := .seq its n } ∧ s.heap.get? b = some { cls := .type "list", data := .seq its2 n2 } ∧ its.size = N ∧ its2.size = N ∧
    ∀ (h1 : i < its.size) (h2 : i < its2.size), wpAny (model prog w) A.in1 (eqBool its[i] its2[i]) (fun r s' => r = e i ∧ I (i + 1) s') E s
theorem loopB (l b : Addr) (N : Nat) (e : Nat → Bool) (I : Nat → Shared → Prop) (hJ : LstJ prog w A (fun er s' => R (.error er) s') l b N e I)
    (fin : ∀ i s, I i s → R (.ok (.ret (.bool ((List.range N).all e)))) s) (k : Nat) :
    ∀ i : Nat, N - i = k → i ≤ N → (∀ j, j < i → e j = true) → ∀ s, I i s →
      wpAny (model prog w) A.in1 (Builtin.«list.__eq__.loop» ⟨[.ref l, .ref b, rawInt i, rawInt 2], []⟩) (GQ.FinOf prog w A R) (fun er s' => R (.error er) s') s := by
  induction k with
  | zero =>
    intro i hk hi ht s h
    obtain ⟨its, its2, n, n2, g1, g2, z1, z2, _⟩ := hJ _ _ h
    have ei : i = N := by omega
    have out := fin i s h
    rw [all_true (fun j hj => ht j (by omega))] at out
    obtain ⟨hp, g, d, tk, os⟩ := s
    wp_walk using wpAny_loadPart' g1, wpAny_loadPart' g2
    have n1 : its[((i : Nat) : Int).toNat]? = none := by simp; omega
    have n2' : its2[((i : Nat) : Int).toNat]? = none := by simp; omega
    rw [n1, n2']
    wp_walk using wpAny_loadPart' g1, wpAny_loadPart' g2
    show R (.ok (.ret (.bool (its.size == its2.size)))) _
    rw [z1, z2]
    simpa using out
  | succ k ih =>
    intro i hk hi ht s h
    obtain ⟨its, its2, n, n2, g1, g2, z1, z2, turn⟩ := hJ _ _ h
    have b1 : i < its.size := by omega
    have b2 : i < its2.size := by omega
    have tn := turn b1 b2
    obtain ⟨hp, g, d, tk, os⟩ := s
    wp_walk using wpAny_loadPart' g1, wpAny_loadPart' g2
    have s1 : its[((i : Nat) : Int).toNat]? = some its[i] := by simp [b1]
    have s2 : its2[((i : Nat) : Int).toNat]? = some its2[i] := by simp [b2]
    have sc : ((i : Int) + 1) = ((i + 1 : Nat) : Int) := by omega
    rw [s1, s2]
    refine wpAny_bind (wpAny_mono tn (fun r st q => ?_) fun _ _ x => x)
    obtain ⟨er, q⟩ := q
    cases he : e i with
    | false =>
      rw [he] at er
      subst er
      have out := fin (i + 1) st q
      rw [all_false (by omega : i < N) he] at out
      obtain ⟨jts, jts2, m, m2, k1, k2, y1, y2, _⟩ := hJ _ _ q
      obtain ⟨hp2, g2', d2, tk2, os2⟩ := st
      have c1 : i < jts.size := by omega
      have c2 : i < jts2.size := by omega
      have j1 : jts[((i : Nat) : Int).toNat]? = some jts[i] := by simp [c1]
      have j2 : jts2[((i : Nat) : Int).toNat]? = some jts2[i] := by simp [c2]
      wp_walk using wpAny_loadPart' k1, wpAny_loadPart' k2
      rw [j1, j2]
      wp_walk
      exact out
    | true =>
      rw [he] at er
      subst er
      have more := ih (i + 1) (by omega) (by omega) (fun j hj => by
        by_cases hji : j = i
        · rw [hji]; exact he
        · exact ht j (by omega)) st q
      obtain ⟨hp2, g2', d2, tk2, os2⟩ := st
      wp_walk
      rw [sc]
      refine ⟨plainId_quiet plain_eq_loop _, codeAny_builtin entry_eq_loop ?_⟩
      rw [Around.under_plainId plain_eq_loop _]
      exact more
theorem list_eqB (l b : Addr) (N : Nat) (e : Nat → Bool) (I : Nat → Shared → Prop) (hJ : LstJ prog w A (fun er s' => R (.error er) s') l b N e I)
    (fin : ∀ i s, I i s → R (.ok (.ret (.bool ((List.range N).all e)))) s) {s : Shared} (h : I 0 s) :
    wpAny (model prog w) A.in1 (Builtin.«list.__eq__» ⟨[.ref l, .ref b], []⟩) (GQ.FinOf prog w A R) (fun er s' => R (.error er) s') s := by
  obtain ⟨its, its2, n, n2, g1, g2, z1, z2, _⟩ := hJ _ _ h
  have more := loopB (A := A) (R := R) l b N e I hJ fin _ 0 rfl (Nat.zero_le _) (fun j hj => by omega) s h
  obtain ⟨hp, g, d, tk, os⟩ := s
  have f3 := AutoSeq1.sub_list_list
  have same : ¬ (its.size != its2.size) = true := by simp [z1, z2]
  wp_walk using wpAny_loadPart' g1, wpAny_loadPart' g2
  refine ⟨plainId_quiet plain_eq_loop _, codeAny_builtin entry_eq_loop ?_⟩
  rw [Around.under_plainId plain_eq_loop _]
  exact more
theorem tup_eqB (l b : Addr) (its its2 : Array Value) (n n2 : Nat) (dd dd2 : Option Addr) (sl sl2 : Array (Option Value)) (e : Nat → Bool) (I : Nat → Shared → Prop)
    (turn : ∀ i (h1 : i < its.size) (h2 : i < its2.size) s, I i s → wpAny (model prog w) A.in1 (eqBool its[i] its2[i]) (fun r s' => r = e i ∧ I (i + 1) s') (fun er s' => R (.error er) s') s)
    (fin : ∀ i s, I i s → R (.ok (.ret (.bool ((List.range (min its.size its2.size)).all e && its.size == its2.size)))) s) {s : Shared} (g1 : s.heap.get? l = some { cls := .type "tuple", dict := dd, data := .seq its n, slots := sl })
    (g2 : s.heap.get? b = some { cls := .type "tuple", dict := dd2, data := .seq its2 n2, slots := sl2 }) (h : I 0 s) :
    wpAny (model prog w) A.in1 (Builtin.«tuple.__eq__» ⟨[.ref l, .ref b], []⟩) (GQ.FinOf prog w A R) (fun er s' => R (.error er) s') s := by
  have f2 := AutoSeq1.sub_tuple_tuple
  have hZ : (its.toList.zip its2.toList).length = min its.size its2.size := by simp
  have h0 := h
  obtain ⟨hp, g, d, tk, os⟩ := s
  wp_walk using wpAny_loadPart' g1, wpAny_loadPart' g2, wpAny_forIn_list _ (fun rest b s' => b.1 = none ∧ ∃ i, rest = (its.toList.zip its2.toList).drop i ∧ i ≤ min its.size its2.size ∧ (∀ j, j < i → e j = true) ∧ I i s') _
  case turn =>
    rintro ⟨y, x⟩ rest b s' ⟨hb', i, hz, hi, ht, hI⟩
    have hlt : i < (its.toList.zip its2.toList).length := by
      rcases Nat.lt_or_ge i (its.toList.zip its2.toList).length with z | z
      · exact z
      · rw [List.drop_of_length_le z] at hz; cases hz
    have hm : i < min its.size its2.size := hZ ▸ hlt
    have h1 : i < its.size := by omega
    have h2 : i < its2.size := by omega
    rw [List.drop_eq_getElem_cons hlt] at hz
    injection hz with hyx hrest
    have hy : y = its[i] := by simpa using congrArg Prod.fst hyx
    have hx : x = its2[i] := by simpa using congrArg Prod.snd hyx
    subst hy hx
    refine wpAny_bind (wpAny_mono (turn i h1 h2 s' hI) (fun r st q => ?_) fun _ _ x => x)
    obtain ⟨er, q⟩ := q
    cases he : e i with
    | true =>
      rw [he] at er
      subst er
      wp_walk
      exact ⟨rfl, i + 1, hrest, hm, fun j hj => by
        by_cases hji : j = i
        · rw [hji]; exact he
        · exact ht j (by omega), q⟩
    | false =>
      rw [he] at er
      subst er
      have out := fin (i + 1) st q
      rw [all_false hm he] at out
      wp_walk
      exact out
  case fin =>
    rintro ⟨b1, b2⟩ s' ⟨hb', i, hz, hi, ht, hI⟩
    simp only at hb'
    subst hb'
    have hge : min its.size its2.size ≤ i := by
      rcases Nat.lt_or_ge i (its.toList.zip its2.toList).length with z | z
      · rw [List.drop_eq_getElem_cons z] at hz; cases hz
      · exact hZ ▸ z
    have out := fin i s' hI
    rw [all_true (fun j hj => ht j (by omega))] at out
    wp_walk
    simpa [Builtin.Tuple.tupleCompareSizes] using out
  case h =>
    exact ⟨rfl, 0, rfl, Nat.zero_le _, fun j hj => by omega, h0⟩
end
section
variable {prog : Program} {w : World} {A : Around} {E : Value → Shared → Prop} {s : Shared}
theorem rc_listB {l b : Addr} {N : Nat} {e : Nat → Bool} {Q : Value → Shared → Prop} (hu : A.units < cLine) (I : Nat → Shared → Prop) (hJ : LstJ prog w A E l b N e I) (fin : ∀ i s, I i s → Q (.bool ((List.range N).all e)) s) (h : I 0 s) :
    wpAny (model prog w) A (richCompare .Eq (.ref l) (.ref b)) Q E s := by
  obtain ⟨its, its2, n, n2, g1, g2, _, _, _⟩ := hJ _ _ h
  refine wpAny_richCompare_same_room (op := .Eq) ⟨_, g1, rfl⟩ ⟨_, g2, rfl⟩ F.slot_list_eq (GQ.call_here F.slot_list_eq ⟨_, g1, rfl⟩ F.entry_list_eq (F.args_list_eq_2 _ _) ?_) hu
  exact list_eqB (R := wants (fun v s' => v ≠ .notImplemented ∧ Q v s') E) l b N e I hJ (fun i st q => ⟨(fun x => nomatch x), fin i st q⟩) h
theorem rc_tupB {l b : Addr} {its its2 : Array Value} {e : Nat → Bool} {Q : Value → Shared → Prop} (hu : A.units < cLine) (I : Nat → Shared → Prop) (hl : s.heap.IsTuple l its) (hb : s.heap.IsTuple b its2)
    (turn : ∀ i (h1 : i < its.size) (h2 : i < its2.size) s, I i s → wpAny (model prog w) A.in1 (eqBool its[i] its2[i]) (fun r s' => r = e i ∧ I (i + 1) s') E s)
    (fin : ∀ i s, I i s → Q (.bool ((List.range (min its.size its2.size)).all e && its.size == its2.size)) s) (h : I 0 s) : wpAny (model prog w) A (richCompare .Eq (.ref l) (.ref b)) Q E s := by
  obtain ⟨⟨cls, dd, data, sl⟩, ho, hc, n, hd⟩ := id hl
  obtain ⟨⟨cls2, dd2, data2, sl2⟩, ho2, hc2, n2, hd2⟩ := id hb
  simp only at hc hd hc2 hd2
  subst hc hd hc2 hd2
  refine wpAny_richCompare_same_room (op := .Eq) ⟨_, ho, rfl⟩ ⟨_, ho2, rfl⟩ F.slot_tuple_eq (GQ.call_here F.slot_tuple_eq ⟨_, ho, rfl⟩ F.entry_tuple_eq (F.args_tuple_eq_2 _ _) ?_) hu
  exact tup_eqB (R := wants (fun v s' => v ≠ .notImplemented ∧ Q v s') E) l b its its2 n n2 dd dd2 sl sl2 e I turn (fun i st q => ⟨(fun x => nomatch x), fin i st q⟩) ho ho2 h
/-- == inside a builtin, of two things that are not one object, by their rich comparison -/
theorem eqBool_by {a b : Value} {Q : Bool → Shared → Prop} (hne : (a == b) = false) (hf : ∀ x t y u, ¬ (a = .float x t ∧ b = .float y u)) (h : wpAny (model prog w) A (richCompare .Eq a b) (fun v s' => ∃ r, v = .bool r ∧ Q r s') E s) : wpAny (model prog w) A (eqBool a b) Q E s := by
  unfold eqBool
  refine wpAny_holding ?_
  refine wpAny_ite_split (fun hab => absurd hab (by rw [hne]; exact Bool.false_ne_true)) (fun _ => ?_)
  have key : wpAny (model prog w) A (do truthOfDropped (← richCompare .Eq a b)) Q E s := wpAny_bind (wpAny_mono h (fun v s' hv => by
    obtain ⟨r, rfl, q⟩ := hv
    exact wpAny_truthy_bool q) fun _ _ x => x)
  split
  · rename_i x t y u q
    exact absurd ⟨congrArg Prod.fst q, congrArg Prod.snd q⟩ (hf x t y u)
  · exact key
end
end K6X
/-! part C -/
set_option maxHeartbeats 4000000
namespace K6
open PySem PySem.Spec PyProof.Rows L2
/-! ### what the law draws, and when two of it are equal -/
inductive Md where
  | non
  | int (i : Int)
  | str (x : Str)
  | lst (l : List Md)
  | tup (l : List Md)
  | obj (w : Nat) (l : List Md)
mutual
def eqM : Md → Md → Bool
  | .non, .non => true
  | .int i, .int j => i == j
  | .str x, .str y => x == y
  | .lst l, .lst m => eqL l m
  | .tup l, .tup m => eqL l m
  | .obj w l, .obj v m => w == v && eqL l m
  | .non, .int _ | .non, .str _ | .non, .lst _ | .non, .tup _ | .non, .obj _ _ => false
  | .int _, .non | .int _, .str _ | .int _, .lst _ | .int _, .tup _ | .int _, .obj _ _ => false
  | .str _, .non | .str _, .int _ | .str _, .lst _ | .str _, .tup _ | .str _, .obj _ _ => false
  | .lst _, .non | .lst _, .int _ | .lst _, .str _ | .lst _, .tup _ | .lst _, .obj _ _ => false
  | .tup _, .non | .tup _, .int _ | .tup _, .str _ | .tup _, .lst _ | .tup _, .obj _ _ => false
  | .obj _ _, .non | .obj _ _, .int _ | .obj _ _, .str _ | .obj _ _, .lst _ | .obj _ _, .tup _ => false
def eqL : List Md → List Md → Bool
  | [], [] => true
  | x :: l, y :: m => eqM x y && eqL l m
  | [], _ :: _ | _ :: _, [] => false
end
theorem eqL_ne : ∀ {l m : List Md}, l.length ≠ m.length → eqL l m = false
  | [], [], h => absurd rfl h
  | [], _ :: _, _ => by rw [eqL]
  | _ :: _, [], _ => by rw [eqL]
  | x :: l, y :: m, h => by
    have z := eqL_ne (l := l) (m := m) fun e => h (by rw [List.length_cons, List.length_cons, e])
    rw [eqL, z, Bool.and_false]
/-- place by place -/
def eqAt (l m : List Md) (i : Nat) : Bool := eqM (l.getD i .non) (m.getD i .non)
theorem eqL_all : ∀ {l m : List Md}, l.length = m.length → eqL l m = (List.range l.length).all (eqAt l m)
  | [], [], _ => by rw [eqL]; rfl
  | [], _ :: _, h => by cases h
  | _ :: _, [], h => by cases h
  | x :: l, y :: m, h => by
    rw [eqL, eqL_all (l := l) (m := m) (Nat.succ.inj h), List.length_cons, List.range_succ_eq_map, List.all_cons, List.all_map]
    rfl
theorem eqL_min {l m : List Md} : eqL l m = ((List.range (min l.length m.length)).all (eqAt l m) && l.length == m.length) := by
  by_cases h : l.length = m.length
  · rw [eqL_all h, h, Nat.min_self]; simp
  · rw [eqL_ne h]; simp [h]
/-! ### how it stands in memory -/
def Flat (v : V) (d : Md) : Prop := (v = .non ∧ d = .non) ∨ (∃ i, v = .int i ∧ d = .int i) ∨ ∃ x, v = .str x ∧ d = .str x
def namesOf : Nat → List Str
  | 1 => ["mantissa", "exponent"] | 2 => ["number"] | 3 => ["numbers"] | _ => []
/-- v is d, at most n deep: instances of the classes at Cs -/
def Ma (Cs : Nat → Addr) (H : Hp) : Nat → V → Md → Prop
  | 0, v, d => Flat v d
  | n + 1, v, d => Flat v d ∨ (∃ (a : Addr) (xs : List V) (l : List Md), v = .ref a ∧ d = .lst l ∧ H a = some (.lst xs) ∧ xs.length = l.length ∧ ∀ (i : Nat) x e, xs[i]? = some x → l[i]? = some e → Ma Cs H n x e) ∨
      (∃ (a : Addr) (xs : List V) (l : List Md), v = .ref a ∧ d = .tup l ∧ H a = some (.tup xs) ∧ xs.length = l.length ∧ ∀ (i : Nat) x e, xs[i]? = some x → l[i]? = some e → Ma Cs H n x e) ∨
      ∃ (a dx : Addr) (k : Nat) (xs : List V) (l : List Md), v = .ref a ∧ d = .obj k l ∧ k < 4 ∧ H a = some (.ins (Cs k) dx ((namesOf k).zip xs)) ∧ xs.length = l.length ∧ l.length = (namesOf k).length ∧ ∀ (i : Nat) x e, xs[i]? = some x → l[i]? = some e → Ma Cs H n x e
theorem Ma.same {Cs : Nat → Addr} {H H' : Hp} (k : Same H H') : ∀ {n : Nat} {v : V} {d : Md}, Ma Cs H n v d → Ma Cs H' n v d
  | 0, _, _, h => h
  | n + 1, v, d, h => by
    rcases h with h | ⟨a, xs, l, h1, h2, h3, h4, h5⟩ | ⟨a, xs, l, h1, h2, h3, h4, h5⟩ | ⟨a, dx, j, xs, l, h1, h2, h3, h4, h5, h6, h7⟩
    · exact .inl h
    · exact .inr (.inl ⟨a, xs, l, h1, h2, k _ _ h3, h4, fun i x e g1 g2 => Ma.same k (h5 i x e g1 g2)⟩)
    · exact .inr (.inr (.inl ⟨a, xs, l, h1, h2, k _ _ h3, h4, fun i x e g1 g2 => Ma.same k (h5 i x e g1 g2)⟩))
    · exact .inr (.inr (.inr ⟨a, dx, j, xs, l, h1, h2, h3, k _ _ h4, h5, h6, fun i x e g1 g2 => Ma.same k (h7 i x e g1 g2)⟩))
theorem Ma.up {Cs : Nat → Addr} {H : Hp} : ∀ {n : Nat} {v : V} {d : Md}, Ma Cs H n v d → Ma Cs H (n + 1) v d
  | 0, _, _, h => .inl h
  | n + 1, v, d, h => by
    rcases h with h | ⟨a, xs, l, h1, h2, h3, h4, h5⟩ | ⟨a, xs, l, h1, h2, h3, h4, h5⟩ | ⟨a, dx, j, xs, l, h1, h2, h3, h4, h5, h6, h7⟩
    · exact .inl h
    · exact .inr (.inl ⟨a, xs, l, h1, h2, h3, h4, fun i x e g1 g2 => Ma.up (h5 i x e g1 g2)⟩)
    · exact .inr (.inr (.inl ⟨a, xs, l, h1, h2, h3, h4, fun i x e g1 g2 => Ma.up (h5 i x e g1 g2)⟩))
    · exact .inr (.inr (.inr ⟨a, dx, j, xs, l, h1, h2, h3, h4, h5, h6, fun i x e g1 g2 => Ma.up (h7 i x e g1 g2)⟩))
theorem Ma.mono {Cs : Nat → Addr} {H : Hp} {n m : Nat} {v : V} {d : Md} (h : Ma Cs H n v d) (hn : n ≤ m) : Ma Cs H m v d := by
  induction hn with
  | refl => exact h
  | step _ ih => exact ih.up
/-- what the written part says of the four classes -/
structure Txt (K : PySem.W.Frag) (Cs fE : Nat → Addr) : Prop where
  cl : ∀ k, k < 4 → Cls K (Cs k)
  inj : ∀ i j, i < 4 → j < 4 → Cs i = Cs j → i = j
  eq : ∀ k, k < 4 → PySem.W.findIn K (.ref (Cs k)) "__eq__" = some (some (.ref (fE k)))
  fn : ∀ k, k < 4 → PySem.W.isFn K (.ref (fE k)) = true
  ne : ∀ k, k < 4 → PySem.W.findIn K (.ref (Cs k)) "__ne__" = some (some (.builtin "object.__ne__"))
  mro : ∀ k, k < 4 → ∀ b, PySem.W.mroIn K (Cs k) b = some (([.ref (Cs k), .type "object"] : List Value).contains b)
  isC : ∀ k, k < 4 → PySem.W.isClsIn K (Cs k) = true
  tyC : ∀ k, k < 4 → PySem.W.typeIn K (.ref (Cs k)) = some (.type "type")
  cls : ∀ k, k < 4 → PySem.W.findIn K (.ref (Cs k)) "__class__" = some (some (.builtin "object.__class__"))
  sp : PySem.W.specialIn K (.builtin "object.__class__") "__get__" = some (some (.builtin "getset_descriptor.__get__"))
  tk : PySem.W.takesIn K (.builtin "object.__class__") = some true
section
variable {K : PySem.W.Frag} {Cs fE : Nat → Addr}
theorem Txt.no (T : Txt K Cs fE) {k : Nat} (hk : k < 4) {t : String} (ht : t ≠ "object") : PySem.W.mroIn K (Cs k) (.type t) = some false := by
  rw [T.mro k hk]
  exact congrArg some (by simp [ht])
theorem Txt.obj (T : Txt K Cs fE) {k : Nat} (hk : k < 4) : PySem.W.mroIn K (Cs k) (.type "object") = some true := by
  rw [T.mro k hk]
  exact congrArg some (by simp)
/-- no built-in type stands below an own class -/
theorem sub_of {t : String} {l : List Value} {C : Addr} (h : PySem.fastBuiltinMro t = some l) (hl : l.contains (.ref C) = false) : PySem.W.subIn K (.type t) (.ref C) = some false := by
  show (PySem.fastBuiltinMro t).map _ = _
  rw [h]
  show some (l.contains (.ref C)) = _
  rw [hl]
theorem sub_int (C : Addr) : PySem.W.subIn K (.type "int") (.ref C) = some false := sub_of (l := [.type "int", .type "object"]) (by decide +kernel) (by simp)
theorem sub_str (C : Addr) : PySem.W.subIn K (.type "str") (.ref C) = some false := sub_of (l := [.type "str", .type "object"]) (by decide +kernel) (by simp)
theorem sub_non (C : Addr) : PySem.W.subIn K (.type "NoneType") (.ref C) = some false := sub_of (l := [.type "NoneType", .type "object"]) (by decide +kernel) (by simp)
theorem sub_list (C : Addr) : PySem.W.subIn K (.type "list") (.ref C) = some false := sub_of (l := [.type "list", .type "object"]) (by decide +kernel) (by simp)
theorem sub_tup (C : Addr) : PySem.W.subIn K (.type "tuple") (.ref C) = some false := sub_of (l := [.type "tuple", .type "object"]) (by decide +kernel) (by simp)
theorem sub_dict (C : Addr) : PySem.W.subIn K (.type "dict") (.ref C) = some false := sub_of (l := [.type "dict", .type "object"]) (by decide +kernel) (by simp)
theorem Txt.kit (T : Txt K Cs fE) {j k : Nat} (hj : j < 4) (hk : k < 4) : PySem.W.kitOne K (.ref (Cs j)) (.ref (Cs k)) = some (decide (j = k)) := by
  unfold PySem.W.kitOne
  by_cases e : j = k
  · subst e
    rw [if_pos (by simp), decide_eq_true rfl]
  · have n : Cs j ≠ Cs k := fun z => e (T.inj j k hj hk z)
    rw [if_neg (by simpa using n), decide_eq_false e]
    show (if ((PySem.W.clsIn K (Cs k)).isSome && PySem.W.typeIn K (.ref (Cs k)) == some (.type "type")) = true then PySem.W.mroIn K (Cs j) (.ref (Cs k)) else none) = _
    rw [if_pos (by rw [T.tyC k hk, show (PySem.W.clsIn K (Cs k)).isSome = true from T.isC k hk]; rfl), T.mro j hj]
    exact congrArg some (by simp [Ne.symm n])
theorem Txt.kitT (T : Txt K Cs fE) {k : Nat} (hk : k < 4) {t : String} (h : PySem.W.subIn K (.type t) (.ref (Cs k)) = some false) : PySem.W.kitOne K (.type t) (.ref (Cs k)) = some false := by
  unfold PySem.W.kitOne
  rw [if_neg (by simp)]
  show (if ((PySem.W.clsIn K (Cs k)).isSome && PySem.W.typeIn K (.ref (Cs k)) == some (.type "type")) = true then PySem.W.subIn K (.type t) (.ref (Cs k)) else none) = _
  rw [if_pos (by rw [T.tyC k hk, show (PySem.W.clsIn K (Cs k)).isSome = true from T.isC k hk]; rfl), h]
/-- the kind of d, as far as isinstance asks: which of the four classes -/
def kindM : Md → Option Nat
  | .obj k _ => some k
  | _ => none
theorem Ma.ty {H : Hp} {n : Nat} {v : V} {d : Md} (T : Txt K Cs fE) (h : Ma Cs H n v d) {k : Nat} (hk : k < 4) : ∃ t, TyX K H v t ∧ PySem.W.kitOne K t (.ref (Cs k)) = some (decide (kindM d = some k)) := by
  have flat : Flat v d → ∃ t, TyX K H v t ∧ PySem.W.kitOne K t (.ref (Cs k)) = some (decide (kindM d = some k)) := fun f => by
    rcases f with ⟨rfl, rfl⟩ | ⟨i, rfl, rfl⟩ | ⟨x, rfl, rfl⟩
    · exact ⟨_, .base .non, T.kitT hk (sub_non _)⟩
    · exact ⟨_, .base (.int i), T.kitT hk (sub_int _)⟩
    · exact ⟨_, .base (.str x), T.kitT hk (sub_str _)⟩
  cases n with
  | zero => exact flat h
  | succ n =>
    rcases h with h | ⟨a, xs, l, rfl, rfl, h3, _⟩ | ⟨a, xs, l, rfl, rfl, h3, _⟩ | ⟨a, dx, j, xs, l, rfl, rfl, hj, h4, _⟩
    · exact flat h
    · exact ⟨_, .base (.lst h3), T.kitT hk (sub_list _)⟩
    · exact ⟨_, .base (.tup h3), T.kitT hk (sub_tup _)⟩
    · refine ⟨_, .base (.ins h4 (T.cl j hj) (T.cls j hj) T.sp T.tk (T.obj hj)), ?_⟩
      rw [T.kit hj hk]
      exact congrArg some (by simp [kindM])
end
end K6
/-! part D -/
set_option maxHeartbeats 4000000
namespace K6
open PySem PySem.Spec PyProof.Rows L2
mutual
theorem eqM_refl : ∀ d : Md, eqM d d = true
  | .non => by rw [eqM]
  | .int i => by rw [eqM]; simp
  | .str x => by rw [eqM]; simp
  | .lst l => by rw [eqM]; exact eqL_refl l
  | .tup l => by rw [eqM]; exact eqL_refl l
  | .obj w l => by rw [eqM, eqL_refl l]; simp
theorem eqL_refl : ∀ l : List Md, eqL l l = true
  | [] => by rw [eqL]
  | x :: l => by rw [eqL, eqM_refl x, eqL_refl l]; rfl
end
theorem list_same {R : V → Md → Prop} (hR : ∀ v d e, R v d → R v e → d = e) {xs : List V} {l m : List Md} (h1 : xs.length = l.length) (h2 : xs.length = m.length) (a : ∀ (i : Nat) x e, xs[i]? = some x → l[i]? = some e → R x e)
    (b : ∀ (i : Nat) x e, xs[i]? = some x → m[i]? = some e → R x e) : l = m := by
  refine List.ext_getElem (h1.symm.trans h2) fun i g1 g2 => ?_
  have gx : i < xs.length := by omega
  exact hR xs[i] _ _ (a i _ _ (List.getElem?_eq_getElem gx) (List.getElem?_eq_getElem g1)) (b i _ _ (List.getElem?_eq_getElem gx) (List.getElem?_eq_getElem g2))
theorem Flat.one {v : V} {d e : Md} (h : Flat v d) (k : Flat v e) : d = e := by
  rcases h with ⟨rfl, rfl⟩ | ⟨i, rfl, rfl⟩ | ⟨x, rfl, rfl⟩ <;> rcases k with ⟨z, rfl⟩ | ⟨j, z, rfl⟩ | ⟨y, z, rfl⟩ <;> cases z <;> rfl
theorem Flat.noref {a : Addr} {d : Md} (h : Flat (.ref a) d) : False := by
  rcases h with ⟨z, _⟩ | ⟨i, z, _⟩ | ⟨x, z, _⟩ <;> cases z
/-- one thing is one datum -/
theorem Ma.one {Cs : Nat → Addr} {H : Hp} (inj : ∀ i j, i < 4 → j < 4 → Cs i = Cs j → i = j) : ∀ {n : Nat} {v : V} {d e : Md}, Ma Cs H n v d → Ma Cs H n v e → d = e
  | 0, _, _, _, h, k => Flat.one h k
  | n + 1, v, d, e, h, k => by
    have rec' : ∀ v d e, Ma Cs H n v d → Ma Cs H n v e → d = e := fun v d e => Ma.one inj
    rcases h with h | ⟨a, xs, l, rfl, rfl, h3, h4, h5⟩ | ⟨a, xs, l, rfl, rfl, h3, h4, h5⟩ | ⟨a, dx, j, xs, l, rfl, rfl, hj, h3, h4, h6, h5⟩
    · rcases k with k | ⟨b, ys, m, rfl, rfl, k3, k4, k5⟩ | ⟨b, ys, m, rfl, rfl, k3, k4, k5⟩ | ⟨b, dy, i, ys, m, rfl, rfl, hi, k3, k4, k6, k5⟩
      · exact h.one k
      · exact h.noref.elim
      · exact h.noref.elim
      · exact h.noref.elim
    · rcases k with k | ⟨b, ys, m, z, rfl, k3, k4, k5⟩ | ⟨b, ys, m, z, rfl, k3, k4, k5⟩ | ⟨b, dy, i, ys, m, z, rfl, hi, k3, k4, k6, k5⟩
      · exact k.noref.elim
      · cases z
        rw [h3] at k3; cases k3
        rw [list_same rec' h4 k4 h5 k5]
      · cases z
        rw [h3] at k3; cases k3
      · cases z
        rw [h3] at k3; cases k3
    · rcases k with k | ⟨b, ys, m, z, rfl, k3, k4, k5⟩ | ⟨b, ys, m, z, rfl, k3, k4, k5⟩ | ⟨b, dy, i, ys, m, z, rfl, hi, k3, k4, k6, k5⟩
      · exact k.noref.elim
      · cases z
        rw [h3] at k3; cases k3
      · cases z
        rw [h3] at k3; cases k3
        rw [list_same rec' h4 k4 h5 k5]
      · cases z
        rw [h3] at k3; cases k3
    · rcases k with k | ⟨b, ys, m, z, rfl, k3, k4, k5⟩ | ⟨b, ys, m, z, rfl, k3, k4, k5⟩ | ⟨b, dy, i, ys, m, z, rfl, hi, k3, k4, k6, k5⟩
      · exact k.noref.elim
      · cases z
        rw [h3] at k3; cases k3
      · cases z
        rw [h3] at k3; cases k3
      · cases z
        rw [h3] at k3
        injection k3 with k3
        injection k3 with z1 z2 z3
        have ij : j = i := inj j i hj hi z1
        subst ij
        have lx : (namesOf j).length = xs.length := by omega
        have ly : (namesOf j).length = ys.length := by omega
        have e2 : xs = ys := by
          have q := congrArg (fun l => l.map Prod.snd) z3
          simp only [List.map_snd_zip (Nat.le_of_eq lx.symm), List.map_snd_zip (Nat.le_of_eq ly.symm)] at q
          exact q
        subst e2
        rw [list_same rec' h4 k4 h5 k5]
/-! ### == at the level of the machine -/
def RcN (P : Program) (w : World) (K : PySem.W.Frag) (mg : Str → Option Value) (base : Heap) (Cs : Nat → Addr) (n k : Nat) : Prop :=
  ∀ (X : Cx), X.prog = P → X.w = w → X.K = K → X.mg = mg → X.base = base → ∀ (A : Around) (pins : List (Addr × Obj)) (s : Shared) (σ : L2.St) (H : Hp) (x y : V) (d e : Md) (u v : Value), Sub X k A → Inv X pins σ H s → RelV x u → RelV y v → Ma Cs H n x d → Ma Cs H n y e →
    wpAny (model X.prog X.w) A (richCompare .Eq u v) (fun r s' => r = .bool (eqM d e) ∧ ∃ H', Inv X pins σ H' s' ∧ Same H H') X.xe s
def EqN (P : Program) (w : World) (K : PySem.W.Frag) (mg : Str → Option Value) (base : Heap) (Cs : Nat → Addr) (n k : Nat) : Prop :=
  ∀ (X : Cx), X.prog = P → X.w = w → X.K = K → X.mg = mg → X.base = base → ∀ (A : Around) (pins : List (Addr × Obj)) (s : Shared) (σ : L2.St) (H : Hp) (x y : V) (d e : Md) (u v : Value), Sub X k A → Inv X pins σ H s → RelV x u → RelV y v → Ma Cs H n x d → Ma Cs H n y e →
    wpAny (model X.prog X.w) A (eqBool u v) (fun r s' => r = eqM d e ∧ ∃ H', Inv X pins σ H' s' ∧ Same H H') X.xe s
section
variable {P : Program} {w : World} {K : PySem.W.Frag} {mg : Str → Option Value} {base : Heap} {Cs fE : Nat → Addr} {n k : Nat}
theorem Ma.novf {H : Hp} {n : Nat} {v : V} {d : Md} {u : Value} (h : Ma Cs H n v d) (r : RelV v u) : ∀ x t, u ≠ .float x t := by
  have flat : Flat v d → ∀ x t, u ≠ .float x t := fun f x t z => by
    rcases f with ⟨rfl, rfl⟩ | ⟨i, rfl, rfl⟩ | ⟨y, rfl, rfl⟩
    · have r' : u = .none := r
      rw [r'] at z; cases z
    · obtain ⟨t', rfl⟩ := r; cases z
    · obtain ⟨t', rfl⟩ := r; cases z
  have isref : ∀ a, v = .ref a → ∀ x t, u ≠ .float x t := fun a e x t z => by
    subst e
    have r' : u = .ref a := r
    rw [r'] at z; cases z
  cases n with
  | zero => exact flat h
  | succ n =>
    rcases h with h | ⟨a, xs, l, e, _⟩ | ⟨a, xs, l, e, _⟩ | ⟨a, dx, j, xs, l, e, _⟩
    · exact flat h
    · exact isref a e
    · exact isref a e
    · exact isref a e
/-- one value stands for one thing -/
def vOf : Value → V
  | .bool b => .bl b
  | .int i _ => .int i
  | .str x _ => .str x
  | .bytes b _ => .byt b
  | .float b _ => .flt b
  | .ref a => .ref a
  | .type n => .ty n
  | _ => .non
theorem vOf_rel {x : V} {u : Value} (r : L2.RelV x u) : vOf u = x := by
  cases x with
  | non => rw [show u = Value.none from r]; rfl
  | bl b => rw [show u = Value.bool b from r]; rfl
  | int i => obtain ⟨t, e⟩ := (show ∃ t, u = Value.int i t from r); rw [e]; rfl
  | str x => obtain ⟨t, e⟩ := (show ∃ t, u = Value.str x t from r); rw [e]; rfl
  | byt b => obtain ⟨t, e⟩ := (show ∃ t, u = Value.bytes b t from r); rw [e]; rfl
  | flt b => obtain ⟨t, e⟩ := (show ∃ t, u = Value.float b t from r); rw [e]; rfl
  | ref a => rw [show u = Value.ref a from r]; rfl
  | ty n => rw [show u = Value.type n from r]; rfl
theorem relV_one {x y : V} {u : Value} (rx : L2.RelV x u) (ry : L2.RelV y u) : x = y := (vOf_rel rx).symm.trans (vOf_rel ry)
theorem rc_eq (inj : ∀ i j, i < 4 → j < 4 → Cs i = Cs j → i = j) (h : RcN P w K mg base Cs n k) : EqN P w K mg base Cs n k := by
  intro X e1 e2 e3 e4 e5 A pins s σ H x y d e u v sb I rx ry hx hy
  by_cases huv : u = v
  · subst huv
    have exy := relV_one rx ry
    subst exy
    have ede := Ma.one inj hx hy
    subst ede
    rw [eqM_refl]
    exact SeqAt.EqAt.same (A := A) (s := s) u X.prog X.w X.xe _ ⟨rfl, H, I, Same.refl H⟩
  · have nb : (u == v) = false := by simpa using huv
    refine K6X.eqBool_by nb (fun x t y u' z => hx.novf rx x t z.1) (wpAny_mono (h X e1 e2 e3 e4 e5 A pins s σ H x y d e u v sb I rx ry hx hy) (fun r s' q => ?_) fun _ _ z => z)
    obtain ⟨hr, q⟩ := q
    exact ⟨_, hr, rfl, q⟩
end
end K6
/-! part E -/
set_option maxHeartbeats 4000000
namespace K6
open PySem PySem.Spec PyProof.Rows L2
/-- what an own == promises: for an object of the k-th class, at most n deep, and anything of ours -/
def spEqW (Cs : Nat → Addr) (k n : Nat) : Sp := fun vs H Q _ => ∃ (a : Addr) (y : V) (l : List Md) (e : Md), vs = [.ref a, y] ∧ Ma Cs H n (.ref a) (.obj k l) ∧ Ma Cs H n y e ∧ ∀ H', Same H H' → Q (.bl (eqM (.obj k l) e)) H'
section
variable {A : Around} {s : Shared} {x y : V} {d e : Md} {u v : Value}
theorem rcFlat (rx : L2.RelV x u) (ry : L2.RelV y v) (hx : Flat x d) (hy : Flat y e) : SeqAt.RcAt A s u v (eqM d e) := by
  rcases hx with ⟨rfl, rfl⟩ | ⟨i, rfl, rfl⟩ | ⟨z, rfl, rfl⟩ <;> rcases hy with ⟨rfl, rfl⟩ | ⟨j, rfl, rfl⟩ | ⟨w, rfl, rfl⟩
  · cases rx; cases ry; rw [eqM]; exact SeqAt.RcAt.none_none
  · cases rx; obtain ⟨t, rfl⟩ := ry; rw [eqM]; exact SeqAt.RcAt.none_int j t
  · cases rx; obtain ⟨t, rfl⟩ := ry; rw [eqM]; exact SeqAt.RcAt.none_str w t
  · cases ry; obtain ⟨t, rfl⟩ := rx; rw [eqM]; exact SeqAt.RcAt.int_none i t
  · obtain ⟨t, rfl⟩ := rx; obtain ⟨t', rfl⟩ := ry; rw [eqM]; exact SeqAt.RcAt.int_int i t j t'
  · obtain ⟨t, rfl⟩ := rx; obtain ⟨t', rfl⟩ := ry; rw [eqM]; exact SeqAt.RcAt.int_str i t w t'
  · cases ry; obtain ⟨t, rfl⟩ := rx; rw [eqM]; exact SeqAt.RcAt.str_none z t
  · obtain ⟨t, rfl⟩ := rx; obtain ⟨t', rfl⟩ := ry; rw [eqM]; exact SeqAt.RcAt.str_int z t j t'
  · obtain ⟨t, rfl⟩ := rx; obtain ⟨t', rfl⟩ := ry; rw [eqM]; exact SeqAt.RcAt.str_str z t w t'
theorem rcFlat_list {b : Addr} {its : Array Value} (rx : L2.RelV x u) (hx : Flat x d) (hb : s.heap.IsList b its) (hu : A.units < cLine) : SeqAt.RcAt A s u (.ref b) false := by
  rcases hx with ⟨rfl, rfl⟩ | ⟨i, rfl, rfl⟩ | ⟨z, rfl, rfl⟩
  · cases rx; exact SeqAt.RcAt.none_list hb hu
  · obtain ⟨t, rfl⟩ := rx; exact SeqAt.RcAt.int_list i t hb hu
  · obtain ⟨t, rfl⟩ := rx; exact SeqAt.RcAt.str_list z t hb hu
theorem rcList_flat {b : Addr} {its : Array Value} (rx : L2.RelV x u) (hx : Flat x d) (hb : s.heap.IsList b its) (hu : A.units < cLine) : SeqAt.RcAt A s (.ref b) u false := by
  rcases hx with ⟨rfl, rfl⟩ | ⟨i, rfl, rfl⟩ | ⟨z, rfl, rfl⟩
  · cases rx; exact SeqAt.RcAt.list_none hb hu
  · obtain ⟨t, rfl⟩ := rx; exact SeqAt.RcAt.list_int i t hb hu
  · obtain ⟨t, rfl⟩ := rx; exact SeqAt.RcAt.list_str z t hb hu
theorem rcFlat_tup {b : Addr} {its : Array Value} (rx : L2.RelV x u) (hx : Flat x d) (hb : s.heap.IsTuple b its) (hu : A.units < cLine) : SeqAt.RcAt A s u (.ref b) false := by
  rcases hx with ⟨rfl, rfl⟩ | ⟨i, rfl, rfl⟩ | ⟨z, rfl, rfl⟩
  · cases rx; exact SeqAt.RcAt.none_tuple hb hu
  · obtain ⟨t, rfl⟩ := rx; exact SeqAt.RcAt.int_tuple i t hb hu
  · obtain ⟨t, rfl⟩ := rx; exact SeqAt.RcAt.str_tuple z t hb hu
theorem rcTup_flat {b : Addr} {its : Array Value} (rx : L2.RelV x u) (hx : Flat x d) (hb : s.heap.IsTuple b its) (hu : A.units < cLine) : SeqAt.RcAt A s (.ref b) u false := by
  rcases hx with ⟨rfl, rfl⟩ | ⟨i, rfl, rfl⟩ | ⟨z, rfl, rfl⟩
  · cases rx; exact SeqAt.RcAt.tuple_none hb hu
  · obtain ⟨t, rfl⟩ := rx; exact SeqAt.RcAt.tuple_int i t hb hu
  · obtain ⟨t, rfl⟩ := rx; exact SeqAt.RcAt.tuple_str z t hb hu
theorem eqM_flat_lst {l : List Md} (h : Flat x d) : eqM d (.lst l) = false ∧ eqM (.lst l) d = false := by
  rcases h with ⟨rfl, rfl⟩ | ⟨i, rfl, rfl⟩ | ⟨z, rfl, rfl⟩ <;> exact ⟨by rw [eqM], by rw [eqM]⟩
theorem eqM_flat_tup {l : List Md} (h : Flat x d) : eqM d (.tup l) = false ∧ eqM (.tup l) d = false := by
  rcases h with ⟨rfl, rfl⟩ | ⟨i, rfl, rfl⟩ | ⟨z, rfl, rfl⟩ <;> exact ⟨by rw [eqM], by rw [eqM]⟩
theorem eqM_flat_obj {k : Nat} {l : List Md} (h : Flat x d) : eqM d (.obj k l) = false ∧ eqM (.obj k l) d = false := by
  rcases h with ⟨rfl, rfl⟩ | ⟨i, rfl, rfl⟩ | ⟨z, rfl, rfl⟩ <;> exact ⟨by rw [eqM], by rw [eqM]⟩
end
section
variable {X : Cx} {pins : List (Addr × Obj)} {σ : L2.St} {H : Hp} {s : Shared} {A : Around} {Cs : Nat → Addr} {k n m : Nat} {a : Addr} {y : V} {l : List Md} {e : Md} {v : Value} {f : Addr} {fd : FuncData}
/-- the own == called -/
theorem callEq (F : FnOk X.prog X.w X.K X.mg X.base CX0 m f fd ["self", "other"] (spEqW Cs k n)) (hb : Binds X.K fd ["self", "other"] []) (sb : Sub X m A) (I : Inv X pins σ H s) (ha : Ma Cs H n (.ref a) (.obj k l)) (hy : Ma Cs H n y e) (ry : L2.RelV y v) :
    wpAny (model X.prog X.w) A (call (.ref f) [.ref a, v]) (fun r s' => r = .bool (eqM (.obj k l) e) ∧ ∃ H', Inv X pins σ H' s' ∧ Same H H') X.xe s := by
  have hsp : spEqW Cs k n [.ref a, y] H (fun z H' => z = .bl (eqM (.obj k l) e) ∧ Same H H') (fun _ _ _ => False) := ⟨a, y, l, e, rfl, ha, hy, fun H' q => ⟨rfl, q⟩⟩
  have e0 : Env0 X.prog X.w X.K X.mg X.base A X.stack s H := by
    have z := I.env0
    exact { frames := by rw [sb.fr]; exact z.frames, mod := z.mod, bs := z.bs, bsz := z.bsz, funs := z.funs, frf := z.frf, hok := z.hok, bare := z.bare }
  have r2 : Vals [V.ref a, y] [Value.ref a, v] := .cons rfl (.cons ry .nil)
  have hb2 := hb s [.ref a, v] I.kIn rfl
  rw [List.append_nil] at hb2
  refine wpAny_call (codeAny_mono (F.run A X.stack s H _ _ _ _ (fun _ _ _ => False) sb.room e0 hb2 r2 hsp) fun r s' hq => ?_)
  cases r with
  | error er => exact hq.elim
  | ok fl =>
    cases fl with
    | next => exact False.elim hq
    | brk => exact False.elim hq
    | cont => exact False.elim hq
    | ret w' =>
      obtain ⟨z, H', I', rz, ez, ex⟩ := I.after hq
      subst ez
      cases rz
      exact ⟨rfl, H', I', ex⟩
end
end K6
/-! part F -/
set_option maxHeartbeats 8000000
namespace K6
open PySem PySem.Spec PyProof.Rows L2
section
variable {P : Program} {w : World} {K : PySem.W.Frag} {mg : Str → Option Value} {base : Heap} {Cs fE : Nat → Addr} {fdE : Nat → FuncData} {n m m' M : Nat}
theorem rc_zero {k : Nat} : RcN P w K mg base Cs 0 k := by
  intro X e1 e2 e3 e4 e5 A pins s σ H x y d e u v sb I rx ry hx hy
  exact rcFlat rx ry hx hy X.prog X.w X.xe _ ⟨rfl, H, I, Same.refl H⟩
theorem notFirst_ty {C : Addr} {t : String} (h : PySem.W.subIn K (.type t) (.ref C) = some false) : PySem.W.notFirst K C (.type t) = true := by
  unfold PySem.W.notFirst
  rw [h]; simp
theorem rc_succ (T : Txt K Cs fE) (Fs : ∀ k, k < 4 → FnOk P w K mg base CX0 m (fE k) (fdE k) ["self", "other"] (spEqW Cs k (n + 1))) (bs : ∀ k, k < 4 → Binds K (fdE k) ["self", "other"] []) (hE : EqN P w K mg base Cs n m') (hm : m ≤ M) (hm' : m' + 1 ≤ M) :
    RcN P w K mg base Cs (n + 1) M := by
  intro X e1 e2 e3 e4 e5 A pins s σ H x y d e u v sb I rx ry hx hy
  subst e1 e2 e3 e4 e5
  have hu : A.units < cLine := sb.room.units0
  have X0 := I.kIn
  have stay : ∀ {b : Bool}, b = eqM d e → (Value.bool b = .bool (eqM d e) ∧ ∃ H', Inv X pins σ H' s ∧ Same H H') := fun {b} hb => ⟨by rw [hb], H, I, Same.refl H⟩
  have listAt : ∀ {a : Addr} {xs : List V} {H1 : Hp} {s1 : Shared}, Inv X pins σ H1 s1 → H1 a = some (.lst xs) → ∃ (its : List Value) (k : Nat), Vals xs its ∧ s1.heap.get? a = some { cls := .type "list", data := .seq its.toArray k } := fun {a xs H1 s1} I1 h => by
    obtain ⟨z, its, k, r, g⟩ := I1.hok a _ h
    exact ⟨its, k, r, g⟩
  have tupAt : ∀ {a : Addr} {xs : List V} {H1 : Hp} {s1 : Shared}, Inv X pins σ H1 s1 → H1 a = some (.tup xs) → ∃ its : List Value, Vals xs its ∧ s1.heap.IsTuple a its.toArray := fun {a xs H1 s1} I1 h => by
    obtain ⟨its, r, g, _⟩ := I1.tuple (SqT.of h)
    exact ⟨its, r, g⟩
  have instAt : ∀ {a C dx : Addr} {fs : List (Str × V)}, H a = some (.ins C dx fs) → ∃ od, PySem.W.InstAt s.heap a (PySem.W.instObj C dx) C (some od) := fun {a C dx fs} h => by
    obtain ⟨mA, J, _⟩ := ins_get I.hok h
    obtain ⟨od, J, _⟩ := J.look
    exact ⟨od, J⟩
  have fin : ∀ (r : Bool), r = eqM d e → ∀ (s' : Shared), (∃ H', Inv X pins σ H' s' ∧ Same H H') → (Value.bool r = .bool (eqM d e) ∧ ∃ H', Inv X pins σ H' s' ∧ Same H H') := fun r hr s' q => ⟨by rw [hr], q⟩
  -- the i-th items of two rows
  have items : ∀ {xs ys : List V} {l l' : List Md} {its its2 : List Value} {i : Nat} {s1 : Shared} {H1 : Hp}, Vals xs its → Vals ys its2 → xs.length = l.length → ys.length = l'.length → (∀ (i : Nat) x e, xs[i]? = some x → l[i]? = some e → Ma Cs H n x e) → (∀ (i : Nat) x e, ys[i]? = some x → l'[i]? = some e → Ma Cs H n x e) →
      Inv X pins σ H1 s1 → Same H H1 → ∀ (h1 : i < its.toArray.size) (h2 : i < its2.toArray.size), wpAny (model X.prog X.w) A.in1 (eqBool its.toArray[i] its2.toArray[i]) (fun r s' => r = eqAt l l' i ∧ ∃ H', Inv X pins σ H' s' ∧ Same H H') X.xe s1 := by
    intro xs ys l l' its its2 i s1 H1 r r2 z1 z2 p p2 I1 sm h1 h2
    have g1 : its[i]? = some its.toArray[i] := by
      rw [List.getElem?_eq_getElem (by simpa using h1)] <;> simp
    have g2 : its2[i]? = some its2.toArray[i] := by
      rw [List.getElem?_eq_getElem (by simpa using h2)] <;> simp
    have q1 : i < xs.length := by rw [r.length]; simpa using h1
    have q2 : i < ys.length := by rw [r2.length]; simpa using h2
    obtain ⟨u1, hu1, ru1⟩ := r.get (List.getElem?_eq_getElem q1)
    obtain ⟨u2, hu2, ru2⟩ := r2.get (List.getElem?_eq_getElem q2)
    rw [g1] at hu1
    rw [g2] at hu2
    rw [Option.some.inj hu1, Option.some.inj hu2]
    have l1 : i < l.length := by omega
    have l2 : i < l'.length := by omega
    have a1 := p i _ _ (List.getElem?_eq_getElem q1) (List.getElem?_eq_getElem l1)
    have a2 := p2 i _ _ (List.getElem?_eq_getElem q2) (List.getElem?_eq_getElem l2)
    have ea : eqAt l l' i = eqM l[i] l'[i] := by
      unfold eqAt
      rw [List.getD_eq_getElem?_getD, List.getD_eq_getElem?_getD, List.getElem?_eq_getElem l1, List.getElem?_eq_getElem l2]
      rfl
    rw [ea]
    have sb2 : Sub X m' A.in1 := (sb.mono hm').in1
    refine wpAny_mono (hE X rfl rfl rfl rfl rfl A.in1 pins s1 σ H1 _ _ _ _ u1 u2 sb2 I1 ru1 ru2 (a1.same sm) (a2.same sm)) (fun r' s' q => ?_) fun _ _ z => z
    obtain ⟨hr, H2, I2, s2⟩ := q
    exact ⟨hr, H2, I2, sm.trans s2⟩
  have hx0 := hx
  have hy0 := hy
  rcases hx with hx | ⟨a, xs, l, rfl, rfl, h3, h4, h5⟩ | ⟨a, xs, l, rfl, rfl, h3, h4, h5⟩ | ⟨a, dx, j, xs, l, rfl, rfl, hj, h3, h4, h6, h5⟩
  · -- a flat thing on the left
    rcases hy with hy | ⟨b, ys, l', rfl, rfl, k3, k4, k5⟩ | ⟨b, ys, l', rfl, rfl, k3, k4, k5⟩ | ⟨b, dy, j', ys, l', rfl, rfl, hj', k3, k4, k6, k5⟩
    · exact rcFlat rx ry hx hy X.prog X.w X.xe _ (stay rfl)
    · cases ry
      obtain ⟨its, k, r, g⟩ := listAt I k3
      exact rcFlat_list rx hx ⟨_, g, rfl, k, rfl⟩ hu X.prog X.w X.xe _ (stay (eqM_flat_lst hx).1.symm)
    · cases ry
      obtain ⟨its, r, g⟩ := tupAt I k3
      exact rcFlat_tup rx hx g hu X.prog X.w X.xe _ (stay (eqM_flat_tup hx).1.symm)
    · cases ry
      obtain ⟨od, J⟩ := instAt k3
      have call := callEq (Fs j' hj') (bs j' hj') (sb.mono hm) I hy0 hx0 rx
      have back : ∀ (r : Value) (s' : Shared), (r = .bool (eqM (.obj j' l') d) ∧ ∃ H', Inv X pins σ H' s' ∧ Same H H') → PySem.W.CmpBack (fun r s' => r = .bool (eqM d (.obj j' l')) ∧ ∃ H', Inv X pins σ H' s' ∧ Same H H') r s' := fun r s' q => by
        obtain ⟨rfl, q⟩ := q
        exact ⟨by rw [(eqM_flat_obj hx).1, (eqM_flat_obj hx).2], q⟩
      have call2 := wpAny_mono call back fun _ _ z => z
      rcases hx with ⟨rfl, rfl⟩ | ⟨i, rfl, rfl⟩ | ⟨z, rfl, rfl⟩
      · cases rx
        exact K6X.rc_right hu X0 J rfl (T.no hj' (by decide)) F.slot_NoneType_eq (fun z => nomatch z) (fun Q' q => K6X.none_no q) (T.eq j' hj') (T.fn j' hj') call2
      · obtain ⟨t, rfl⟩ := rx
        exact K6X.rc_right hu X0 J (typeIs_int s i t) (T.no hj' (by decide)) F.slot_int_eq (fun z => nomatch z) (fun Q' q => K6X.int_no i t X0 J (T.no hj' (by decide)) q) (T.eq j' hj') (T.fn j' hj') call2
      · obtain ⟨t, rfl⟩ := rx
        exact K6X.rc_right hu X0 J (typeIs_str s z t) (T.no hj' (by decide)) F.slot_str_eq (fun z => nomatch z) (fun Q' q => K6X.str_no z t X0 J (T.no hj' (by decide)) q) (T.eq j' hj') (T.fn j' hj') call2
  · -- a list
    cases rx
    obtain ⟨its, ka, r, g⟩ := listAt I h3
    rcases hy with hy | ⟨b, ys, l', rfl, rfl, k3, k4, k5⟩ | ⟨b, ys, l', rfl, rfl, k3, k4, k5⟩ | ⟨b, dy, j', ys, l', rfl, rfl, hj', k3, k4, k6, k5⟩
    · exact rcList_flat ry hy ⟨_, g, rfl, ka, rfl⟩ hu X.prog X.w X.xe _ (stay (eqM_flat_lst hy).2.symm)
    · cases ry
      obtain ⟨its2, kb, r2, g2⟩ := listAt I k3
      by_cases hl : l.length = l'.length
      · refine K6X.rc_listB (N := l.length) (e := eqAt l l') hu (fun _ s' => ∃ H', Inv X pins σ H' s' ∧ Same H H') (fun i s' q => ?_) (fun i s' q => ⟨by rw [eqM, eqL_all hl], q⟩) ⟨H, I, Same.refl H⟩
        obtain ⟨H1, I1, sm⟩ := q
        obtain ⟨jts, p1, q1, w1⟩ := listAt I1 (sm _ _ h3)
        obtain ⟨jts2, p2, q2, w2⟩ := listAt I1 (sm _ _ k3)
        exact ⟨jts.toArray, jts2.toArray, p1, p2, w1, w2, by rw [List.size_toArray, ← q1.length, h4], by rw [List.size_toArray, ← q2.length, k4, hl], fun b1 b2 => items q1 q2 h4 k4 h5 k5 I1 sm b1 b2⟩
      · refine SeqAt.RcAt.lists_lengths (items := its.toArray) (items2 := its2.toArray) ⟨_, g, rfl, ka, rfl⟩ ⟨_, g2, rfl, kb, rfl⟩ ?_ hu X.prog X.w X.xe _ (stay (by rw [eqM, eqL_ne hl]))
        rw [List.size_toArray, List.size_toArray, ← r.length, ← r2.length, h4, k4]
        simpa using hl
    · cases ry
      obtain ⟨its2, r2, g2⟩ := tupAt I k3
      exact SeqAt.RcAt.list_tuple ⟨_, g, rfl, ka, rfl⟩ g2 hu X.prog X.w X.xe _ (stay (by rw [eqM]))
    · cases ry
      obtain ⟨od, J⟩ := instAt k3
      have call := callEq (Fs j' hj') (bs j' hj') (sb.mono hm) I hy0 hx0 (show L2.RelV (.ref a) (.ref a) from rfl)
      refine K6X.rc_right hu X0 J ⟨_, g, rfl⟩ (T.no hj' (by decide)) F.slot_list_eq (fun z => by cases z; rw [h3] at k3; cases k3) (fun Q' q => K6X.list_no ⟨_, g, rfl, ka, rfl⟩ X0 J (T.no hj' (by decide)) q) (T.eq j' hj') (T.fn j' hj') (wpAny_mono call (fun r s' q => ?_) fun _ _ z => z)
      obtain ⟨rfl, q⟩ := q
      exact ⟨by rw [eqM, eqM], q⟩
  · -- a tuple
    cases rx
    obtain ⟨its, r, g⟩ := tupAt I h3
    rcases hy with hy | ⟨b, ys, l', rfl, rfl, k3, k4, k5⟩ | ⟨b, ys, l', rfl, rfl, k3, k4, k5⟩ | ⟨b, dy, j', ys, l', rfl, rfl, hj', k3, k4, k6, k5⟩
    · exact rcTup_flat ry hy g hu X.prog X.w X.xe _ (stay (eqM_flat_tup hy).2.symm)
    · cases ry
      obtain ⟨its2, kb, r2, g2⟩ := listAt I k3
      exact SeqAt.RcAt.tuple_list g ⟨_, g2, rfl, kb, rfl⟩ hu X.prog X.w X.xe _ (stay (by rw [eqM]))
    · cases ry
      obtain ⟨its2, r2, g2⟩ := tupAt I k3
      refine K6X.rc_tupB (e := eqAt l l') hu (fun _ s' => ∃ H', Inv X pins σ H' s' ∧ Same H H') g g2 (fun i b1 b2 s' q => ?_) (fun i s' q => ⟨?_, q⟩) ⟨H, I, Same.refl H⟩
      · obtain ⟨H1, I1, sm⟩ := q
        exact items r r2 h4 k4 h5 k5 I1 sm b1 b2
      · rw [List.size_toArray, List.size_toArray, ← r.length, ← r2.length, h4, k4, eqM, eqL_min]
    · cases ry
      obtain ⟨od, J⟩ := instAt k3
      have call := callEq (Fs j' hj') (bs j' hj') (sb.mono hm) I hy0 hx0 (show L2.RelV (.ref a) (.ref a) from rfl)
      obtain ⟨o, go, gc, gn, gd⟩ := id g
      refine K6X.rc_right hu X0 J ⟨o, go, gc⟩ (T.no hj' (by decide)) F.slot_tuple_eq (fun z => by cases z; rw [h3] at k3; cases k3) (fun Q' q => K6X.tup_no g X0 J (T.no hj' (by decide)) q) (T.eq j' hj') (T.fn j' hj') (wpAny_mono call (fun r s' q => ?_) fun _ _ z => z)
      obtain ⟨rfl, q⟩ := q
      exact ⟨by rw [eqM, eqM], q⟩
  · -- an object with an own ==
    cases rx
    obtain ⟨od, J⟩ := instAt h3
    obtain ⟨mF, hF⟩ := I.fr
    have call := callEq (Fs j hj) (bs j hj) (sb.mono hm) I hx0 hy0 ry
    have call2 := wpAny_mono call (fun r s' (q : r = .bool (eqM (.obj j l) e) ∧ ∃ H', Inv X pins σ H' s' ∧ Same H H') => show PySem.W.CmpBack (fun r s' => r = .bool (eqM (.obj j l) e) ∧ ∃ H', Inv X pins σ H' s' ∧ Same H H') r s' by
      obtain ⟨rfl, q⟩ := q
      exact ⟨rfl, q⟩) fun _ _ z => z
    have go : ∀ {tb : Value}, PySem.W.Looks (model X.prog X.w) s.heap (typeOf v) tb → PySem.W.notFirst X.K (Cs j) tb = true → wpAny (model X.prog X.w) A (richCompare .Eq (.ref a) v) (fun r s' => r = .bool (eqM (.obj j l) e) ∧ ∃ H', Inv X pins σ H' s' ∧ Same H H') X.xe s :=
      fun {tb} h1 h2 => PySem.W.cmp_K (op := .Eq) hu hF I.ok.mod.kin J h1 h2 (T.eq j hj) (T.fn j hj) call2
    rcases hy with hy | ⟨b, ys, l', rfl, rfl, k3, k4, k5⟩ | ⟨b, ys, l', rfl, rfl, k3, k4, k5⟩ | ⟨b, dy, j', ys, l', rfl, rfl, hj', k3, k4, k6, k5⟩
    · rcases hy with ⟨rfl, rfl⟩ | ⟨i, rfl, rfl⟩ | ⟨z, rfl, rfl⟩
      · cases ry
        exact go (.of_pure rfl) (notFirst_ty (sub_non _))
      · obtain ⟨t, rfl⟩ := ry
        exact go (.of_pure rfl) (notFirst_ty (sub_int _))
      · obtain ⟨t, rfl⟩ := ry
        exact go (.of_pure rfl) (notFirst_ty (sub_str _))
    · cases ry
      obtain ⟨its2, kb, r2, g2⟩ := listAt I k3
      exact go ((PySem.W.Looks.ld g2).andThen .now) (notFirst_ty (sub_list _))
    · cases ry
      obtain ⟨its2, r2, o, g2, gc, _⟩ := tupAt I k3
      exact go (gc ▸ (PySem.W.Looks.ld g2).andThen .now) (notFirst_ty (sub_tup _))
    · cases ry
      obtain ⟨od', J'⟩ := instAt k3
      refine go J'.type ?_
      unfold PySem.W.notFirst
      by_cases ej : j' = j
      · rw [ej]; simp
      · have ne : Cs j ≠ Cs j' := fun z => ej (T.inj j j' hj hj' z).symm
        have sub : PySem.W.subIn X.K (.ref (Cs j')) (.ref (Cs j)) = some false := (T.mro j' hj' _).trans (congrArg some (by simp [ne]))
        rw [sub]; simp
end
end K6
/-! part G -/
set_option maxHeartbeats 4000000
namespace K6
open PySem PySem.Spec PyProof.Rows L2
def topS (i : Nat) : Stmt := PySem.Challenge.pw_treequill_k06_values_compared.main.body.getD i (.Pass ⟨0, 0, 0, 0⟩)
abbrev sDraw : Stmt := topS 6
abbrev sPick : Stmt := topS 7
theorem scDraw : FnScope ["_law_stream", "_law_many", "_law_digit", "_law_mixed", "_law_last"] ["_law_stream", "_law_many"] (defScope sDraw) := ⟨rfl, rfl, rfl, by decide +kernel, rfl, by decide +kernel, by decide +kernel⟩
theorem scPick : FnScope ["_law_stream", "_law_some"] ["_law_stream", "_law_some"] (defScope sPick) := ⟨rfl, rfl, rfl, by decide +kernel, rfl, by decide +kernel, by decide +kernel⟩
/-- the stream's state: what is left of the cells, the great cell at hand, how many were mixed, the mixed number -/
structure Stm where
  cells : List Int
  cur : Int
  cnt : Int
  mix : Int
structure StmAt (H : Hp) (a c : Addr) (S : Stm) : Prop where
  lst : H a = some (.lst [.ref c, .int S.cur, .int S.cnt, .int S.mix])
  cel : H c = some (.lst (S.cells.map V.int))
  ne : a ≠ c
  len : S.cells.length ≤ 63
  cur0 : 0 ≤ S.cur
  cnt0 : 0 ≤ S.cnt
  mix0 : 0 ≤ S.mix
  mix1 : S.mix < 2147483647
/-- all that stood but the stream stands -/
def Kept (a c : Addr) (H H' : Hp) : Prop := ∀ b o, b ≠ a → b ≠ c → H b = some o → H' b = some o
theorem Kept.refl (a c : Addr) (H : Hp) : Kept a c H H := fun _ _ _ _ h => h
theorem Kept.trans {a c : Addr} {H H1 H2 : Hp} (x : Kept a c H H1) (y : Kept a c H1 H2) : Kept a c H H2 := fun b o n1 n2 h => y b o n1 n2 (x b o n1 n2 h)
theorem Kept.updA {a c : Addr} {H H1 : Hp} {o : HO} (x : Kept a c H H1) : Kept a c H (upd H1 a o) := fun b u n1 n2 h => by
  rw [upd_ne n1]; exact x b u n1 n2 h
theorem Kept.updC {a c : Addr} {H H1 : Hp} {o : HO} (x : Kept a c H H1) : Kept a c H (upd H1 c o) := fun b u n1 n2 h => by
  rw [upd_ne n2]; exact x b u n1 n2 h
theorem Kept.new {a c p : Addr} {H H1 : Hp} {o : HO} (x : Kept a c H H1) (h : H1 p = none) : Kept a c H (upd H1 p o) := fun b u n1 n2 e => by
  rw [upd_ne (ne_of_none (x b u n1 n2 e) h)]; exact x b u n1 n2 e
theorem Kept.same {a c : Addr} {H H1 : Hp} (x : Same H H1) : Kept a c H H1 := fun b u _ _ h => x b u h
def spDraw : Sp := fun vs H Q _ => ∃ (a c : Addr) (S : Stm) (m : Int), vs = [.ref a, .int m] ∧ StmAt H a c S ∧ S.cnt < 1000000 ∧ 0 < m ∧ m < 1000000 ∧
  ∀ (H' : Hp) (S' : Stm) (r : Int), StmAt H' a c S' → S'.cnt ≤ S.cnt + 1 → Kept a c H H' → 0 ≤ r → r < m → Q (.int r) H'
theorem dp_ints {K : PySem.W.Frag} {H : Hp} : ∀ ns : List Int, DpAll K H (ns.map V.int) (ns.map PyData.int)
  | [] => .nil
  | n :: r => .cons (.int n) (dp_ints r)
theorem shaped_ints (ns : List Int) : SeqAt.shaped (.list (ns.map PyData.int)) = true := by first | exact ke_shaped_ints ns | exact PySem.W.ke_shaped_ints ns | exact PyProof.Rows.ke_shaped_ints ns
theorem eqv_ints_nil : ∀ ns : List Int, PyData.eqv (.list (ns.map PyData.int)) (.list []) = ns.isEmpty
  | [] => rfl
  | _ :: _ => rfl
section
variable {P : Program} {w : World} {K : PySem.W.Frag} {mg : Str → Option Value} {base : Heap}
theorem ok_draw {f : Addr} {fd : FuncData} (F : Fun K "_law_draw" "_law_draw" sDraw f fd) (mi : mg "int" = none) : FnOk P w K mg base CX0 1 f fd ["_law_stream", "_law_many"] spDraw := by
  refine F.ok scDraw (fun vs H Q E h => ?_) (fun cdv A outer s H vs Q E hr h => ?_)
  · obtain ⟨a, c, S, m, rfl, _⟩ := h
    rfl
  obtain ⟨a, c, S, m, rfl, hS, hcnt, hm0, hm1, q⟩ := h
  refine ⟨_, C8.pss_cut (ps_while PassesOwn.never
      (PW.pt (pw_and (pt_cmpR op_eq (pe_ix ix_list (pv 0) pe_int (fun _ _ => rfl)) pe_int (nomark _))
        (pw_and1 (pt_cmpR (op_neD hr.units) (pe_ix ix_list (pv 0) pe_int (fun _ _ => rfl)) (pe_lst pa_nil) (nomark _)))))
      (pss_cons (ps_asg (pe_bm PySem.F.plainAttrs_list PySem.F.slot_list_pop PySem.F.type_list_pop mt_popAt (pe_ix ix_list (pv 0) pe_int (fun _ _ => rfl)) (pa_cons pe_int pa_nil)) (pg_sub (pv 0) pe_int set_list))
      (pss_one (ps_if (pt_cmpR op_lt (pe_ix ix_list (pv 0) pe_int (fun _ _ => rfl)) (pe_op op_pow pe_int pe_int) (nomark _))
        (pss_cons (ps_asg (pe_op op_mod (pe_callTy call_int1 (by rfl) mi (by decide +kernel) (pa_cons (pe_op op_add (pe_op op_add (pe_op op_mul (pe_ix ix_list (pv 0) pe_int (fun _ _ => rfl)) pe_int) (pe_ix ix_list (pv 0) pe_int (fun _ _ => rfl))) pe_int) pa_nil)) pe_int) (pg_sub (pv 0) pe_int set_list))
        (pss_one (ps_asg pe_int (pg_sub (pv 0) pe_int set_list)))) pss_nil))))
    (pss_cons (ps_if (pt_cmpR op_gt (pe_ix ix_list (pv 0) pe_int (fun _ _ => rfl)) pe_int (nomark _))
        (pss_cons (ps_set (i := 2) scDraw.nd rfl (.inl rfl) (pe_op op_mod (pe_callTy call_int1 (by rfl) mi (by decide +kernel) (pa_cons (pe_ix ix_list (pv 0) pe_int (fun _ _ => rfl)) pa_nil)) (pv 1)))
        (pss_cons (ps_asg (pe_op op_fdivN (pe_ix ix_list (pv 0) pe_int (fun _ _ => rfl)) (pv 1)) (pg_sub (pv 0) pe_int set_list))
        (pss_one (ps_ret (pv 2))))) pss_nil)
    (pss_cons (ps_asg (pe_op op_add (pe_ix ix_list (pv 0) pe_int (fun _ _ => rfl)) pe_int) (pg_sub (pv 0) pe_int set_list))
    (pss_cons (ps_set (i := 3) scDraw.nd rfl (.inl rfl) (pe_op op_mod (pe_callTy call_int1 (by rfl) mi (by decide +kernel) (pa_cons (pe_op op_pow (pe_op op_add (pe_op op_add (pe_ix ix_list (pv 0) pe_int (fun _ _ => rfl)) (pe_op op_mul pe_int (pe_ix ix_list (pv 0) pe_int (fun _ _ => rfl)))) pe_int) pe_int) pa_nil)) pe_int))
    (pss_cons (ps_set (i := 4) scDraw.nd rfl (.inl rfl) (pe_op op_mod (pe_callTy call_int1 (by rfl) mi (by decide +kernel) (pa_cons (pe_op op_pow (pe_op op_add (pe_op op_add (pe_op op_mul (pv 3) pe_int) (pe_op op_mul (pe_op op_mul pe_int (pe_ix ix_list (pv 0) pe_int (fun _ _ => rfl))) (pe_ix ix_list (pv 0) pe_int (fun _ _ => rfl)))) pe_int) pe_int) pa_nil)) pe_int))
    (pss_one (ps_ret (pe_op op_mod (pe_callTy call_int1 (by rfl) mi (by decide +kernel) (pa_cons (pv 4) pa_nil)) (pv 1)))))))), ?_⟩
  refine ⟨fun σ H1 => ∃ S1 : Stm, σ = [some (.ref a), some (.int m), none, none, none] ∧ StmAt H1 a c S1 ∧ S1.cnt = S.cnt ∧ Kept a c H H1,
    ⟨fun n σ H1 => ∃ S1 : Stm, σ = [some (.ref a), some (.int m), none, none, none] ∧ StmAt H1 a c S1 ∧ S1.cnt = S.cnt ∧ Kept a c H H1 ∧ S1.cells.length = n, ⟨_, S, rfl, hS, rfl, .refl _ _ _, rfl⟩, ?_⟩, ?_⟩
  · rintro n σ H1 ⟨S1, rfl, h1, ec, k1, el⟩
    refine ⟨_, rfl, a, _, _, _, rfl, rfl, SqL.of h1.lst, rfl, rfl, _, rfl, ?_⟩
    have l0 := h1.cur0
    have l1 := h1.cnt0
    have l2 := h1.mix0
    have l3 := h1.mix1
    refine ite2 (fun c1 => ?_) (fun c1 => ?_)
    · -- the cells: != []
      have c1' : S1.cur = 0 := by simpa using c1
      refine ⟨_, rfl, a, _, _, _, rfl, rfl, SqL.of h1.lst, rfl, Nat.zero_le _, fun l nl => ?_⟩
      have na : a ≠ l := ne_of_none h1.lst nl
      have nc : c ≠ l := ne_of_none h1.cel nl
      have h2 : StmAt (upd H1 l (.lst [])) a c S1 := ⟨by rw [upd_ne na]; exact h1.lst, by rw [upd_ne nc]; exact h1.cel, h1.ne, h1.len, h1.cur0, h1.cnt0, h1.mix0, h1.mix1⟩
      have k2 : Kept a c H (upd H1 l (.lst [])) := k1.new nl
      refine ⟨_, _, .lst (SqL.of h2.cel) (dp_ints S1.cells), .lst (SqL.of upd_same) .nil, shaped_ints _, rfl, _, rfl, ?_⟩
      rw [eqv_ints_nil]
      generalize upd H1 l (.lst []) = H2 at h2 k2
      cases hS1 : S1.cells with
      | nil =>
        refine iteF ?_
        exact ⟨S1, rfl, h2, ec, k2⟩
      | cons v r =>
        refine iteT ?_
        refine ⟨fun σ' H' => ∃ S3 : Stm, σ' = [some (.ref a), some (.int m), none, none, none] ∧ StmAt H' a c S3 ∧ S3.cnt = S.cnt ∧ Kept a c H H' ∧ S3.cells.length < n, fun σ' H' ⟨S3, e, h3, e3, k3, l3⟩ => ⟨_, l3, S3, e, h3, e3, k3, rfl⟩, ?_⟩
        have eL : S1.cells.length = r.length + 1 := by rw [hS1]; rfl
        have hcel : H2 c = some (.lst (.int v :: r.map V.int)) := by have := h2.cel; rw [hS1] at this; exact this
        have h63 := h1.len
        -- pop(0), the store
        refine ⟨_, rfl, a, _, _, _, rfl, rfl, SqL.of h2.lst, rfl, .inl ⟨rfl, _, SqL.of hcel⟩, c, _, 0, 0, _, rfl, rfl, hcel, by decide, by decide, ?_, rfl, ?_⟩
        · show (if (decide (0 ≤ (0 : Int)) && decide ((0 : Int) < ((V.int v :: r.map V.int).length : Nat))) = true then some _ else none) = some 0
          simp
        have hlst2 : (upd H2 c (.lst (r.map V.int))) a = some (.lst [.ref c, .int S1.cur, .int S1.cnt, .int S1.mix]) := by rw [upd_ne h1.ne]; exact h2.lst
        refine ⟨_, rfl, a, _, 1, 1, rfl, rfl, hlst2, rfl, ?_⟩
        have k3 : Kept a c H (upd (upd H2 c (.lst (r.map V.int))) a (.lst [.ref c, .int v, .int S1.cnt, .int S1.mix])) := k2.updC.updA
        have h3l : (upd (upd H2 c (.lst (r.map V.int))) a (.lst [.ref c, .int v, .int S1.cnt, .int S1.mix])) a = some (.lst [.ref c, .int v, .int S1.cnt, .int S1.mix]) := upd_same
        have h3c : (upd (upd H2 c (.lst (r.map V.int))) a (.lst [.ref c, .int v, .int S1.cnt, .int S1.mix])) c = some (.lst (r.map V.int)) := by rw [upd_ne h1.ne.symm]; exact upd_same
        refine ⟨_, rfl, a, _, _, _, rfl, rfl, SqL.of h3l, rfl, _, _, rfl, rfl, ⟨by decide, by decide, by decide⟩, _, _, rfl, rfl, _, rfl, ?_⟩
        have hl : r.length ≤ 63 := by omega
        refine ite2 (fun c2 => ?_) (fun c2 => ?_)
        · refine ⟨_, rfl, a, _, _, _, rfl, rfl, SqL.of h3l, rfl, _, _, rfl, rfl, .inl ⟨by omega, by omega⟩, _, rfl, a, _, _, _, rfl, rfl, SqL.of h3l, rfl, _, _, rfl, rfl, _, _, rfl, rfl, .inl ⟨_, rfl, _, _, rfl, rfl, (by show (0 : Int) < 2147483647; decide), ?_⟩⟩
          refine ⟨_, rfl, a, _, 3, 3, rfl, rfl, h3l, rfl, ?_⟩
          refine ⟨_, rfl, a, _, 1, 1, rfl, rfl, upd_same, rfl, ?_⟩
          refine ⟨⟨r, 0, S1.cnt, (S1.mix * 31 + v + 7) % 2147483647⟩, rfl, ⟨upd_same, ?_, h1.ne, hl, Int.le_refl 0, l1, Int.emod_nonneg _ (by decide), Int.emod_lt_of_pos _ (by decide)⟩, ec, k3.updA.updA, by show r.length < _; omega⟩
          rw [upd_ne h1.ne.symm, upd_ne h1.ne.symm]
          exact h3c
        · have c2' : ¬ v < 10 ^ 18 := by simpa using c2
          refine ⟨⟨r, v, S1.cnt, S1.mix⟩, rfl, ⟨h3l, h3c, h1.ne, hl, by show 0 ≤ v; omega, l1, l2, l3⟩, ec, k3, by show r.length < _; omega⟩
    · exact ⟨S1, rfl, h1, ec, k1⟩
  · rintro σ H1 ⟨S1, rfl, h1, ec, k1⟩
    have l0 := h1.cur0
    have l1 := h1.cnt0
    have l2 := h1.mix0
    have l3 := h1.mix1
    refine ⟨_, rfl, a, _, _, _, rfl, rfl, SqL.of h1.lst, rfl, _, _, rfl, rfl, _, rfl, ?_⟩
    refine ite2 (fun c1 => ?_) (fun c1 => ?_)
    · have c1' : 0 < S1.cur := by simpa using c1
      refine ⟨_, rfl, a, _, _, _, rfl, rfl, SqL.of h1.lst, rfl, .inl ⟨_, rfl, _, rfl, _, _, rfl, rfl, hm0, ?_⟩⟩
      refine ⟨_, rfl, a, _, _, _, rfl, rfl, SqL.of h1.lst, rfl, _, rfl, _, _, rfl, rfl, ⟨by omega, by omega⟩, ?_⟩
      refine ⟨_, rfl, a, _, 1, 1, rfl, rfl, h1.lst, rfl, _, rfl, ?_⟩
      refine q _ ⟨S1.cells, S1.cur.fdiv m, S1.cnt, S1.mix⟩ _ ⟨upd_same, ?_, h1.ne, h1.len, ?_, l1, l2, l3⟩ (by show S1.cnt ≤ _; omega) k1.updA (Int.emod_nonneg _ (by omega)) (Int.emod_lt_of_pos _ hm0)
      · rw [upd_ne h1.ne.symm]; exact h1.cel
      · show 0 ≤ S1.cur.fdiv m
        rw [Int.fdiv_eq_ediv_of_nonneg _ (by omega)]
        exact Int.ediv_nonneg (by omega) (by omega)
    · refine ⟨_, rfl, a, _, _, _, rfl, rfl, SqL.of h1.lst, rfl, _, _, rfl, rfl, ?_⟩
      refine ⟨_, rfl, a, _, 2, 2, rfl, rfl, h1.lst, rfl, ?_⟩
      have h2l : (upd H1 a (.lst [.ref c, .int S1.cur, .int (S1.cnt + 1), .int S1.mix])) a = some (.lst [.ref c, .int S1.cur, .int (S1.cnt + 1), .int S1.mix]) := upd_same
      refine ⟨_, rfl, a, _, _, _, rfl, rfl, SqL.of h2l, rfl, _, rfl, a, _, _, _, rfl, rfl, SqL.of h2l, rfl, _, _, rfl, rfl, .inl ⟨by decide, by decide⟩, _, _, rfl, rfl, _, _, rfl, rfl, _, _, rfl, rfl, ⟨by decide, by decide, by show (S1.mix + 104729 * (S1.cnt + 1) + 17).natAbs < 2 ^ 64; omega⟩, .inl ⟨_, rfl, _, _, rfl, rfl, (by show (0 : Int) < 2147483629; decide), ?_⟩⟩
      obtain ⟨M, eM⟩ : ∃ M : Int, (S1.mix + 104729 * (S1.cnt + 1) + 17) ^ (5 : Int).toNat % 2147483629 = M := ⟨_, rfl⟩
      have m0 : 0 ≤ M := by rw [← eM]; exact Int.emod_nonneg _ (by decide)
      have m1 : M < 2147483629 := by rw [← eM]; exact Int.emod_lt_of_pos _ (by decide)
      refine ⟨_, rfl, _, _, rfl, rfl, .inl ⟨by rw [eM]; omega, by rw [eM]; omega⟩, _, rfl, a, _, _, _, rfl, rfl, SqL.of h2l, rfl, _, _, rfl, rfl, .inl ⟨by decide, by decide⟩, _, rfl, a, _, _, _, rfl, rfl, SqL.of h2l, rfl, _, _, rfl, rfl, .inl ⟨by omega, by omega⟩, _, _, rfl, rfl, _, _, rfl, rfl, _, _, rfl, rfl, ⟨by decide, by decide, ?_⟩, .inl ⟨_, rfl, _, _, rfl, rfl, (by show (0 : Int) < 1000000007; decide), ?_⟩⟩
      · have n1 : (S1.cnt + 1) * (S1.cnt + 1) ≤ 1000000 * 1000000 := Int.mul_le_mul (by omega) (by omega) (by omega) (by omega)
        have n2 : 0 ≤ (S1.cnt + 1) * (S1.cnt + 1) := Int.mul_nonneg (by omega) (by omega)
        have n3 : 40503 * (S1.cnt + 1) * (S1.cnt + 1) = 40503 * ((S1.cnt + 1) * (S1.cnt + 1)) := Int.mul_assoc _ _ _
        show ((S1.mix + 104729 * (S1.cnt + 1) + 17) ^ (5 : Int).toNat % 2147483629 * 48271 + 40503 * (S1.cnt + 1) * (S1.cnt + 1) + 13).natAbs < 2 ^ 64
        rw [n3, eM]
        omega
      refine ⟨_, rfl, .inl ⟨_, rfl, _, rfl, _, _, rfl, rfl, hm0, ?_⟩⟩
      refine q _ ⟨S1.cells, S1.cur, S1.cnt + 1, S1.mix⟩ _ ⟨h2l, ?_, h1.ne, h1.len, l0, by show 0 ≤ S1.cnt + 1; omega, l2, l3⟩ (by show S1.cnt + 1 ≤ _; omega) k1.updA (Int.emod_nonneg _ (by omega)) (Int.emod_lt_of_pos _ hm0)
      rw [upd_ne h1.ne.symm]; exact h1.cel
/-- _law_pick: an item of the list or tuple at l -/
def spPick (K : PySem.W.Frag) : Sp := fun vs H Q _ => ∃ (a c l : Addr) (S : Stm) (xs : List V), vs = [.ref a, .ref l] ∧ StmAt H a c S ∧ S.cnt < 1000000 ∧ H l = some (.lst xs) ∧ l ≠ a ∧ l ≠ c ∧ 0 < xs.length ∧ xs.length < 1000000 ∧
  ∀ (H' : Hp) (S' : Stm) (x : V), StmAt H' a c S' → S'.cnt ≤ S.cnt + 1 → Kept a c H H' → x ∈ xs → Q x H'
theorem ok_pick {f g : Addr} {fd gd : FuncData} (F : Fun K "_law_pick" "_law_pick" sPick f fd) (D : FnOk P w K mg base CX0 1 g gd ["_law_stream", "_law_many"] spDraw) (bD : Binds K gd ["_law_stream", "_law_many"] []) (kD : PySem.W.keepIn K (.ref g) = true) (mD : mg "_law_draw" = some (.ref g)) (ml : mg "len" = none) :
    FnOk P w K mg base CX0 2 f fd ["_law_stream", "_law_some"] (spPick K) := by
  refine F.ok scPick (fun vs H Q E h => ?_) (fun cdv A outer s H vs Q E hr h => ?_)
  · obtain ⟨a, c, l, S, xs, rfl, _⟩ := h
    rfl
  obtain ⟨a, c, l, S, xs, rfl, hS, hcnt, hl, la, lc, h0, h1, q⟩ := h
  refine ⟨_, pss_one (ps_ret (pe_ix ix_list (pv 1) (pe_call D hr rfl mD kD bD .nil pass0 (pa_cons (pv 0) (pa_cons (pe_callB call_len_seq rfl ml PySem.boot_len (pa_cons (pv 1) pa_nil)) pa_nil))) (fun _ _ => rfl))), ?_⟩
  refine ⟨_, rfl, _, rfl, _, rfl, l, _, rfl, .inl (SqL.of hl), a, c, S, _, rfl, hS, hcnt, by omega, by omega, fun H' S' r h' hc k hr0 hr1 => ?_⟩
  have hl' := k l _ la lc hl
  obtain ⟨j, rfl⟩ : ∃ j : Nat, r = (j : Int) := ⟨r.toNat, by omega⟩
  have hj : j < xs.length := by omega
  exact ⟨l, _, _, _, rfl, rfl, SqL.of hl', atI_nat (List.getElem?_eq_getElem hj), q H' S' _ h' hc k (List.getElem_mem hj)⟩
end
theorem Kept.free {a c : Addr} {H H1 : Hp} (k : Kept a c H H1) (ha : H1 a ≠ none) (hc : H1 c ≠ none) {b : Addr} (h : H1 b = none) : H b = none := by
  cases e : H b with
  | none => rfl
  | some o =>
    have na : b ≠ a := fun z => ha (z ▸ h)
    have nc : b ≠ c := fun z => hc (z ▸ h)
    rw [k b o na nc e] at h
    cases h
theorem StmAt.a0 {H : Hp} {a c : Addr} {S : Stm} (h : StmAt H a c S) : H a ≠ none := by rw [h.lst]; simp
theorem StmAt.c0 {H : Hp} {a c : Addr} {S : Stm} (h : StmAt H a c S) : H c ≠ none := by rw [h.cel]; simp
theorem StmAt.keep {H H' : Hp} {a c : Addr} {S : Stm} (h : StmAt H a c S) (k : Same H H') : StmAt H' a c S := ⟨k _ _ h.lst, k _ _ h.cel, h.ne, h.len, h.cur0, h.cnt0, h.mix0, h.mix1⟩
theorem same_new {H : Hp} {p : Addr} {o : HO} (h : H p = none) : Same H (upd H p o) := fun b u e => by rw [upd_ne (ne_of_none e h)]; exact e
end K6
/-! part H -/
set_option maxHeartbeats 4000000
namespace K6
open PySem PySem.Spec PyProof.Rows L2
abbrev sEq0 : Stmt := inClass (topS 1) 0
abbrev sIn1 : Stmt := inClass (topS 2) 0
abbrev sEq1 : Stmt := inClass (topS 2) 1
abbrev sIn2 : Stmt := inClass (topS 3) 0
abbrev sEq2 : Stmt := inClass (topS 3) 1
abbrev sIn3 : Stmt := inClass (topS 4) 0
abbrev sEq3 : Stmt := inClass (topS 4) 1
theorem scEq0 : FnScope ["self", "other"] ["self", "other"] (defScope sEq0) := ⟨rfl, rfl, rfl, by decide +kernel, rfl, by decide +kernel, by decide +kernel⟩
theorem scEq1 : FnScope ["self", "other"] ["self", "other"] (defScope sEq1) := ⟨rfl, rfl, rfl, by decide +kernel, rfl, by decide +kernel, by decide +kernel⟩
theorem scEq2 : FnScope ["self", "other"] ["self", "other"] (defScope sEq2) := ⟨rfl, rfl, rfl, by decide +kernel, rfl, by decide +kernel, by decide +kernel⟩
theorem scEq3 : FnScope ["self", "other"] ["self", "other"] (defScope sEq3) := ⟨rfl, rfl, rfl, by decide +kernel, rfl, by decide +kernel, by decide +kernel⟩
theorem scIn1 : FnScope ["self", "mantissa", "exponent"] ["self", "mantissa", "exponent"] (defScope sIn1) := ⟨rfl, rfl, rfl, by decide +kernel, rfl, by decide +kernel, by decide +kernel⟩
theorem scIn2 : FnScope ["self", "number"] ["self", "number"] (defScope sIn2) := ⟨rfl, rfl, rfl, by decide +kernel, rfl, by decide +kernel, by decide +kernel⟩
theorem scIn3 : FnScope ["self", "numbers"] ["self", "numbers"] (defScope sIn3) := ⟨rfl, rfl, rfl, by decide +kernel, rfl, by decide +kernel, by decide +kernel⟩
/-- what the module's names hold -/
structure Glo (K : PySem.W.Frag) (mg : Str → Option Value) (Cs : Nat → Addr) : Prop where
  g0 : mg "Dots" = some (.ref (Cs 0))
  g1 : mg "Float" = some (.ref (Cs 1))
  g2 : mg "Imaginary" = some (.ref (Cs 2))
  g3 : mg "Octets" = some (.ref (Cs 3))
  zI : mg "isinstance" = none
  noF : ∀ k, k < 4 → ∀ n, n ∈ namesOf k → NoAttr K (Cs k) n
/-- == of two things of ours -/
def rEqN (Cs : Nat → Addr) (n : Nat) : R2 := fun x y H Q => ∃ d e, Ma Cs H n x d ∧ Ma Cs H n y e ∧ ∀ H', Same H H' → Q (.bl (eqM d e)) H'
theorem op_eqN {X : Cx} {Cs : Nat → Addr} {n k : Nat} (h : RcN X.prog X.w X.K X.mg X.base Cs n k) (hr : Room k X.A) : OpR X (compareOp .Eq) (rEqN Cs n) := by
  intro pins s σ H x y v u Q I rx ry hq
  obtain ⟨d, e, hd, he, q⟩ := hq
  show wpAny (model X.prog X.w) X.A (richCompare .Eq v u) (EP X pins σ Q) X.xe s
  refine wpAny_mono (h X rfl rfl rfl rfl rfl X.A pins s σ H x y d e v u ⟨hr, rfl⟩ I rx ry hd he) (fun r s' z => ?_) fun _ _ z => z
  obtain ⟨hr', H', I', sm⟩ := z
  subst hr'
  exact ⟨.bl (eqM d e), H', I', rfl, q H' sm⟩
section
variable {P : Program} {w : World} {K : PySem.W.Frag} {mg : Str → Option Value} {base : Heap} {Cs fE : Nat → Addr} {n k : Nat}
/-- an object of the j-th class, seen through its data -/
theorem Ma.asObj {H : Hp} {v : V} {j : Nat} {l : List Md} (h : Ma Cs H (n + 1) v (.obj j l)) : ∃ (a dx : Addr) (xs : List V), v = .ref a ∧ j < 4 ∧ H a = some (.ins (Cs j) dx ((namesOf j).zip xs)) ∧ xs.length = l.length ∧ l.length = (namesOf j).length ∧ ∀ (i : Nat) x e, xs[i]? = some x → l[i]? = some e → Ma Cs H n x e := by
  rcases h with h | ⟨a, xs, l, rfl, z, h3, h4, h5⟩ | ⟨a, xs, l, rfl, z, h3, h4, h5⟩ | ⟨a, dx, i, xs, l', rfl, z, hj, h3, h4, h6, h5⟩
  · rcases h with ⟨_, z⟩ | ⟨i, _, z⟩ | ⟨x, _, z⟩ <;> cases z
  · cases z
  · cases z
  · cases z
    exact ⟨a, dx, xs, rfl, hj, h3, h4, h6, h5⟩
theorem kind_obj {e : Md} {j : Nat} (h : kindM e = some j) : ∃ l, e = .obj j l := by
  cases e <;> simp [kindM] at h
  subst h
  exact ⟨_, rfl⟩
theorem eqM_other {e : Md} {j : Nat} {l : List Md} (h : kindM e ≠ some j) : eqM (.obj j l) e = false := by
  cases e with
  | obj w m =>
    have z : w ≠ j := fun z => h (by rw [z]; rfl)
    rw [eqM]
    simp [Ne.symm z]
  | _ => rw [eqM]
theorem ok_eq0 {f : Addr} {fd : FuncData} (F : Fun K "__eq__" "Dots.__eq__" sEq0 f fd) (T : Txt K Cs fE) (G : Glo K mg Cs) : FnOk P w K mg base CX0 1 f fd ["self", "other"] (spEqW Cs 0 (n + 1)) := by
  refine F.ok scEq0 (fun vs H Q E h => ?_) (fun cdv A outer s H vs Q E hr h => ?_)
  · obtain ⟨a, y, l, e, rfl, _⟩ := h
    rfl
  obtain ⟨a, y, l, e, rfl, ha, hy, q⟩ := h
  refine ⟨_, pss_one (ps_ret (pe_callB call_isi (by rfl) G.zI (by decide +kernel) (pa_cons (pv 1) (pa_cons (pe_glob (v := .ref (Cs 0)) rfl G.g0 rfl) pa_nil)))), ?_⟩
  obtain ⟨t, ht, hk⟩ := hy.ty T (k := 0) (by decide)
  refine ⟨_, rfl, y, .ref (Cs 0), t, .ref (Cs 0), _, rfl, .own _, ht, hk, ?_⟩
  have e1 : decide (kindM e = some 0) = eqM (.obj 0 l) e := by
    by_cases h : kindM e = some 0
    · rw [decide_eq_true h]
      obtain ⟨m, rfl⟩ := kind_obj h
      obtain ⟨_, _, xs, _, _, _, h4, h6, _⟩ := ha.asObj
      obtain ⟨_, _, ys, _, _, _, k4, k6, _⟩ := hy.asObj
      have z1 : l = [] := List.eq_nil_of_length_eq_zero h6
      have z2 : m = [] := List.eq_nil_of_length_eq_zero k6
      rw [z1, z2, eqM, eqL]; rfl
    · rw [decide_eq_false h, eqM_other h]
  rw [e1]
  exact q H (Same.refl H)
theorem len1 {α : Type} {l : List α} (h : l.length = 1) : ∃ x, l = [x] := by
  match l, h with
  | [x], _ => exact ⟨x, rfl⟩
theorem len2 {α : Type} {l : List α} (h : l.length = 2) : ∃ x y, l = [x, y] := by
  match l, h with
  | [x, y], _ => exact ⟨x, y, rfl⟩
theorem lk1 {a b : Str} {x y : V} (h : (b == a) = false) : List.lookup b [(a, x), (b, y)] = some y := by
  simp [List.lookup, h]
theorem lk0 {a : Str} {x : V} {r : List (Str × V)} : List.lookup a ((a, x) :: r) = some x := by
  simp [List.lookup]
theorem ok_eq2 {f : Addr} {fd : FuncData} (F : Fun K "__eq__" "Imaginary.__eq__" sEq2 f fd) (T : Txt K Cs fE) (G : Glo K mg Cs) (h : RcN P w K mg base Cs n k) (hk1 : 1 ≤ k) : FnOk P w K mg base CX0 (k + 1) f fd ["self", "other"] (spEqW Cs 2 (n + 1)) := by
  refine F.ok scEq2 (fun vs H Q E h => ?_) (fun cdv A outer s H vs Q E hr h' => ?_)
  · obtain ⟨a, y, l, e, rfl, _⟩ := h
    rfl
  obtain ⟨a, y, l, e, rfl, ha, hy, q⟩ := h'
  refine ⟨_, pss_one (ps_ret (pe_and (pe_callB call_isi (by rfl) G.zI (by decide +kernel) (pa_cons (pv 1) (pa_cons (pe_glob (v := .ref (Cs 2)) rfl G.g2 rfl) pa_nil))) (pe_one (pe_cmpR (op_eqN (Cs := Cs) (n := n) (k := k) h hr) (pe_fld (pv 0) rfl) (pe_fld (pv 1) rfl) (nomark _))))), ?_⟩
  obtain ⟨t, ht, hk⟩ := hy.ty T (k := 2) (by decide)
  refine ⟨_, rfl, y, .ref (Cs 2), t, .ref (Cs 2), _, rfl, .own _, ht, hk, _, rfl, ?_⟩
  by_cases hke : kindM e = some 2
  · rw [decide_eq_true hke]
    refine iteT ?_
    obtain ⟨m, rfl⟩ := kind_obj hke
    obtain ⟨a', dx, xs, z, _, h3, h4, h6, h5⟩ := ha.asObj
    cases z
    obtain ⟨b, dy, ys, rfl, _, k3, k4, k6, k5⟩ := hy.asObj
    obtain ⟨d0, rfl⟩ := len1 h6
    obtain ⟨e0, rfl⟩ := len1 k6
    obtain ⟨x0, rfl⟩ := len1 h4
    obtain ⟨y0, rfl⟩ := len1 k4
    refine ⟨_, rfl, a, Cs 2, dx, _, x0, rfl, h3, T.cl 2 (by decide), G.noF 2 (by decide) _ (by decide +kernel), lk0, _, rfl, b, Cs 2, dy, _, y0, rfl, k3, T.cl 2 (by decide), G.noF 2 (by decide) _ (by decide +kernel), lk0, d0, e0, h5 0 _ _ rfl rfl, k5 0 _ _ rfl rfl, fun H' sm => ?_⟩
    have e1 : eqM d0 e0 = eqM (.obj 2 [d0]) (.obj 2 [e0]) := by rw [eqM, eqL, eqL]; simp
    rw [e1]
    exact q H' sm
  · rw [decide_eq_false hke]
    refine iteF ?_
    rw [← eqM_other (l := l) hke]
    exact q H (Same.refl H)
theorem ok_eq3 {f : Addr} {fd : FuncData} (F : Fun K "__eq__" "Octets.__eq__" sEq3 f fd) (T : Txt K Cs fE) (G : Glo K mg Cs) (h : RcN P w K mg base Cs n k) (hk1 : 1 ≤ k) : FnOk P w K mg base CX0 (k + 1) f fd ["self", "other"] (spEqW Cs 3 (n + 1)) := by
  refine F.ok scEq3 (fun vs H Q E h => ?_) (fun cdv A outer s H vs Q E hr h' => ?_)
  · obtain ⟨a, y, l, e, rfl, _⟩ := h
    rfl
  obtain ⟨a, y, l, e, rfl, ha, hy, q⟩ := h'
  refine ⟨_, pss_one (ps_ret (pe_and (pe_callB call_isi (by rfl) G.zI (by decide +kernel) (pa_cons (pv 1) (pa_cons (pe_glob (v := .ref (Cs 3)) rfl G.g3 rfl) pa_nil))) (pe_one (pe_cmpR (op_eqN (Cs := Cs) (n := n) (k := k) h hr) (pe_fld (pv 0) rfl) (pe_fld (pv 1) rfl) (nomark _))))), ?_⟩
  obtain ⟨t, ht, hk⟩ := hy.ty T (k := 3) (by decide)
  refine ⟨_, rfl, y, .ref (Cs 3), t, .ref (Cs 3), _, rfl, .own _, ht, hk, _, rfl, ?_⟩
  by_cases hke : kindM e = some 3
  · rw [decide_eq_true hke]
    refine iteT ?_
    obtain ⟨m, rfl⟩ := kind_obj hke
    obtain ⟨a', dx, xs, z, _, h3, h4, h6, h5⟩ := ha.asObj
    cases z
    obtain ⟨b, dy, ys, rfl, _, k3, k4, k6, k5⟩ := hy.asObj
    obtain ⟨d0, rfl⟩ := len1 h6
    obtain ⟨e0, rfl⟩ := len1 k6
    obtain ⟨x0, rfl⟩ := len1 h4
    obtain ⟨y0, rfl⟩ := len1 k4
    refine ⟨_, rfl, a, Cs 3, dx, _, x0, rfl, h3, T.cl 3 (by decide), G.noF 3 (by decide) _ (by decide +kernel), lk0, _, rfl, b, Cs 3, dy, _, y0, rfl, k3, T.cl 3 (by decide), G.noF 3 (by decide) _ (by decide +kernel), lk0, d0, e0, h5 0 _ _ rfl rfl, k5 0 _ _ rfl rfl, fun H' sm => ?_⟩
    have e1 : eqM d0 e0 = eqM (.obj 3 [d0]) (.obj 3 [e0]) := by rw [eqM, eqL, eqL]; simp
    rw [e1]
    exact q H' sm
  · rw [decide_eq_false hke]
    refine iteF ?_
    rw [← eqM_other (l := l) hke]
    exact q H (Same.refl H)
theorem ok_eq1 {f : Addr} {fd : FuncData} (F : Fun K "__eq__" "Float.__eq__" sEq1 f fd) (T : Txt K Cs fE) (G : Glo K mg Cs) (h : RcN P w K mg base Cs n k) (hk1 : 1 ≤ k) : FnOk P w K mg base CX0 (k + 1) f fd ["self", "other"] (spEqW Cs 1 (n + 1)) := by
  refine F.ok scEq1 (fun vs H Q E h => ?_) (fun cdv A outer s H vs Q E hr h' => ?_)
  · obtain ⟨a, y, l, e, rfl, _⟩ := h
    rfl
  obtain ⟨a, y, l, e, rfl, ha, hy, q⟩ := h'
  refine ⟨_, pss_one (ps_ret (pe_and (pe_callB call_isi (by rfl) G.zI (by decide +kernel) (pa_cons (pv 1) (pa_cons (pe_glob (v := .ref (Cs 1)) rfl G.g1 rfl) pa_nil))) (pe_and (pe_cmpR (op_eqN (Cs := Cs) (n := n) (k := k) h hr) (pe_fld (pv 0) rfl) (pe_fld (pv 1) rfl) (nomark _))
    (pe_one (pe_cmpR (op_eqN (Cs := Cs) (n := n) (k := k) h hr) (pe_fld (pv 0) rfl) (pe_fld (pv 1) rfl) (nomark _)))))), ?_⟩
  obtain ⟨t, ht, hk⟩ := hy.ty T (k := 1) (by decide)
  refine ⟨_, rfl, y, .ref (Cs 1), t, .ref (Cs 1), _, rfl, .own _, ht, hk, _, rfl, ?_⟩
  by_cases hke : kindM e = some 1
  · rw [decide_eq_true hke]
    refine iteT ?_
    obtain ⟨m, rfl⟩ := kind_obj hke
    obtain ⟨a', dx, xs, z, _, h3, h4, h6, h5⟩ := ha.asObj
    cases z
    obtain ⟨b, dy, ys, rfl, _, k3, k4, k6, k5⟩ := hy.asObj
    obtain ⟨d0, d1, rfl⟩ := len2 h6
    obtain ⟨e0, e1, rfl⟩ := len2 k6
    obtain ⟨x0, x1, rfl⟩ := len2 h4
    obtain ⟨y0, y1, rfl⟩ := len2 k4
    refine ⟨_, rfl, a, Cs 1, dx, _, x0, rfl, h3, T.cl 1 (by decide), G.noF 1 (by decide) _ (by decide +kernel), lk0, _, rfl, b, Cs 1, dy, _, y0, rfl, k3, T.cl 1 (by decide), G.noF 1 (by decide) _ (by decide +kernel), lk0, d0, e0, h5 0 _ _ rfl rfl, k5 0 _ _ rfl rfl, fun H1 s1 => ⟨_, rfl, ?_⟩⟩
    have e2 : eqM (.obj 1 [d0, d1]) (.obj 1 [e0, e1]) = (eqM d0 e0 && eqM d1 e1) := by rw [eqM, eqL, eqL, eqL]; simp
    cases h0 : eqM d0 e0 with
    | false =>
      refine iteF ?_
      have z : eqM (.obj 1 [d0, d1]) (.obj 1 [e0, e1]) = false := by rw [e2, h0]; rfl
      rw [← z]
      exact q H1 s1
    | true =>
      refine iteT ?_
      refine ⟨_, rfl, a, Cs 1, dx, _, x1, rfl, s1 _ _ h3, T.cl 1 (by decide), G.noF 1 (by decide) _ (by decide +kernel), lk1 (by decide +kernel), _, rfl, b, Cs 1, dy, _, y1, rfl, s1 _ _ k3, T.cl 1 (by decide), G.noF 1 (by decide) _ (by decide +kernel), lk1 (by decide +kernel), d1, e1, (h5 1 _ _ rfl rfl).same s1, (k5 1 _ _ rfl rfl).same s1, fun H2 s2 => ?_⟩
      have z : eqM (.obj 1 [d0, d1]) (.obj 1 [e0, e1]) = eqM d1 e1 := by rw [e2, h0]; simp
      rw [← z]
      exact q H2 (s1.trans s2)
  · rw [decide_eq_false hke]
    refine iteF ?_
    rw [← eqM_other (l := l) hke]
    exact q H (Same.refl H)
end
end K6
/-! part I -/
set_option maxHeartbeats 4000000
namespace K6
open PySem PySem.Spec PyProof.Rows L2
/-- x != y, x an object of one of the classes -/
def rNeN (Cs : Nat → Addr) (n : Nat) : R2 := fun x y H Q => ∃ (j : Nat) (l : List Md) (e : Md), Ma Cs H n x (.obj j l) ∧ Ma Cs H n y e ∧ ∀ H', Same H H' → Q (.bl (!eqM (.obj j l) e)) H'
theorem op_neN {X : Cx} {Cs fE : Nat → Addr} {fdE : Nat → FuncData} {n m : Nat} (T : Txt X.K Cs fE) (Fs : ∀ k, k < 4 → FnOk X.prog X.w X.K X.mg X.base CX0 m (fE k) (fdE k) ["self", "other"] (spEqW Cs k (n + 1))) (bs : ∀ k, k < 4 → Binds X.K (fdE k) ["self", "other"] [])
    (hr : Room (m + 1) X.A) : OpR X (compareOp .NotEq) (rNeN Cs (n + 1)) := by
  intro pins s σ H x y v u Q I rx ry hq
  obtain ⟨j, l, e, hx, hy, q⟩ := hq
  obtain ⟨a, dx, xs, rfl, hj, h3, _⟩ := hx.asObj
  cases rx
  obtain ⟨mA, J, _⟩ := ins_get I.hok h3
  obtain ⟨od, J, _⟩ := J.look
  have sb : Sub X (m + 1) X.A := ⟨hr, rfl⟩
  have call := callEq (Fs j hj) (bs j hj) sb.in1 I hx hy ry
  have call2 := wpAny_mono call (fun r s' (z : r = .bool (eqM (.obj j l) e) ∧ ∃ H', Inv X pins σ H' s' ∧ Same H H') => show ∃ r', r = .bool r' ∧ EP X pins σ Q (.bool (!r')) s' by
    obtain ⟨rfl, H', I', sm⟩ := z
    exact ⟨_, rfl, .bl (!eqM (.obj j l) e), H', I', rfl, q H' sm⟩) fun _ _ z => z
  show wpAny (model X.prog X.w) X.A (richCompare .NotEq (.ref a) u) (EP X pins σ Q) X.xe s
  have hu := hr.un
  have go : ∀ {tb : Value}, PySem.W.Looks (model X.prog X.w) s.heap (typeOf u) tb → PySem.W.notFirst X.K (Cs j) tb = true → wpAny (model X.prog X.w) X.A (richCompare .NotEq (.ref a) u) (EP X pins σ Q) X.xe s :=
    fun {tb} h1 h2 => K6X.ne_left (by omega) I.kIn J h1 h2 (T.ne j hj) (T.obj hj) (T.eq j hj) (T.fn j hj) call2
  rcases hy with hy | ⟨b, ys, l', rfl, rfl, k3, k4, k5⟩ | ⟨b, ys, l', rfl, rfl, k3, k4, k5⟩ | ⟨b, dy, j', ys, l', rfl, rfl, hj', k3, k4, k6, k5⟩
  · rcases hy with ⟨rfl, rfl⟩ | ⟨i, rfl, rfl⟩ | ⟨z, rfl, rfl⟩
    · cases ry
      exact go (.of_pure rfl) (notFirst_ty (sub_non _))
    · obtain ⟨t, rfl⟩ := ry
      exact go (.of_pure rfl) (notFirst_ty (sub_int _))
    · obtain ⟨t, rfl⟩ := ry
      exact go (.of_pure rfl) (notFirst_ty (sub_str _))
  · cases ry
    obtain ⟨z, its, k, r, g⟩ := I.hok b _ k3
    exact go ((PySem.W.Looks.ld g).andThen .now) (notFirst_ty (sub_list _))
  · cases ry
    obtain ⟨its2, r2, ⟨o, g2, gc, _⟩, _⟩ := I.tuple (SqT.of k3)
    exact go (gc ▸ (PySem.W.Looks.ld g2).andThen .now) (notFirst_ty (sub_tup _))
  · cases ry
    obtain ⟨mA', J', _⟩ := ins_get I.hok k3
    obtain ⟨od', J', _⟩ := J'.look
    refine go J'.type ?_
    unfold PySem.W.notFirst
    by_cases ej : j' = j
    · rw [ej]; simp
    · have ne : Cs j ≠ Cs j' := fun z => ej (T.inj j j' hj hj' z).symm
      have sub : PySem.W.subIn X.K (.ref (Cs j')) (.ref (Cs j)) = some false := (T.mro j' hj' _).trans (congrArg some (by simp [ne]))
      rw [sub]; simp
/-- C(), no __init__ of its own -/
def tMakeE (C : Addr) : TE := fun _ H Q => ∀ x dx, H x = none → H dx = none → dx ≠ x → Q (.ref x) (upd (upd H dx (.own x)) x (.ins C dx []))
theorem pe_makeE {X : Cx} {C : Addr} {x : Str} {p pos : Pos} (hmk : PySem.W.makesIn X.K C = true) (hi : PySem.W.findIn X.K (.ref C) "__init__" = some (some (.builtin "object.__init__"))) (hob : PySem.W.mroIn X.K C (.type "object") = some true) (kC : PySem.W.keepIn X.K (.ref C) = true)
    (hg : Gl X x) (hm : X.mg x = some (.ref C)) (hdb : (x == ("__debug__" : Str)) = false := by decide) : PE X (.Call (.Name x p) [] [] pos) (tMakeE C) := by
  refine ⟨fun pins s σ H Q I h => wpAny_Call_Name_kw (ld_glob I hg hm ?_ hdb)⟩
  refine PySem.W.callWith_K0 I.kIn kC ?_
  show wpAny _ _ (call (.ref C) []) _ _ _
  have hq := h (s.heap.objs.size + 1) s.heap.objs.size (I.hok.fresh (Nat.le_succ _)) (I.hok.fresh (Nat.le_refl _)) (Nat.ne_of_lt (Nat.lt_succ_self _))
  have I2 := Inv.made (C := C) I
  refine wpAny_call (make_map0 I.kIn hmk hi (fun self => PySem.W.Looks.of_pure (PySem.W.oi_bind self)) ?_)
  have at1 : ((s.heap.push PySem.W.emptyDict).push (PySem.W.instObj C s.heap.objs.size)).get? (s.heap.objs.size + 1) = some (PySem.W.instObj C s.heap.objs.size) := by heap_get
  have t1 : PySem.W.Looks (model X.prog X.w) ((s.heap.push PySem.W.emptyDict).push (PySem.W.instObj C s.heap.objs.size)) (typeOf (.ref (s.heap.objs.size + 1))) (.ref C) := (PySem.W.Looks.ld at1).andThen .now
  have t2 : PySem.W.Looks (model X.prog X.w) ((s.heap.push PySem.W.emptyDict).push (PySem.W.instObj C s.heap.objs.size)) (isInstance (.ref (s.heap.objs.size + 1)) (.type "object")) true := t1.andThen (PySem.W.looks_mroIn I2.kIn hob)
  refine codeAny_call_builtin PySem.W.oi_plain PySem.W.entry_oi (@PySem.W.check_slot (model X.prog X.w) _ _ _ "object.__init__" "object" "__init__" (.ref (s.heap.objs.size + 1)) [] [] _ PySem.W.oi_kind PySem.W.oi_split t2 (PySem.W.oi_args _) ?_)
  rw [PySem.W.oi_run]
  exact wpAny_pure ⟨rfl, ⟨V.ref (s.heap.objs.size + 1), _, I2, rfl, hq⟩⟩
/-- __init__ of the k-th class -/
def spIniW (C : Addr) (ns : List Str) : Sp := fun vs H Q _ => ∃ (p dx : Addr) (xs : List V), vs = .ref p :: xs ∧ xs.length = ns.length ∧ H p = some (.ins C dx []) ∧ ∀ H', H' p = some (.ins C dx (ns.zip xs)) → (∀ b, b ≠ p → H' b = H b) → Q .non H'
section
variable {P : Program} {w : World} {K : PySem.W.Frag} {mg : Str → Option Value} {base : Heap} {Cs fE : Nat → Addr}
theorem ok_in1 {f : Addr} {fd : FuncData} (F : Fun K "__init__" "Float.__init__" sIn1 f fd) (T : Txt K Cs fE) (G : Glo K mg Cs) : FnOk P w K mg base CX0 1 f fd ["self", "mantissa", "exponent"] (spIniW (Cs 1) (namesOf 1)) := by
  refine F.ok scIn1 (fun vs H Q E h => ?_) (fun cdv A outer s H vs Q E hr h => ?_)
  · obtain ⟨p, dx, xs, rfl, hl, _⟩ := h
    show xs.length + 1 = 3
    rw [hl]; rfl
  obtain ⟨p, dx, xs, rfl, hl, hp, q⟩ := h
  obtain ⟨x0, x1, rfl⟩ := len2 hl
  refine ⟨_, pss_cons (ps_fld (pv 0) (pv 1) rfl) (pss_one (ps_fld (pv 0) (pv 2) rfl)), ?_⟩
  refine ⟨_, rfl, _, rfl, p, Cs 1, dx, _, rfl, hp, T.cl 1 (by decide), G.noF 1 (by decide) _ (by decide +kernel), by show 0 < 1000; decide, ?_⟩
  refine ⟨_, rfl, _, rfl, p, Cs 1, dx, _, rfl, upd_same, T.cl 1 (by decide), G.noF 1 (by decide) _ (by decide +kernel), by show 1 < 1000; decide, ?_⟩
  refine q _ ?_ fun b h => by rw [upd_ne h, upd_ne h]
  rw [upd_same]
  have e : putF "exponent" x1 (putF "mantissa" x0 []) = (namesOf 1).zip [x0, x1] := by
    show (if ("mantissa" : Str) = "exponent" then _ else _) = _
    rw [if_neg (by decide +kernel)]
    rfl
  rw [e]
theorem ok_in2 {f : Addr} {fd : FuncData} (F : Fun K "__init__" "Imaginary.__init__" sIn2 f fd) (T : Txt K Cs fE) (G : Glo K mg Cs) : FnOk P w K mg base CX0 1 f fd ["self", "number"] (spIniW (Cs 2) (namesOf 2)) := by
  refine F.ok scIn2 (fun vs H Q E h => ?_) (fun cdv A outer s H vs Q E hr h => ?_)
  · obtain ⟨p, dx, xs, rfl, hl, _⟩ := h
    show xs.length + 1 = 2
    rw [hl]; rfl
  obtain ⟨p, dx, xs, rfl, hl, hp, q⟩ := h
  obtain ⟨x0, rfl⟩ := len1 hl
  refine ⟨_, pss_one (ps_fld (pv 0) (pv 1) rfl), ?_⟩
  refine ⟨_, rfl, _, rfl, p, Cs 2, dx, _, rfl, hp, T.cl 2 (by decide), G.noF 2 (by decide) _ (by decide +kernel), by show 0 < 1000; decide, ?_⟩
  exact q _ upd_same fun b h => by rw [upd_ne h]
theorem ok_in3 {f : Addr} {fd : FuncData} (F : Fun K "__init__" "Octets.__init__" sIn3 f fd) (T : Txt K Cs fE) (G : Glo K mg Cs) : FnOk P w K mg base CX0 1 f fd ["self", "numbers"] (spIniW (Cs 3) (namesOf 3)) := by
  refine F.ok scIn3 (fun vs H Q E h => ?_) (fun cdv A outer s H vs Q E hr h => ?_)
  · obtain ⟨p, dx, xs, rfl, hl, _⟩ := h
    show xs.length + 1 = 2
    rw [hl]; rfl
  obtain ⟨p, dx, xs, rfl, hl, hp, q⟩ := h
  obtain ⟨x0, rfl⟩ := len1 hl
  refine ⟨_, pss_one (ps_fld (pv 0) (pv 1) rfl), ?_⟩
  refine ⟨_, rfl, _, rfl, p, Cs 3, dx, _, rfl, hp, T.cl 3 (by decide), G.noF 3 (by decide) _ (by decide +kernel), by show 0 < 1000; decide, ?_⟩
  exact q _ upd_same fun b h => by rw [upd_ne h]
end
end K6
/-! part J -/
set_option maxHeartbeats 4000000
namespace K6X
open PySem PySem.SeqAt PySem.W
open AutoSeq1 (wpAny_loadPart')
open MeetsSeq MeetsSeq2 MeetsSeq3 SeqRoads2
section
variable {prog : Program} {w : World} {A : Around} {E : Value → Shared → Prop} {s : Shared} {K : Frag} {x C : Addr} {ox : Obj} {od : Option Obj} {Q : Value → Shared → Prop}
theorem int_nn {dx : Addr} (b : Int) (u : Tok) (X : K.In s.heap) (I : InstAt s.heap x (instObj C dx) C od) (hm : mroIn K C (.type "int") = some false) (hq : Q .notImplemented s) : wpAny (model prog w) A (call (.builtin "int.__ne__") [.int b u, .ref x]) Q E s := by
  have L := noInst (prog := prog) (w := w) X I hm
  have ho := I.at_
  refine GQ.call_here F.slot_int_ne (typeIs_int s b u) F.entry_int_ne (F.args_int_ne_2 _ _) ?_
  obtain ⟨hp, g, d, tk, os⟩ := s
  unfold Builtin.«int.__ne__»
  repeat (first | with_reducible refine L.at ?_ | wp_step)
  exact hq
theorem str_nn {dx : Addr} (b : Str) (u : Tok) (X : K.In s.heap) (I : InstAt s.heap x (instObj C dx) C od) (hm : mroIn K C (.type "str") = some false) (hq : Q .notImplemented s) : wpAny (model prog w) A (call (.builtin "str.__ne__") [.str b u, .ref x]) Q E s := by
  have L := noInst (prog := prog) (w := w) X I hm
  have ho := I.at_
  refine GQ.call_here F.slot_str_ne (typeIs_str s b u) F.entry_str_ne (F.args_str_ne_2 _ _) ?_
  obtain ⟨hp, g, d, tk, os⟩ := s
  unfold Builtin.«str.__ne__»
  repeat (first | with_reducible refine L.at ?_ | wp_step)
  exact hq
theorem list_nn {dx l : Addr} {items : Array Value} (hl : s.heap.IsList l items) (X : K.In s.heap) (I : InstAt s.heap x (instObj C dx) C od) (hm : mroIn K C (.type "list") = some false) (hq : Q .notImplemented s) : wpAny (model prog w) A (call (.builtin "list.__ne__") [.ref l, .ref x]) Q E s := by
  have L := noInst (prog := prog) (w := w) X I hm
  obtain ⟨⟨cls, dd, data, sl⟩, ho, hc, n, hd⟩ := hl
  simp only at hc hd
  subst hc hd
  refine GQ.call_here F.slot_list_ne ⟨_, ho, rfl⟩ F.entry_list_ne (F.args_list_ne_2 _ _) ?_
  obtain ⟨hp, g, d, tk, os⟩ := s
  unfold Builtin.«list.__ne__»
  repeat (first | with_reducible refine L.at ?_ | with_reducible refine wpAny_loadPart_at ho ?_ | wp_step)
  exact hq
theorem tup_nn {dx l : Addr} {items : Array Value} (hl : s.heap.IsTuple l items) (X : K.In s.heap) (I : InstAt s.heap x (instObj C dx) C od) (hm : mroIn K C (.type "tuple") = some false) (hq : Q .notImplemented s) : wpAny (model prog w) A (call (.builtin "tuple.__ne__") [.ref l, .ref x]) Q E s := by
  have L := noInst (prog := prog) (w := w) X I hm
  obtain ⟨⟨cls, dd, data, sl⟩, ho, hc, n, hd⟩ := hl
  simp only at hc hd
  subst hc hd
  refine GQ.call_here F.slot_tuple_ne ⟨_, ho, rfl⟩ F.entry_tuple_ne (F.args_tuple_ne_2 _ _) ?_
  obtain ⟨hp, g, d, tk, os⟩ := s
  unfold Builtin.«tuple.__ne__»
  repeat (first | with_reducible refine L.at ?_ | with_reducible refine wpAny_loadPart_at ho ?_ | wp_step)
  exact hq
theorem none_nn (hq : Q .notImplemented s) : wpAny (model prog w) A (call (.builtin "NoneType.__ne__") [.none, .ref x]) Q E s :=
  call_gives F.slot_NoneType_ne rfl F.entry_NoneType_ne (F.args_NoneType_ne_2 _ _) (NoneType___ne___none_ref_0 x) hq
/-- x's != tried: object's, over the own == -/
theorem try_ne {f : Addr} {b : Value} (hu : A.units + 1 < cLine) (X : K.In s.heap) (I : InstAt s.heap x ox C od) (hno : findIn K (.ref C) "__ne__" = some (some (.builtin "object.__ne__")))
    (hob : mroIn K C (.type "object") = some true) (hs : findIn K (.ref C) "__eq__" = some (some (.ref f))) (hf : isFn K (.ref f) = true)
    (h : wpAny (model prog w) A.in1 (call (.ref f) [.ref x, b]) (fun v s' => ∃ r, v = .bool r ∧ Q (.bool (!r)) s') E s) : wpAny (model prog w) A (tryCompare (.ref x) "__ne__" b) (fun r s' => ∃ v, r = some v ∧ Q v s') E s := by
  have sub : Looks (model prog w) s.heap (isInstance (.ref x) (.type "object")) true := noInstT X I hob
  have entry : wpAny (model prog w) A.in1 (Builtin.«object.__ne__» ⟨[.ref x, b], []⟩) (GQ.FinOf prog w A (wants (fun v s' => v ≠ .notImplemented ∧ Q v s') E)) (fun e s' => wants (fun v s' => v ≠ .notImplemented ∧ Q v s') E (.error e) s') s := by
    unfold Builtin.«object.__ne__»
    refine wpAny_bind (wpAny_of_eq (a := ((Value.ref x : Value), [b])) (by first | rfl | (simp only [slotArgs]; rfl)) ?_)
    refine wpAny_bind (wpAny_cRoomFor (by show A.units + 1 < cLine; exact hu) ?_)
    refine wpAny_bind (ifBound_K X I hs hf (wpAny_mono h (fun v s' hv => ?_) fun _ _ e => e))
    obtain ⟨r, rfl, hq⟩ := hv
    refine wpAny_bind (wpAny_truthy_bool ?_)
    exact wpAny_pure ⟨(fun z => nomatch z), hq⟩
  have bnd : bindSpecial (.builtin "object.__ne__") (.ref x) = pure (.builtin "object.__ne__", [.ref x]) := F.cmp_object.ne.bind (.ref x)
  have callNe : wpAny (model prog w) A (call (.builtin "object.__ne__") [.ref x, b]) (fun v s' => v ≠ .notImplemented ∧ Q v s') E s :=
    wpAny_call (codeAny_call_builtin F.cmp_object.ne.plain F.cmpEntry_ne (check_slot F.cmpKind_ne F.cmpSplit_ne sub (F.cmpArgs_ne _ _) entry))
  unfold tryCompare
  refine wpAny_bind ?_
  simp only [callSpecialIfBound?, bindSpecialIfBound?]
  refine wpAny_holding (wpAny_bind (wpAny_bind (wpAny_bind (I.type.here ((looks_findIn X hno).here ?_)))))
  refine wpAny_bind (wpAny_askSetting (wpAny_ite ?_))
  have fin : wpAny (model prog w) A (call (.builtin "object.__ne__") ([.ref x] ++ [b]) >>= fun v => pure (some v)) (fun a s' => wpAny (model prog w) A (match a with | some .notImplemented | none => pure none | some v => pure (some v)) (fun r s' => ∃ v, r = some v ∧ Q v s') E s') E s :=
    wpAny_bind (wpAny_mono callNe (fun v s' h' => wpAny_pure (by
      obtain ⟨h1, h2⟩ := h'
      cases v <;> first | exact absurd rfl h1 | exact wpAny_pure ⟨_, rfl, h2⟩)) fun _ _ e => e)
  rw [bnd]
  split
  · exact wpAny_bind (wpAny_pure (wpAny_pure (by exact fin)))
  · exact wpAny_tryCatch (wpAny_bind (wpAny_pure (wpAny_pure (by exact fin))))
/-- a != x, where a's own type declines -/
theorem ne_right {f : Addr} {a : Value} {Ta ida : String} (hu : A.units + 1 < cLine) (X : K.In s.heap) (I : InstAt s.heap x ox C od) (ha : s.TypeIs a Ta) (hm : mroIn K C (.type Ta) = some false) (h1 : Slot Ta "__ne__" ida)
    (hc1 : ∀ Q' : Value → Shared → Prop, Q' .notImplemented s → wpAny (model prog w) A (call (.builtin ida) [a, .ref x]) Q' E s) (hno : findIn K (.ref C) "__ne__" = some (some (.builtin "object.__ne__")))
    (hob : mroIn K C (.type "object") = some true) (hs : findIn K (.ref C) "__eq__" = some (some (.ref f))) (hf : isFn K (.ref f) = true)
    (h : wpAny (model prog w) A.in1 (call (.ref f) [.ref x, a]) (fun v s' => ∃ r, v = .bool r ∧ Q (.bool (!r)) s') E s) : wpAny (model prog w) A (richCompare .NotEq a (.ref x)) Q E s := by
  have L2 : Looks (model prog w) s.heap (isSubtype (.ref C) (.type Ta)) false := looks_mroIn X hm
  have two := try_ne hu X I hno hob hs hf h
  unfold richCompare
  have one : oneThing? .NotEq a (.ref x) = none := ha.oneThing_none _ _
  simp only [one]
  refine wpAny_holding (wpAny_bind (wpAny_cRoomFor (Nat.lt_of_succ_lt hu) ?_))
  refine wpAny_bind (wpAny_typeOf ha (wpAny_bind (I.type.here ?_)))
  rw [show (Value.type Ta != Value.ref C) = true from by simp]
  simp only [if_true]
  refine wpAny_bind (L2.here ?_)
  simp only [Bool.false_eq_true, if_false, Bool.not_false, if_true]
  refine wpAny_bind (m := tryCompare a _ (.ref x)) (wpAny_tryCompare_declines ha h1 (hc1 _ ⟨rfl, ?_⟩))
  refine wpAny_bind (wpAny_mono two (fun r s' z => ?_) fun _ _ e => e)
  obtain ⟨v, rfl, hq⟩ := z
  exact wpAny_pure hq
end
end K6X
/-! part K -/
set_option maxHeartbeats 4000000
namespace K6
open PySem PySem.Spec PyProof.Rows L2
/-! ### models: the law's own data -/
/-- the part of H outside of B -/
noncomputable def res (B : Addr → Prop) (H : Hp) : Hp := fun b => open Classical in if B b then none else H b
theorem res_out {B : Addr → Prop} {H : Hp} : Same (res B H) H := fun b o h => by
  unfold res at h
  split at h
  · cases h
  · exact h
theorem res_at {B : Addr → Prop} {H : Hp} {b : Addr} {o : HO} (h : res B H b = some o) : ¬ B b ∧ H b = some o := by
  unfold res at h
  split at h
  · cases h
  · exact ⟨‹_›, h⟩
theorem res_in {B : Addr → Prop} {H : Hp} {b : Addr} {o : HO} (n : ¬ B b) (h : H b = some o) : res B H b = some o := by
  unfold res
  rw [if_neg n, h]
theorem res_up {B B' : Addr → Prop} {H H' : Hp} (h : ∀ b o, ¬ B b → H b = some o → ¬ B' b ∧ H' b = some o) : Same (res B H) (res B' H') := fun b o e => by
  obtain ⟨n, e⟩ := res_at e
  obtain ⟨n', e'⟩ := h b o n e
  exact res_in n' e'
def wordOf : Nat → Str
  | 0 => "dots" | 1 => "float" | 2 => "imaginary" | _ => "octets"
def dictOf (k : Nat) (p : Addr) : List (Key × V) := [(.inr "word", .str (wordOf k)), (.inr "parts", .ref p)]
/-- v is a model of d, at most n deep -/
def Mo (H : Hp) : Nat → V → Md → Prop
  | 0, v, d => Flat v d
  | n + 1, v, d => Flat v d ∨ (∃ (a : Addr) (xs : List V) (l : List Md), v = .ref a ∧ d = .lst l ∧ H a = some (.lst xs) ∧ xs.length = l.length ∧ l.length ≤ 2 ∧ ∀ (i : Nat) x e, xs[i]? = some x → l[i]? = some e → Mo H n x e) ∨
      (∃ (a : Addr) (xs : List V) (l : List Md), v = .ref a ∧ d = .tup l ∧ H a = some (.tup xs) ∧ xs.length = l.length ∧ l.length ≤ 2 ∧ ∀ (i : Nat) x e, xs[i]? = some x → l[i]? = some e → Mo H n x e) ∨
      ∃ (a p : Addr) (k : Nat) (xs : List V) (l : List Md), v = .ref a ∧ d = .obj k l ∧ k < 4 ∧ H a = some (.dK (dictOf k p)) ∧ H p = some (.lst xs) ∧ xs.length = l.length ∧ l.length = (namesOf k).length ∧ ∀ (i : Nat) x e, xs[i]? = some x → l[i]? = some e → Mo H n x e
theorem Mo.same {H H' : Hp} (k : Same H H') : ∀ {n : Nat} {v : V} {d : Md}, Mo H n v d → Mo H' n v d
  | 0, _, _, h => h
  | n + 1, v, d, h => by
    rcases h with h | ⟨a, xs, l, h1, h2, h3, h4, h6, h5⟩ | ⟨a, xs, l, h1, h2, h3, h4, h6, h5⟩ | ⟨a, p, j, xs, l, h1, h2, h3, h4, h5, h6, h7, h8⟩
    · exact .inl h
    · exact .inr (.inl ⟨a, xs, l, h1, h2, k _ _ h3, h4, h6, fun i x e g1 g2 => Mo.same k (h5 i x e g1 g2)⟩)
    · exact .inr (.inr (.inl ⟨a, xs, l, h1, h2, k _ _ h3, h4, h6, fun i x e g1 g2 => Mo.same k (h5 i x e g1 g2)⟩))
    · exact .inr (.inr (.inr ⟨a, p, j, xs, l, h1, h2, h3, k _ _ h4, k _ _ h5, h6, h7, fun i x e g1 g2 => Mo.same k (h8 i x e g1 g2)⟩))
theorem Mo.up {H : Hp} : ∀ {n : Nat} {v : V} {d : Md}, Mo H n v d → Mo H (n + 1) v d
  | 0, _, _, h => .inl h
  | n + 1, v, d, h => by
    rcases h with h | ⟨a, xs, l, h1, h2, h3, h4, h6, h5⟩ | ⟨a, xs, l, h1, h2, h3, h4, h6, h5⟩ | ⟨a, p, j, xs, l, h1, h2, h3, h4, h5, h6, h7, h8⟩
    · exact .inl h
    · exact .inr (.inl ⟨a, xs, l, h1, h2, h3, h4, h6, fun i x e g1 g2 => Mo.up (h5 i x e g1 g2)⟩)
    · exact .inr (.inr (.inl ⟨a, xs, l, h1, h2, h3, h4, h6, fun i x e g1 g2 => Mo.up (h5 i x e g1 g2)⟩))
    · exact .inr (.inr (.inr ⟨a, p, j, xs, l, h1, h2, h3, h4, h5, h6, h7, fun i x e g1 g2 => Mo.up (h8 i x e g1 g2)⟩))
theorem Mo.mono {H : Hp} {n m : Nat} {v : V} {d : Md} (h : Mo H n v d) (hn : n ≤ m) : Mo H m v d := by
  induction hn with
  | refl => exact h
  | step _ ih => exact ih.up
/-- a row of models -/
def Ms (H : Hp) (n : Nat) (xs : List V) (l : List Md) : Prop := xs.length = l.length ∧ ∀ (i : Nat) x e, xs[i]? = some x → l[i]? = some e → Mo H n x e
theorem Ms.same {H H' : Hp} {n : Nat} {xs : List V} {l : List Md} (k : Same H H') (h : Ms H n xs l) : Ms H' n xs l := ⟨h.1, fun i x e g1 g2 => (h.2 i x e g1 g2).same k⟩
theorem Ms.nil {H : Hp} {n : Nat} : Ms H n [] [] := ⟨rfl, fun i x e g => by simp at g⟩
theorem at_snoc {α β : Type} {p : Nat → α → β → Prop} {xs : List α} {l : List β} {v : α} {d : β} (hl : xs.length = l.length) (h : ∀ (i : Nat) x e, xs[i]? = some x → l[i]? = some e → p i x e) (hn : p xs.length v d) :
    ∀ (i : Nat) x e, (xs ++ [v])[i]? = some x → (l ++ [d])[i]? = some e → p i x e := fun i x e g1 g2 => by
  by_cases hi : i < xs.length
  · rw [List.getElem?_append_left hi] at g1
    rw [List.getElem?_append_left (by omega)] at g2
    exact h i x e g1 g2
  · have li : i < (xs ++ [v]).length := by
      rcases Nat.lt_or_ge i (xs ++ [v]).length with q | q
      · exact q
      · rw [List.getElem?_eq_none q] at g1; cases g1
    rw [List.length_append, List.length_singleton] at li
    have e1 : i = xs.length := by omega
    subst e1
    rw [List.getElem?_append_right (Nat.le_refl _)] at g1
    rw [List.getElem?_append_right (by omega)] at g2
    rw [show xs.length - xs.length = 0 by omega] at g1
    rw [show xs.length - l.length = 0 by omega] at g2
    cases g1
    cases g2
    exact hn
theorem Ms.snoc {H : Hp} {n : Nat} {xs : List V} {l : List Md} {v : V} {d : Md} (h : Ms H n xs l) (hd : Mo H n v d) : Ms H n (xs ++ [v]) (l ++ [d]) :=
  ⟨by rw [List.length_append, List.length_append, h.1]; rfl, at_snoc h.1 h.2 hd⟩
theorem Mo.lst {H : Hp} {n : Nat} {a : Addr} {xs : List V} {l : List Md} (h : Ms H n xs l) (ha : H a = some (.lst xs)) (hl : l.length ≤ 2) : Mo H (n + 1) (.ref a) (.lst l) := .inr (.inl ⟨a, xs, l, rfl, rfl, ha, h.1, hl, h.2⟩)
theorem Mo.tup {H : Hp} {n : Nat} {a : Addr} {xs : List V} {l : List Md} (h : Ms H n xs l) (ha : H a = some (.tup xs)) (hl : l.length ≤ 2) : Mo H (n + 1) (.ref a) (.tup l) := .inr (.inr (.inl ⟨a, xs, l, rfl, rfl, ha, h.1, hl, h.2⟩))
theorem Mo.dict {H : Hp} {n k : Nat} {a p : Addr} {xs : List V} {l : List Md} (h : Ms H n xs l) (hk : k < 4) (ha : H a = some (.dK (dictOf k p))) (hp : H p = some (.lst xs)) (hl : l.length = (namesOf k).length) : Mo H (n + 1) (.ref a) (.obj k l) :=
  .inr (.inr (.inr ⟨a, p, k, xs, l, rfl, rfl, hk, ha, hp, h.1, hl, h.2⟩))
theorem Mo.asObj {H : Hp} {n j : Nat} {v : V} {l : List Md} (h : Mo H n v (.obj j l)) : ∃ (m : Nat) (a p : Addr) (xs : List V), n = m + 1 ∧ v = .ref a ∧ j < 4 ∧ H a = some (.dK (dictOf j p)) ∧ H p = some (.lst xs) ∧ l.length = (namesOf j).length ∧ Ms H m xs l := by
  cases n with
  | zero => rcases h with ⟨_, z⟩ | ⟨i, _, z⟩ | ⟨x, _, z⟩ <;> cases z
  | succ n =>
    rcases h with h | ⟨a, xs, l, h1, h2, h3, h4, h6, h5⟩ | ⟨a, xs, l, h1, h2, h3, h4, h6, h5⟩ | ⟨a, p, i, xs, l', h1, h2, h3, h4, h5, h6, h7, h8⟩
    · rcases h with ⟨_, z⟩ | ⟨i, _, z⟩ | ⟨x, _, z⟩ <;> cases z
    · cases h2
    · cases h2
    · cases h2
      exact ⟨n, a, p, xs, rfl, h1, h3, h4, h5, h7, h6, h8⟩
abbrev sThing : Stmt := topS 8
abbrev sObj : Stmt := topS 9
abbrev nThing : List Str := ["_law_stream", "_law_deep", "_law_way", "_law_some", "_law_k"]
abbrev nObj : List Str := ["_law_stream", "_law_deep", "_law_word", "_law_many", "_law_k"]
theorem scThing : FnScope nThing ["_law_stream", "_law_deep"] (defScope sThing) := ⟨rfl, rfl, rfl, by decide +kernel, rfl, by decide +kernel, by decide +kernel⟩
theorem scObj : FnScope nObj ["_law_stream", "_law_deep"] (defScope sObj) := ⟨rfl, rfl, rfl, by decide +kernel, rfl, by decide +kernel, by decide +kernel⟩
def cost : Nat → Nat
  | 0 => 2
  | k + 1 => 3 + 2 * cost k
theorem cost_ge : ∀ k, 2 ≤ cost k
  | 0 => Nat.le_refl _
  | k + 1 => by simp only [cost]; omega
def was (H : Hp) : Addr → Prop := fun b => H b ≠ none
/-- a thing of the depth k, k below n -/
def spThing (n : Nat) : Sp := fun vs H Q _ => ∃ (a c : Addr) (S : Stm) (k : Nat), vs = [.ref a, .int (k : Int)] ∧ k + 1 ≤ n ∧ k ≤ 100 ∧ StmAt H a c S ∧ S.cnt + (cost k : Nat) < 1000000 ∧
  ∀ (H' : Hp) (S' : Stm) (v : V) (d : Md), StmAt H' a c S' → S'.cnt ≤ S.cnt + (cost k : Nat) → Kept a c H H' → Mo (res (was H) H') (k + 1) v d → Q v H'
def spObj (n : Nat) : Sp := fun vs H Q _ => ∃ (a c : Addr) (S : Stm) (k : Nat), vs = [.ref a, .int (k : Int)] ∧ k + 1 ≤ n ∧ k ≤ 100 ∧ StmAt H a c S ∧ S.cnt + (1 + 2 * cost k : Nat) < 1000000 ∧
  ∀ (H' : Hp) (S' : Stm) (v : V) (j : Nat) (l : List Md), StmAt H' a c S' → S'.cnt ≤ S.cnt + (1 + 2 * cost k : Nat) → Kept a c H H' → Mo (res (was H) H') (k + 2) v (.obj j l) → Q v H'
theorem Kept.has {a c b : Addr} {H H1 : Hp} (k : Kept a c H H1) (ha : H1 a ≠ none) (hc : H1 c ≠ none) (h : was H b) : was H1 b := fun z => h (k.free ha hc z)
/-- what was new since H, seen later -/
theorem was_up {a c : Addr} {H H1 H2 H3 : Hp} (k : Kept a c H H1) (ha : H1 a ≠ none) (hc : H1 c ≠ none) (h : ∀ b o, b ≠ a → b ≠ c → H2 b = some o → H3 b = some o) : Same (res (was H1) H2) (res (was H) H3) :=
  res_up fun b o n e => ⟨fun z => n (k.has ha hc z), h b o (fun z => n (z ▸ ha)) (fun z => n (z ▸ hc)) e⟩
end K6
/-! part L -/
set_option maxHeartbeats 4000000
namespace K6
open PySem PySem.Spec PyProof.Rows L2
/-- a list at D, filled with things one by one; H2 is ahead of D -/
structure Row (a c D : Addr) (S2 : Stm) (H2 : Hp) (cst dp i : Nat) (H3 : Hp) (S3 : Stm) (xs : List V) (ds : List Md) : Prop where
  st : StmAt H3 a c S3
  cn : S3.cnt ≤ S2.cnt + ((i * cst : Nat) : Int)
  kp : Kept a c H2 H3
  at_ : H3 D = some (.lst xs)
  len : xs.length = i
  ms : Ms (res (fun b => was H2 b ∨ b = D) H3) dp xs ds
theorem Row.start {a c D : Addr} {S2 : Stm} {H2 : Hp} {cst dp : Nat} (h2 : StmAt H2 a c S2) (nD : H2 D = none) : Row a c D S2 H2 cst dp 0 (upd H2 D (.lst [])) S2 [] [] :=
  ⟨h2.keep (same_new nD), by simp, Kept.same (same_new nD), upd_same, rfl, Ms.nil⟩
theorem Row.step {a c D : Addr} {S2 S3 S4 : Stm} {H2 H3 H4 : Hp} {cst dp i : Nat} {xs : List V} {ds : List Md} {v : V} {d : Md} (h2 : StmAt H2 a c S2) (nD : H2 D = none) (r : Row a c D S2 H2 cst dp i H3 S3 xs ds)
    (h4 : StmAt H4 a c S4) (hc4 : S4.cnt ≤ S3.cnt + (cst : Nat)) (k4 : Kept a c H3 H4) (m4 : Mo (res (was H3) H4) dp v d) : H4 D = some (.lst xs) ∧ Row a c D S2 H2 cst dp (i + 1) (upd H4 D (.lst (xs ++ [v]))) S4 (xs ++ [v]) (ds ++ [d]) := by
  have Da : D ≠ a := fun z => h2.a0 (z ▸ nD)
  have Dc : D ≠ c := fun z => h2.c0 (z ▸ nD)
  have hD4 : H4 D = some (.lst xs) := k4 _ _ Da Dc r.at_
  have hi1 : (i + 1) * cst = i * cst + cst := Nat.succ_mul _ _
  have cn := r.cn
  refine ⟨hD4, ⟨?_, ?_, h4.ne, h4.len, h4.cur0, h4.cnt0, h4.mix0, h4.mix1⟩, by omega, ?_, upd_same, by rw [List.length_append, r.len]; rfl, Ms.snoc (r.ms.same (res_up fun b o n e => ⟨n, ?_⟩)) (m4.same (res_up fun b o n e => ⟨fun z => ?_, ?_⟩))⟩
  · rw [upd_ne (Ne.symm Da)]; exact h4.lst
  · rw [upd_ne (Ne.symm Dc)]; exact h4.cel
  · intro b o n1 n2 e
    rw [upd_ne (ne_of_none e nD)]
    exact k4 _ _ n1 n2 (r.kp _ _ n1 n2 e)
  · rw [upd_ne fun z => n (.inr z)]
    exact k4 b o (fun z => n (.inl (z ▸ h2.a0))) (fun z => n (.inl (z ▸ h2.c0))) e
  · rcases z with z | z
    · exact n (r.kp.has r.st.a0 r.st.c0 z)
    · exact n (by rw [z]; show H3 D ≠ none; rw [r.at_]; simp)
  · rw [upd_ne fun z => n (by rw [z]; show H3 D ≠ none; rw [r.at_]; simp)]
    exact e
theorem Row.out {a c D : Addr} {S2 S3 : Stm} {H H2 H3 H4 : Hp} {cst dp i : Nat} {xs : List V} {ds : List Md} (h2 : StmAt H2 a c S2) (nD : H2 D = none) (k : Kept a c H H2) (r : Row a c D S2 H2 cst dp i H3 S3 xs ds) (s : Same H3 H4) :
    Ms (res (was H) H4) dp xs ds ∧ res (was H) H4 D = some (.lst xs) :=
  ⟨r.ms.same (res_up fun b o n e => ⟨fun z => n (.inl (k.has h2.a0 h2.c0 z)), s _ _ e⟩), res_in (fun z => z (k.free h2.a0 h2.c0 nD)) (s _ _ r.at_)⟩
theorem same_new2 {H : Hp} {p : Addr} {o o' : HO} (h : H p = none) : Same H (upd (upd H p o) p o') := fun b u e => by rw [upd_ne (ne_of_none e h), upd_ne (ne_of_none e h)]; exact e
def picks (t u : Addr) : List V := [.int 0, .int 1, .int (-1), .int 3, .int (10 ^ (29 : Int).toNat), .int (-1074), .str "a", .str "", .non, .int (2 ^ (53 : Int).toNat - 1), .ref t, .ref u]
theorem flat_mo {H : Hp} {n : Nat} {v : V} {d : Md} (h : Flat v d) : Mo H n v d := by
  cases n with
  | zero => exact h
  | succ n => exact .inl h
theorem mo_int {H : Hp} {n : Nat} (i : Int) : Mo H n (.int i) (.int i) := flat_mo (.inr (.inl ⟨i, rfl, rfl⟩))
theorem mo_str {H : Hp} {n : Nat} (x : Str) : Mo H n (.str x) (.str x) := flat_mo (.inr (.inr ⟨x, rfl, rfl⟩))
theorem mo_non {H : Hp} {n : Nat} : Mo H n .non .non := flat_mo (.inl ⟨rfl, rfl⟩)
theorem picks_mo {H : Hp} {t u : Addr} (ht : H t = some (.tup [.int 97, .int 0])) (hu : H u = some (.lst [.int 97])) {x : V} (hx : x ∈ picks t u) : ∃ d, Mo H 1 x d := by
  simp only [picks, List.mem_cons, List.not_mem_nil, or_false] at hx
  rcases hx with rfl | rfl | rfl | rfl | rfl | rfl | rfl | rfl | rfl | rfl | rfl | rfl
  · exact ⟨_, mo_int _⟩
  · exact ⟨_, mo_int _⟩
  · exact ⟨_, mo_int _⟩
  · exact ⟨_, mo_int _⟩
  · exact ⟨_, mo_int _⟩
  · exact ⟨_, mo_int _⟩
  · exact ⟨_, mo_str _⟩
  · exact ⟨_, mo_str _⟩
  · exact ⟨_, mo_non⟩
  · exact ⟨_, mo_int _⟩
  · exact ⟨_, Mo.tup (n := 0) (((Ms.nil).snoc (mo_int 97)).snoc (mo_int 0)) ht (by decide)⟩
  · exact ⟨_, Mo.lst (n := 0) ((Ms.nil).snoc (mo_int 97)) hu (by decide)⟩
section
variable {P : Program} {w : World} {K : PySem.W.Frag} {mg : Str → Option Value} {base : Heap}
theorem no_thing {f : Addr} {fd : FuncData} {k : Nat} : FnOk P w K mg base CX0 k f fd ["_law_stream", "_law_deep"] (spThing 0) := by
  have no : ∀ vs H Q E, ¬ spThing 0 vs H Q E := fun vs H Q E h => by
    obtain ⟨a, c, S, k, _, h1, _⟩ := h
    omega
  exact ⟨fun vs H Q E h => absurd h (no vs H Q E), fun A outer s H args us vs Q E _ _ _ _ h => absurd h (no vs H Q E)⟩
theorem no_obj {f : Addr} {fd : FuncData} {k : Nat} : FnOk P w K mg base CX0 k f fd ["_law_stream", "_law_deep"] (spObj 0) := by
  have no : ∀ vs H Q E, ¬ spObj 0 vs H Q E := fun vs H Q E h => by
    obtain ⟨a, c, S, k, _, h1, _⟩ := h
    omega
  exact ⟨fun vs H Q E h => absurd h (no vs H Q E), fun A outer s H args us vs Q E _ _ _ _ h => absurd h (no vs H Q E)⟩
theorem ok_thing {f fD fP fO : Addr} {fd fdD fdP fdO : FuncData} (F : Fun K "_law_thing" "_law_thing" sThing f fd) (bF : Binds K fd ["_law_stream", "_law_deep"] []) (mF : mg "_law_thing" = some (.ref f))
    (D : FnOk P w K mg base CX0 1 fD fdD ["_law_stream", "_law_many"] spDraw) (bD : Binds K fdD ["_law_stream", "_law_many"] []) (kD : PySem.W.keepIn K (.ref fD) = true) (mD : mg "_law_draw" = some (.ref fD))
    (G : FnOk P w K mg base CX0 2 fP fdP ["_law_stream", "_law_some"] (spPick K)) (bP : Binds K fdP ["_law_stream", "_law_some"] []) (kP : PySem.W.keepIn K (.ref fP) = true) (mP : mg "_law_pick" = some (.ref fP))
    (bO : Binds K fdO ["_law_stream", "_law_deep"] []) (kO : PySem.W.keepIn K (.ref fO) = true) (mO : mg "_law_object" = some (.ref fO))
    (mr : mg "range" = none) (mt : mg "tuple" = none) {n : Nat} (ih : FnOk P w K mg base CX0 (2 * n + 2) f fd ["_law_stream", "_law_deep"] (spThing n)) (ihO : FnOk P w K mg base CX0 (2 * n + 3) fO fdO ["_law_stream", "_law_deep"] (spObj n)) :
    FnOk P w K mg base CX0 (2 * n + 4) f fd ["_law_stream", "_law_deep"] (spThing (n + 1)) := by
  refine F.ok scThing (fun vs H Q E h => ?_) (fun cdv A outer s H vs Q E hr h => ?_)
  · obtain ⟨a, c, S, k, rfl, _⟩ := h
    rfl
  obtain ⟨a, c, S, k, rfl, hk, hk1, hS, hcnt, q⟩ := h
  have hr1 : Room 1 _ := hr.mono (by omega)
  have hr2 : Room 2 _ := hr.mono (by omega)
  have hrT : Room (2 * n + 2) _ := hr.mono (by omega)
  refine ⟨_, pss_cons (ps_set (i := 2) scThing.nd rfl (.inl rfl) (pe_call D hr1 rfl mD kD bD .nil pass0 (pa_cons (pv 0) (pa_cons pe_int pa_nil))))
    (C8.pss_cut (ps_if (PW.pt (pw_and (pt_cmpR op_gt (pv 1) pe_int (nomark _)) (pw_and1 (pt_cmpR op_lt (pv 2) pe_int (nomark _)))))
      (pss_cons (ps_setLc (i := 3) (own := [("_law_k", 4)]) (g := gName 4) (tt := tYes) rfl scThing.nd rfl rfl (sw_true rfl rfl rfl (by decide +kernel)) (pi_range1 rfl mr (pa_cons (pe_call D hr1 rfl mD kD bD .nil pass0 (pa_cons (pv 0) (pa_cons pe_int pa_nil))) pa_nil))
        (blkOk_by (own := [("_law_k", 4)]) (N := nThing) (sc := defScope sThing) (by decide +kernel)) (fun _ _ _ _ _ => pg_name (i := 4) scThing.nd rfl (.inl rfl)) (fun _ _ _ _ _ => pts_nil)
        (fun _ _ _ _ _ => pe_call ih hrT rfl mF F.kp bF .nil pass0 (pa_cons (pv 0) (pa_cons (pe_op op_sub (pv 1) pe_int) pa_nil))))
      (pss_one (ps_ret (pe_ifExp (pt_cmpR op_eq (pv 2) pe_int (nomark _)) (pv 3) (pe_callTy call_tuple_of (by rfl) mt (by decide +kernel) (pa_cons (pv 3) pa_nil)))))) pss_nil)
    (C8.pss_cut (ps_if (PW.pt (pw_and (pt_cmpR op_gt (pv 1) pe_int (nomark _)) (pw_and1 (pt_cmpR op_lt (pv 2) pe_int (nomark _)))))
      (pss_one (ps_ret (pe_call ihO hr rfl mO kO bO .nil pass0 (pa_cons (pv 0) (pa_cons (pe_op op_sub (pv 1) pe_int) pa_nil))))) pss_nil)
    (pss_one (ps_ret (pe_call G hr2 rfl mP kP bP .nil pass0 (pa_cons (pv 0) (pa_cons (pe_lst (pa_cons pe_int (pa_cons pe_int (pa_cons (pe_un un_neg pe_int) (pa_cons pe_int (pa_cons (pe_op op_pow pe_int pe_int) (pa_cons (pe_un un_neg pe_int)
      (pa_cons pe_str (pa_cons pe_str (pa_cons pe_non (pa_cons (pe_op op_sub (pe_op op_pow pe_int pe_int) pe_int) (pa_cons (pe_tup (pa_cons pe_int (pa_cons pe_int pa_nil))) (pa_cons (pe_lst (pa_cons pe_int pa_nil)) pa_nil))))))))))))) pa_nil))))))), ?_⟩
  refine ⟨_, rfl, a, c, S, 9, rfl, hS, by have := cost_ge k; omega, by decide, by decide, fun H1 S1 r h1 hc1 k1 r0 r1 => ?_⟩
  have ck := cost_ge k
  have hM : a ≠ c := hS.ne
  refine ⟨fun σ H2 => σ = [some (.ref a), some (.int (k : Int)), some (.int r), none, none] ∧ H2 = H1, ?_, ?_⟩
  · refine ⟨_, rfl, _, _, rfl, rfl, _, rfl, ?_⟩
    refine ite2 (fun c2 => ?_) (fun c2 => ⟨rfl, rfl⟩)
    refine ⟨_, rfl, _, _, rfl, rfl, _, rfl, ?_⟩
    refine ite2 (fun c1 => ?_) (fun c1 => ⟨rfl, rfl⟩)
    have hk0 : 0 < k := by
      have z : (k : Int) > 0 := of_decide_eq_true c2
      omega
    obtain ⟨j, rfl⟩ : ∃ j, k = j + 1 := ⟨k - 1, by omega⟩
    have cj := cost_ge j
    have hcost : cost (j + 1) = 3 + 2 * cost j := rfl
    refine ⟨_, rfl, a, c, S1, 3, rfl, h1, by omega, by decide, by decide, fun H2 S2 m h2 hc2 k2 m0 m1 => ?_⟩
    refine ⟨m, rfl, by omega, by omega, fun D nD => ?_⟩
    have k12 : Kept a c H H2 := k1.trans k2
    refine lc_range (lo := 0) (n := m.toNat) (fun i H3 => ∃ (S3 : Stm) (xs : List V) (ds : List Md), Row a c D S2 H2 (cost j) (j + 1) i H3 S3 xs ds) ?_ ?_ ?_
    · exact ⟨S2, [], [], .start h2 nD⟩
    · rintro i H3 hi ⟨S3, xs, ds, R⟩
      have hi3 : (i + 1) * cost j ≤ 2 * cost j := Nat.mul_le_mul_right _ (by omega)
      have hi1 : (i + 1) * cost j = i * cost j + cost j := Nat.succ_mul _ _
      have cn := R.cn
      have ln := R.len
      refine ⟨rfl, ?_⟩
      unfold tYes
      refine iteT ?_
      refine ⟨_, rfl, _, rfl, _, _, rfl, rfl, a, c, S3, j, ?_, by omega, by omega, R.st, by omega, fun H4 S4 v d h4 hc4 k4 m4 => ?_⟩
      · have e : ((j + 1 : Nat) : Int) - 1 = (j : Int) := by omega
        show [V.ref a, V.int (((j + 1 : Nat) : Int) - 1)] = [V.ref a, V.int (j : Int)]
        rw [e]
      obtain ⟨hD4, R'⟩ := R.step h2 nD h4 hc4 k4 m4
      exact ⟨xs, hD4, Nat.lt_of_le_of_lt (by omega : xs.length ≤ 3) (by decide), S4, _, _, R'⟩
    · rintro H3 ⟨S3, xs, ds, R⟩
      have kU : Kept a c H H3 := k12.trans R.kp
      have hi3 : m.toNat * cost j ≤ 2 * cost j := Nat.mul_le_mul_right _ (by omega)
      have cn := R.cn
      have ln := R.len
      have lx := R.ms.1
      have hcn : S3.cnt ≤ S.cnt + ((cost (j + 1) : Nat) : Int) := by rw [hcost]; omega
      refine ⟨_, rfl, rfl, _, rfl, ?_⟩
      refine ite2 (fun c3 => ?_) (fun c3 => ?_)
      · obtain ⟨mm, hD⟩ := R.out h2 nD k12 (Same.refl H3)
        exact ⟨_, rfl, q H3 S3 (.ref D) (.lst ds) R.st hcn kU (Mo.lst mm hD (by omega))⟩
      · refine ⟨_, rfl, D, _, rfl, .inl ⟨SqL.of R.at_, fun t nt => q _ S3 (.ref t) (.tup ds) (R.st.keep (same_new nt)) hcn (kU.trans (Kept.same (same_new nt))) ?_⟩⟩
        obtain ⟨mm, hD⟩ := R.out h2 nD k12 (same_new (o := .tup xs) nt)
        exact Mo.tup mm (res_in (fun z => z (kU.free R.st.a0 R.st.c0 nt)) upd_same) (by omega)
  · rintro σ H2 ⟨rfl, rfl⟩
    refine ⟨fun σ H3 => σ = [some (.ref a), some (.int (k : Int)), some (.int r), none, none] ∧ H3 = H2, ?_, ?_⟩
    · refine ⟨_, rfl, _, _, rfl, rfl, _, rfl, ?_⟩
      refine ite2 (fun c2 => ?_) (fun c2 => ⟨rfl, rfl⟩)
      refine ⟨_, rfl, _, _, rfl, rfl, _, rfl, ?_⟩
      refine ite2 (fun c1 => ?_) (fun c1 => ⟨rfl, rfl⟩)
      have hk0 : 0 < k := by
        have z : (k : Int) > 0 := of_decide_eq_true c2
        omega
      obtain ⟨j, rfl⟩ : ∃ j, k = j + 1 := ⟨k - 1, by omega⟩
      have cj := cost_ge j
      have hcost : cost (j + 1) = 3 + 2 * cost j := rfl
      refine ⟨_, rfl, _, rfl, _, _, rfl, rfl, a, c, S1, j, ?_, by omega, by omega, h1, by omega, fun H4 S4 v u l h4 hc4 k4 m4 => ?_⟩
      · have e : ((j + 1 : Nat) : Int) - 1 = (j : Int) := by omega
        show [V.ref a, V.int (((j + 1 : Nat) : Int) - 1)] = [V.ref a, V.int (j : Int)]
        rw [e]
      exact q H4 S4 v (.obj u l) h4 (by omega) (k1.trans k4) (m4.same (was_up k1 h1.a0 h1.c0 fun b o _ _ e => e))
    · rintro σ H2 ⟨rfl, rfl⟩
      refine ⟨_, rfl, _, rfl, _, _, rfl, rfl, ⟨by decide, by decide, by decide⟩, _, rfl, _, _, rfl, rfl, ⟨by decide, by decide, by decide⟩, _, _, rfl, rfl, by show 2 ≤ sizeLine; decide, fun t nt => ?_⟩
      refine ⟨by show 1 ≤ sizeLine; decide, fun u nu => ?_⟩
      refine ⟨by show 12 ≤ sizeLine; decide, fun l nl => ?_⟩
      have s1 := same_new (o := .tup [.int 97, .int 0]) nt
      have s2 := s1.trans (same_new (o := .lst [.int 97]) nu)
      have s3 := s2.trans (same_new (o := .lst (picks t u)) nl)
      have la : l ≠ a := fun z => (h1.keep s2).a0 (z ▸ nl)
      have lc : l ≠ c := fun z => (h1.keep s2).c0 (z ▸ nl)
      have ua : u ≠ a := fun z => (h1.keep s1).a0 (z ▸ nu)
      have uc : u ≠ c := fun z => (h1.keep s1).c0 (z ▸ nu)
      have ta : t ≠ a := fun z => h1.a0 (z ▸ nt)
      have tc : t ≠ c := fun z => h1.c0 (z ▸ nt)
      refine ⟨a, c, l, S1, picks t u, rfl, h1.keep s3, by omega, upd_same, la, lc, by show 0 < 12; decide, by show 12 < 1000000; decide, fun H3 S3 x h3 hc3 k3 hx => ?_⟩
      have k13 : Kept a c H H3 := k1.trans ((Kept.same s3).trans k3)
      have ht3 : H3 t = some (.tup [.int 97, .int 0]) := k3 _ _ ta tc (same_new nl _ _ (same_new nu _ _ upd_same))
      have hu3 : H3 u = some (.lst [.int 97]) := k3 _ _ ua uc (same_new nl _ _ upd_same)
      have nHt : H t = none := k1.free h1.a0 h1.c0 nt
      have nHu : H u = none := k1.free h1.a0 h1.c0 ((Kept.same (a := a) (c := c) s1).free (h1.keep s1).a0 (h1.keep s1).c0 nu)
      obtain ⟨d, hd⟩ := picks_mo (H := res (was H) H3) (res_in (fun z => z nHt) ht3) (res_in (fun z => z nHu) hu3) hx
      exact q H3 S3 x d h3 (by omega) k13 (hd.mono (by omega))
theorem ok_obj {f fD fT : Addr} {fd fdD fdT : FuncData} (F : Fun K "_law_object" "_law_object" sObj f fd)
    (D : FnOk P w K mg base CX0 1 fD fdD ["_law_stream", "_law_many"] spDraw) (bD : Binds K fdD ["_law_stream", "_law_many"] []) (kD : PySem.W.keepIn K (.ref fD) = true) (mD : mg "_law_draw" = some (.ref fD))
    (bT : Binds K fdT ["_law_stream", "_law_deep"] []) (kT : PySem.W.keepIn K (.ref fT) = true) (mT : mg "_law_thing" = some (.ref fT))
    (mr : mg "range" = none) {n : Nat} (ih : FnOk P w K mg base CX0 (2 * n + 2) fT fdT ["_law_stream", "_law_deep"] (spThing n)) :
    FnOk P w K mg base CX0 (2 * n + 3) f fd ["_law_stream", "_law_deep"] (spObj n) := by
  refine F.ok scObj (fun vs H Q E h => ?_) (fun cdv A outer s H vs Q E hr h => ?_)
  · obtain ⟨a, c, S, k, rfl, _⟩ := h
    rfl
  obtain ⟨a, c, S, k, rfl, hk, hk1, hS, hcnt, q⟩ := h
  have hr1 : Room 1 _ := hr.mono (by omega)
  refine ⟨_, pss_cons (ps_set (i := 2) scObj.nd rfl (.inl rfl) (pe_ix ix_list (pe_lst (pa_cons pe_str (pa_cons pe_str (pa_cons pe_str (pa_cons pe_str pa_nil))))) (pe_call D hr1 rfl mD kD bD .nil pass0 (pa_cons (pv 0) (pa_cons pe_int pa_nil))) (fun _ _ => rfl)))
    (pss_cons (ps_set (i := 3) scObj.nd rfl (.inl rfl) (pe_dget2 (hu_of hr) (pe_disp (pps_cons pe_str pe_int (pps_cons pe_str pe_int pps_nil)) (by rfl) (by rfl) (fun z => by cases z) (by decide)) (pv 2) pe_int ⟨rfl, rfl, rfl, rfl⟩))
    (pss_one (ps_ret (pe_disp (pps_cons pe_str (pv 2) (pps_cons pe_str (pe_lc (own := [("_law_k", 4)]) (g := gName 4) (tt := tYes) rfl scObj.nd (pi_range1 rfl mr (pa_cons (pv 3) pa_nil))
        (blkOk_by (own := [("_law_k", 4)]) (N := nObj) (sc := defScope sObj) (by decide +kernel)) (fun _ _ _ _ _ => pg_name (i := 4) scObj.nd rfl (.inl rfl)) (fun _ _ _ _ _ => pts_nil)
        (fun _ _ _ _ _ => pe_call ih hr rfl mT kT bT .nil pass0 (pa_cons (pv 0) (pa_cons (pv 1) pa_nil)))) pps_nil)) (by rfl) (by rfl) (fun z => by cases z) (by decide))))), ?_⟩
  have ck := cost_ge k
  refine ⟨by show 4 ≤ sizeLine; decide, fun l nl => ?_⟩
  have s1 := same_new (o := .lst [.str "dots", .str "float", .str "imaginary", .str "octets"]) nl
  have hS1 := hS.keep s1
  have la : l ≠ a := fun z => hS.a0 (z ▸ nl)
  have lc : l ≠ c := fun z => hS.c0 (z ▸ nl)
  refine ⟨_, rfl, a, c, S, 4, rfl, hS1, by omega, by decide, by decide, fun H1 S1 r h1 hc1 k1 r0 r1 => ?_⟩
  have hl1 : H1 l = some (.lst [.str "dots", .str "float", .str "imaginary", .str "octets"]) := k1 _ _ la lc upd_same
  obtain ⟨u, rfl⟩ : ∃ u : Nat, r = (u : Int) := ⟨r.toNat, by omega⟩
  have hu : u < 4 := by omega
  have hw : ([.str "dots", .str "float", .str "imaginary", .str "octets"] : List V)[u]? = some (.str (wordOf u)) := by
    rcases u with _ | _ | _ | _ | u
    · rfl
    · rfl
    · rfl
    · rfl
    · omega
  have kH1 : Kept a c H H1 := (Kept.same s1).trans k1
  refine ⟨l, _, _, _, rfl, rfl, SqL.of hl1, atI_nat hw, fun p np => ?_⟩
  let kv0 : List (Key × V) := [(.inr "dots", .int 0), (.inr "float", .int 2)]
  have s2 := same_new2 (o := .dK []) (o' := .dK (mergeK [] kv0)) np
  refine ⟨upd_same, kv0, rfl, by decide, ?_⟩
  refine ⟨p, rfl, .inl ⟨_, Rd.of upd_same⟩, _, rfl, _, DGet.k (k := Sum.inr (wordOf u)) upd_same, ?_⟩
  have hm : ((valV (mergeK [] kv0) (Sum.inr (wordOf u))).getD (.int 1)) = .int (((namesOf u).length : Nat) : Int) := by
    rcases u with _ | _ | _ | _ | u
    · rfl
    · rfl
    · rfl
    · rfl
    · omega
  rw [hm]
  have h2 := h1.keep s2
  have k2 := kH1.trans (Kept.same (a := a) (c := c) s2)
  generalize upd (upd H1 p (.dK [])) p (.dK (mergeK [] kv0)) = H2 at h2 k2
  have hn2 : (namesOf u).length ≤ 2 := by
    rcases u with _ | _ | _ | _ | u
    · decide
    · decide
    · decide
    · decide
    · omega
  refine fun q1 nq1 => ?_
  have h3 := h2.keep (same_new (o := .dK []) nq1)
  have k3 := k2.trans (Kept.same (a := a) (c := c) (same_new (o := .dK []) nq1))
  refine ⟨_, rfl, _, rfl, _, rfl, by omega, by omega, fun D nD => ?_⟩
  have hq1 : (upd H2 q1 (.dK [])) q1 = some (.dK []) := upd_same
  generalize upd H2 q1 (.dK []) = H3 at h3 k3 nD hq1
  have nHq : H q1 = none := k2.free h2.a0 h2.c0 nq1
  have q1a : q1 ≠ a := fun z => h2.a0 (z ▸ nq1)
  have q1c : q1 ≠ c := fun z => h2.c0 (z ▸ nq1)
  refine lc_range (lo := 0) (n := (((namesOf u).length : Nat) : Int).toNat) (fun i H4 => ∃ (S4 : Stm) (xs : List V) (ds : List Md), Row a c D S1 H3 (cost k) (k + 1) i H4 S4 xs ds) ?_ ?_ ?_
  · exact ⟨S1, [], [], .start h3 nD⟩
  · rintro i H4 hi ⟨S4, xs, ds, R⟩
    have hi3 : (i + 1) * cost k ≤ 2 * cost k := Nat.mul_le_mul_right _ (by omega)
    have hi1 : (i + 1) * cost k = i * cost k + cost k := Nat.succ_mul _ _
    have cn := R.cn
    have ln := R.len
    refine ⟨rfl, ?_⟩
    unfold tYes
    refine iteT ?_
    refine ⟨_, rfl, _, rfl, a, c, S4, k, rfl, by omega, by omega, R.st, by omega, fun H5 S5 v d h5 hc5 k5 m5 => ?_⟩
    obtain ⟨hD5, R'⟩ := R.step h3 nD h5 hc5 k5 m5
    exact ⟨xs, hD5, Nat.lt_of_le_of_lt (by omega : xs.length ≤ 3) (by decide), S5, _, _, R'⟩
  · rintro H4 ⟨S4, xs, ds, R⟩
    have kU : Kept a c H H4 := k3.trans R.kp
    have hi3 : (((namesOf u).length : Nat) : Int).toNat * cost k ≤ 2 * cost k := Nat.mul_le_mul_right _ (by omega)
    have cn := R.cn
    have ln := R.len
    have lx := R.ms.1
    have hq4 : H4 q1 = some (.dK []) := R.kp _ _ q1a q1c hq1
    have Dq : D ≠ q1 := fun z => by rw [z, hq1] at nD; cases nD
    refine ⟨hq4, dictOf u D, rfl, by show 2 ≤ 15; decide, ?_⟩
    have hmk : mergeK [] (dictOf u D) = dictOf u D := rfl
    rw [hmk]
    have sx : ∀ b o, b ≠ q1 → H4 b = some o → (upd H4 q1 (.dK (dictOf u D))) b = some o := fun b o n e => by rw [upd_ne n]; exact e
    have nHD : H D = none := k3.free h3.a0 h3.c0 nD
    refine q _ S4 (.ref q1) u ds ⟨sx _ _ (Ne.symm q1a) R.st.lst, sx _ _ (Ne.symm q1c) R.st.cel, R.st.ne, R.st.len, R.st.cur0, R.st.cnt0, R.st.mix0, R.st.mix1⟩ (by omega) ?_ ?_
    · intro b o n1 n2 e
      exact sx b o (ne_of_none e nHq) (kU b o n1 n2 e)
    · refine Mo.dict (k := u) (p := D) (xs := xs) (R.ms.same (res_up fun b o n e => ⟨fun z => n (.inl (k3.has h3.a0 h3.c0 z)), sx b o (fun z => n (.inl (by rw [z]; show H3 q1 ≠ none; rw [hq1]; simp))) e⟩)) hu
        (res_in (fun z => z nHq) upd_same) (res_in (fun z => z nHD) (sx _ _ Dq R.at_)) (by omega)
/-- things and objects, by the number of calls one in another -/
theorem things {f fD fP fO : Addr} {fd fdD fdP fdO : FuncData} (F : Fun K "_law_thing" "_law_thing" sThing f fd) (bF : Binds K fd ["_law_stream", "_law_deep"] []) (mF : mg "_law_thing" = some (.ref f))
    (D : FnOk P w K mg base CX0 1 fD fdD ["_law_stream", "_law_many"] spDraw) (bD : Binds K fdD ["_law_stream", "_law_many"] []) (kD : PySem.W.keepIn K (.ref fD) = true) (mD : mg "_law_draw" = some (.ref fD))
    (G : FnOk P w K mg base CX0 2 fP fdP ["_law_stream", "_law_some"] (spPick K)) (bP : Binds K fdP ["_law_stream", "_law_some"] []) (kP : PySem.W.keepIn K (.ref fP) = true) (mP : mg "_law_pick" = some (.ref fP))
    (FO : Fun K "_law_object" "_law_object" sObj fO fdO) (bO : Binds K fdO ["_law_stream", "_law_deep"] []) (mO : mg "_law_object" = some (.ref fO))
    (mr : mg "range" = none) (mt : mg "tuple" = none) : ∀ n : Nat, FnOk P w K mg base CX0 (2 * n + 2) f fd ["_law_stream", "_law_deep"] (spThing n) ∧ FnOk P w K mg base CX0 (2 * n + 3) fO fdO ["_law_stream", "_law_deep"] (spObj n)
  | 0 => ⟨no_thing, no_obj⟩
  | n + 1 => by
    obtain ⟨h1, h2⟩ := things F bF mF D bD kD mD G bP kP mP FO bO mO mr mt n
    have h3 := ok_thing F bF mF D bD kD mD G bP kP mP bO FO.kp mO mr mt h1 h2
    exact ⟨h3, ok_obj FO D bD kD mD bF F.kp mF mr h3⟩
end
end K6
/-! part M -/
set_option maxHeartbeats 4000000
namespace K6
open PySem PySem.Spec PyProof.Rows L2
/-! ### kinds of models, walks over a list or a tuple -/
def tyM : Md → String
  | .non => "NoneType" | .int _ => "int" | .str _ => "str" | .lst _ => "list" | .tup _ => "tuple" | .obj _ _ => "dict"
def isD : Md → Bool
  | .obj _ _ => true | _ => false
def isL : Md → Bool
  | .lst _ => true | _ => false
def isT : Md → Bool
  | .tup _ => true | _ => false
section
variable {K : PySem.W.Frag}
theorem kit_D (d : Md) : PySem.W.kitOne K (.type (tyM d)) (.type "dict") = some (isD d) := by
  cases d with
  | non => exact kit_ty (a := "NoneType") (b := "dict") (r := false) (by decide +kernel)
  | int _ => exact kit_ty (a := "int") (b := "dict") (r := false) (by decide +kernel)
  | str _ => exact kit_ty (a := "str") (b := "dict") (r := false) (by decide +kernel)
  | lst _ => exact kit_ty (a := "list") (b := "dict") (r := false) (by decide +kernel)
  | tup _ => exact kit_ty (a := "tuple") (b := "dict") (r := false) (by decide +kernel)
  | obj _ _ => exact kit_ty (a := "dict") (b := "dict") (r := true) (by decide +kernel)
theorem kit_L (d : Md) : PySem.W.kitOne K (.type (tyM d)) (.type "list") = some (isL d) := by
  cases d with
  | non => exact kit_ty (a := "NoneType") (b := "list") (r := false) (by decide +kernel)
  | int _ => exact kit_ty (a := "int") (b := "list") (r := false) (by decide +kernel)
  | str _ => exact kit_ty (a := "str") (b := "list") (r := false) (by decide +kernel)
  | lst _ => exact kit_ty (a := "list") (b := "list") (r := true) (by decide +kernel)
  | tup _ => exact kit_ty (a := "tuple") (b := "list") (r := false) (by decide +kernel)
  | obj _ _ => exact kit_ty (a := "dict") (b := "list") (r := false) (by decide +kernel)
theorem kit_T (d : Md) : PySem.W.kitOne K (.type (tyM d)) (.type "tuple") = some (isT d) := by
  cases d with
  | non => exact kit_ty (a := "NoneType") (b := "tuple") (r := false) (by decide +kernel)
  | int _ => exact kit_ty (a := "int") (b := "tuple") (r := false) (by decide +kernel)
  | str _ => exact kit_ty (a := "str") (b := "tuple") (r := false) (by decide +kernel)
  | lst _ => exact kit_ty (a := "list") (b := "tuple") (r := false) (by decide +kernel)
  | tup _ => exact kit_ty (a := "tuple") (b := "tuple") (r := true) (by decide +kernel)
  | obj _ _ => exact kit_ty (a := "dict") (b := "tuple") (r := false) (by decide +kernel)
theorem kit_LT (d : Md) : PySem.W.kitAny K (.type (tyM d)) [.type "list", .type "tuple"] = some (isL d || isT d) := by
  refine kitAny_cons (kit_L d) (fun h => kitAny_cons (kit_T d) (fun h' => ?_) fun h' => by rw [h, h']; rfl) fun h => by rw [h]; rfl
  rw [h, h']
  rfl
theorem Mo.ty {H : Hp} {n : Nat} {v : V} {d : Md} (h : Mo H n v d) : TyX K H v (.type (tyM d)) := by
  have flat : Flat v d → TyX K H v (.type (tyM d)) := fun f => by
    rcases f with ⟨rfl, rfl⟩ | ⟨i, rfl, rfl⟩ | ⟨x, rfl, rfl⟩
    · exact .base .non
    · exact .base (.int i)
    · exact .base (.str x)
  cases n with
  | zero => exact flat h
  | succ n =>
    rcases h with h | ⟨a, xs, l, rfl, rfl, h3, _⟩ | ⟨a, xs, l, rfl, rfl, h3, _⟩ | ⟨a, p, i, xs, l', rfl, rfl, h3, h4, _⟩
    · exact flat h
    · exact .base (.lst h3)
    · exact .base (.tup h3)
    · exact .base (.dK h4)
theorem Mo.asLst {H : Hp} {n : Nat} {v : V} {l : List Md} (h : Mo H n v (.lst l)) : ∃ (m : Nat) (a : Addr) (xs : List V), n = m + 1 ∧ v = .ref a ∧ H a = some (.lst xs) ∧ l.length ≤ 2 ∧ Ms H m xs l := by
  cases n with
  | zero => rcases h with ⟨_, z⟩ | ⟨i, _, z⟩ | ⟨x, _, z⟩ <;> cases z
  | succ n =>
    rcases h with h | ⟨a, xs, l, h1, h2, h3, h4, h6, h5⟩ | ⟨a, xs, l, h1, h2, h3, h4, h6, h5⟩ | ⟨a, p, i, xs, l', h1, h2, h3, h4, h5, h6, h7, h8⟩
    · rcases h with ⟨_, z⟩ | ⟨i, _, z⟩ | ⟨x, _, z⟩ <;> cases z
    · cases h2
      exact ⟨n, a, xs, rfl, h1, h3, h6, h4, h5⟩
    · cases h2
    · cases h2
theorem Mo.asTup {H : Hp} {n : Nat} {v : V} {l : List Md} (h : Mo H n v (.tup l)) : ∃ (m : Nat) (a : Addr) (xs : List V), n = m + 1 ∧ v = .ref a ∧ H a = some (.tup xs) ∧ l.length ≤ 2 ∧ Ms H m xs l := by
  cases n with
  | zero => rcases h with ⟨_, z⟩ | ⟨i, _, z⟩ | ⟨x, _, z⟩ <;> cases z
  | succ n =>
    rcases h with h | ⟨a, xs, l, h1, h2, h3, h4, h6, h5⟩ | ⟨a, xs, l, h1, h2, h3, h4, h6, h5⟩ | ⟨a, p, i, xs, l', h1, h2, h3, h4, h5, h6, h7, h8⟩
    · rcases h with ⟨_, z⟩ | ⟨i, _, z⟩ | ⟨x, _, z⟩ <;> cases z
    · cases h2
    · cases h2
      exact ⟨n, a, xs, rfl, h1, h3, h6, h4, h5⟩
    · cases h2
theorem Mo.asFlat {H : Hp} {n : Nat} {v : V} {d : Md} (h : Mo H n v d) (h1 : isD d = false) (h2 : isL d = false) (h3 : isT d = false) : Flat v d := by
  cases n with
  | zero => exact h
  | succ n =>
    rcases h with h | ⟨a, xs, l, _, rfl, _⟩ | ⟨a, xs, l, _, rfl, _⟩ | ⟨a, p, i, xs, l', _, rfl, _⟩
    · exact h
    · cases h2
    · cases h3
    · cases h1
def iSeq (K : PySem.W.Frag) (tl : TE) : TI := fun σ H R => tl σ H fun x H1 => ∃ a, x = .ref a ∧ (((∃ xs, SqL K H1 a xs) ∧ R (Itl K a) H1) ∨ ((∃ xs, SqT K H1 a xs) ∧ R (Itt K a) H1))
theorem pi_seq {X : Cx} {tg l : Expr} {tl : TE} (hl : PE X l tl) : PI X tg l (iSeq X.K tl) := by
  refine ⟨fun pins s σ H R I h => ?_⟩
  refine thn (hl.run pins s σ H _ I h) fun v s1 ⟨x, H1, I1, r1, q1⟩ => ?_
  obtain ⟨a, e, q⟩ := q1
  subst e
  cases r1
  rcases q with ⟨⟨xs, hq⟩, q⟩ | ⟨⟨xs, hq⟩, q⟩
  · obtain ⟨its, rv, p, hz⟩ := I1.list hq
    refine wpAny_pyIter_list p.isList ?_
    refine ⟨s1.heap.objs.size, [s1.heap.objs.size], _, _, H1, rfl, I1.kept (t' := s1.toks) fun b o e => Heap.get?_push_of_some _ e, turn_list a _, ⟨_, Heap.get?_push_size _ rfl, rfl, rfl⟩, fun b hb => ?_, q⟩
    have e : b = s1.heap.objs.size := by simpa using hb
    subst e
    exact I1.fpOk (Nat.le_refl _) (I1.hok.fresh (Nat.le_refl _))
  · obtain ⟨its, rv, p, hz⟩ := I1.tuple hq
    refine wpAny_pyIter_tuple (show s1.heap.IsTuple a its.toArray from p) ?_
    refine ⟨s1.heap.objs.size, [s1.heap.objs.size], _, _, H1, rfl, I1.kept (t' := s1.toks) fun b o e => Heap.get?_push_of_some _ e, turn_tuple a _, ⟨_, Heap.get?_push_size _ rfl, rfl, rfl⟩, fun b hb => ?_, q⟩
    have e : b = s1.heap.objs.size := by simpa using hb
    subst e
    exact I1.fpOk (Nat.le_refl _) (I1.hok.fresh (Nat.le_refl _))
end
theorem getW {H : Hp} {a p : Addr} {k : Nat} (h : H a = some (.dK (dictOf k p))) : DGet H a (.str "word") (some (.str (wordOf k))) := DGet.k (k := Sum.inr "word") h
theorem getP {H : Hp} {a p : Addr} {k : Nat} (h : H a = some (.dK (dictOf k p))) : DGet H a (.str "parts") (some (.ref p)) := DGet.k (k := Sum.inr "parts") h
/-! ### the objects of models -/
abbrev sMade : Stmt := topS 10
abbrev nMade : List Str := ["_law_model", "_law_parts", "_law_part", "_law_found"]
theorem scMade : FnScope nMade ["_law_model"] (defScope sMade) := ⟨rfl, rfl, rfl, by decide +kernel, rfl, by decide +kernel, by decide +kernel⟩
/-- a list at D, filled with things made one by one -/
structure Made (Cs : Nat → Addr) (D : Addr) (H : Hp) (dp : Nat) (l : List Md) (i : Nat) (H3 : Hp) (ys : List V) : Prop where
  sm : Same H H3
  at_ : H3 D = some (.lst ys)
  len : ys.length = i
  ma : ∀ (j : Nat) y e, ys[j]? = some y → l[j]? = some e → Ma Cs (res (fun b => was H b ∨ b = D) H3) dp y e
theorem Made.start {Cs : Nat → Addr} {D : Addr} {H : Hp} {dp : Nat} {l : List Md} (nD : H D = none) : Made Cs D H dp l 0 (upd H D (.lst [])) [] := ⟨same_new nD, upd_same, rfl, fun j y e g => by simp at g⟩
theorem snoc_at {α β : Type} {p : α → β → Prop} {ys : List α} {l : List β} {y : α} (h : ∀ (j : Nat) y e, ys[j]? = some y → l[j]? = some e → p y e) (hn : ∀ e, l[ys.length]? = some e → p y e) : ∀ (j : Nat) z e, (ys ++ [y])[j]? = some z → l[j]? = some e → p z e := fun j z e g1 g2 => by
  by_cases hi : j < ys.length
  · rw [List.getElem?_append_left hi] at g1
    exact h j z e g1 g2
  · have li : j < (ys ++ [y]).length := by
      rcases Nat.lt_or_ge j (ys ++ [y]).length with q | q
      · exact q
      · rw [List.getElem?_eq_none q] at g1; cases g1
    rw [List.length_append, List.length_singleton] at li
    have e1 : j = ys.length := by omega
    subst e1
    rw [List.getElem?_append_right (Nat.le_refl _), Nat.sub_self] at g1
    cases g1
    exact hn e g2
theorem Made.step {Cs : Nat → Addr} {D : Addr} {H H3 H4 : Hp} {dp i : Nat} {l : List Md} {ys : List V} {r : V} {d : Md} (nD : H D = none) (M : Made Cs D H dp l i H3 ys) (hd : l[i]? = some d) (s4 : Same H3 H4) (m4 : Ma Cs (res (was H3) H4) dp r d) :
    H4 D = some (.lst ys) ∧ Made Cs D H dp l (i + 1) (upd H4 D (.lst (ys ++ [r]))) (ys ++ [r]) := by
  have hD4 := s4 _ _ M.at_
  have n3 : ∀ b, ¬ was H3 b → b ≠ D := fun b n z => n (by rw [z]; show H3 D ≠ none; rw [M.at_]; simp)
  refine ⟨hD4, fun b o e => ?_, upd_same, by rw [List.length_append, M.len]; rfl, ?_⟩
  · rw [upd_ne (ne_of_none e nD)]
    exact s4 _ _ (M.sm _ _ e)
  · refine snoc_at (fun j y e g1 g2 => (M.ma j y e g1 g2).same (res_up fun b o n e => ⟨n, ?_⟩)) fun e he => ?_
    · rw [upd_ne fun z => n (.inr z)]
      exact s4 _ _ e
    · rw [M.len, hd] at he
      cases he
      refine m4.same (res_up fun b o n e => ⟨fun z => ?_, ?_⟩)
      · rcases z with z | z
        · obtain ⟨o', e'⟩ := Option.ne_none_iff_exists'.mp z
          exact n (by show H3 b ≠ none; rw [M.sm _ _ e']; simp)
        · exact n3 b n z
      · rw [upd_ne (n3 b n)]
        exact e
theorem Made.out {Cs : Nat → Addr} {D : Addr} {H H0 H3 H4 : Hp} {dp i : Nat} {l : List Md} {ys : List V} (s0 : Same H0 H) (nD : H D = none) (M : Made Cs D H dp l i H3 ys) (s4 : Same H3 H4) :
    (∀ (j : Nat) y e, ys[j]? = some y → l[j]? = some e → Ma Cs (res (was H0) H4) dp y e) ∧ res (was H0) H4 D = some (.lst ys) := by
  have w0 : ∀ b, was H0 b → was H b := fun b z => by
    obtain ⟨o', e'⟩ := Option.ne_none_iff_exists'.mp z
    show H b ≠ none
    rw [s0 _ _ e']; simp
  exact ⟨fun j y e g1 g2 => (M.ma j y e g1 g2).same (res_up fun b o n e => ⟨fun z => n (.inl (w0 b z)), s4 _ _ e⟩), res_in (fun z => w0 D z nD) (s4 _ _ M.at_)⟩
def spMade (Cs : Nat → Addr) (n : Nat) : Sp := fun vs H Q _ => ∃ (v : V) (d : Md) (m : Nat), vs = [v] ∧ n = m + 1 ∧ Mo H m v d ∧ ∀ (H' : Hp) (r : V), Same H H' → Ma Cs (res (was H) H') m r d → Q r H'
theorem ma_flat {Cs : Nat → Addr} {H : Hp} {n : Nat} {v : V} {d : Md} (h : Flat v d) : Ma Cs H n v d := by
  cases n with
  | zero => exact h
  | succ n => exact .inl h
end K6
/-! part O -/
set_option maxHeartbeats 4000000
namespace K6
open PySem PySem.Spec PyProof.Rows L2
/-- what the module's other names hold: nothing, so the built-in ones stand -/
structure Blt (mg : Str → Option Value) : Prop where
  rg : mg "range" = none
  tp : mg "tuple" = none
  ls : mg "list" = none
  dc : mg "dict" = none
  ln : mg "len" = none
  zp : mg "zip" = none
  al : mg "all" = none
  it : mg "int" = none
/-- the makers of the four classes -/
structure Mks (P : Program) (w : World) (K : PySem.W.Frag) (mg : Str → Option Value) (base : Heap) (Cs fI : Nat → Addr) (fdI : Nat → FuncData) : Prop where
  mk0 : PySem.W.makesIn K (Cs 0) = true
  i0 : PySem.W.findIn K (.ref (Cs 0)) "__init__" = some (some (.builtin "object.__init__"))
  k0 : PySem.W.keepIn K (.ref (Cs 0)) = true
  mk1 : Mk K (Cs 1) (fI 1)
  mk2 : Mk K (Cs 2) (fI 2)
  mk3 : Mk K (Cs 3) (fI 3)
  f1 : FnOk P w K mg base CX0 1 (fI 1) (fdI 1) ["self", "mantissa", "exponent"] (spIniW (Cs 1) (namesOf 1))
  f2 : FnOk P w K mg base CX0 1 (fI 2) (fdI 2) ["self", "number"] (spIniW (Cs 2) (namesOf 2))
  f3 : FnOk P w K mg base CX0 1 (fI 3) (fdI 3) ["self", "numbers"] (spIniW (Cs 3) (namesOf 3))
  b1 : Binds K (fdI 1) ["self", "mantissa", "exponent"] []
  b2 : Binds K (fdI 2) ["self", "number"] []
  b3 : Binds K (fdI 3) ["self", "numbers"] []
theorem made_ins {H H3 H' : Hp} {x dx : Addr} {o : HO} {C : Addr} (s : Same H H3) (nx : H3 x = none) (ndx : H3 dx = none) (hx : H' x = some o) (ho : ∀ b, b ≠ x → H' b = (upd (upd H3 dx (.own x)) x (.ins C dx [])) b) :
    Same H3 H' ∧ res (was H) H' x = some o := by
  have s3 : Same H3 H' := fun b u e => by
    have n1 : b ≠ x := ne_of_none e nx
    have n2 : b ≠ dx := ne_of_none e ndx
    rw [ho b n1, upd_ne n1, upd_ne n2, e]
  refine ⟨s3, res_in (fun z => ?_) hx⟩
  obtain ⟨o', e'⟩ := Option.ne_none_iff_exists'.mp z
  rw [s _ _ e'] at nx
  cases nx
section
variable {P : Program} {w : World} {K : PySem.W.Frag} {mg : Str → Option Value} {base : Heap} {Cs fE fI : Nat → Addr} {fdI : Nat → FuncData}
theorem no_made {f : Addr} {fd : FuncData} {k : Nat} : FnOk P w K mg base CX0 k f fd ["_law_model"] (spMade Cs 0) := by
  have no : ∀ vs H Q E, ¬ spMade Cs 0 vs H Q E := fun vs H Q E h => by
    obtain ⟨v, d, m, _, h1, _⟩ := h
    omega
  exact ⟨fun vs H Q E h => absurd h (no vs H Q E), fun A outer s H args us vs Q E _ _ _ _ h => absurd h (no vs H Q E)⟩
theorem word_ne : ∀ i j, i < 4 → j < 4 → (wordOf i = wordOf j ↔ i = j) := by
  intro i j hi hj
  have all : ∀ i : Fin 4, ∀ j : Fin 4, (wordOf i.1 = wordOf j.1 ↔ i.1 = j.1) := by decide +kernel
  exact all ⟨i, hi⟩ ⟨j, hj⟩
theorem ok_made {f : Addr} {fd : FuncData} (F : Fun K "_law_made" "_law_made" sMade f fd) (bF : Binds K fd ["_law_model"] []) (mF : mg "_law_made" = some (.ref f)) (T : Txt K Cs fE) (G : Glo K mg Cs) (Z : Blt mg) (M : Mks P w K mg base Cs fI fdI)
    {n : Nat} (ih : FnOk P w K mg base CX0 (n + 2) f fd ["_law_model"] (spMade Cs n)) : FnOk P w K mg base CX0 (n + 3) f fd ["_law_model"] (spMade Cs (n + 1)) := by
  refine F.ok scMade (fun vs H Q E h => ?_) (fun cdv A outer s H vs Q E hr h => ?_)
  · obtain ⟨v, d, m, rfl, _⟩ := h
    rfl
  obtain ⟨v, d, m, rfl, hm, hd, q⟩ := h
  obtain rfl : m = n := by omega
  have hr2 : Room 2 _ := hr.mono (by omega)
  refine ⟨_, C8.pss_cut (ps_if (pt_val (pe_callB call_isi (by rfl) G.zI (by decide +kernel) (pa_cons (pv 0) (pa_cons (pe_bltn (v := .ty "dict") (by rfl) Z.dc (by decide +kernel) rfl) pa_nil))))
      (pss_cons (ps_setLc (i := 1) (own := [("_law_part", 2)]) (g := gName 2) (tt := tYes) rfl scMade.nd rfl rfl (sw_true rfl rfl rfl (by decide +kernel)) (pi_list (pe_dget (hu_of hr) (pv 0) pe_str (fun _ _ => rfl)))
        (blkOk_by (own := [("_law_part", 2)]) (N := nMade) (sc := defScope sMade) (by decide +kernel)) (fun _ _ _ _ _ => pg_name (i := 2) scMade.nd rfl (.inl rfl)) (fun _ _ _ _ _ => pts_nil)
        (fun _ _ _ _ _ => pe_call ih hr rfl mF F.kp bF .nil pass0 (pa_cons (pv 2) pa_nil)))
      (pss_cons (ps_if (pt_cmpR op_eq (pe_dget (hu_of hr) (pv 0) pe_str (fun _ _ => rfl)) pe_str (nomark _)) (pss_one (ps_ret (pe_makeE M.mk0 M.i0 (T.obj (by decide)) M.k0 rfl G.g0))) pss_nil)
      (pss_cons (ps_if (pt_cmpR op_eq (pe_dget (hu_of hr) (pv 0) pe_str (fun _ _ => rfl)) pe_str (nomark _)) (pss_one (ps_ret (pe_make M.mk1 M.f1 hr2 rfl G.g1 M.b1 .nil pass0 (pa_cons (pe_ix ix_list (pv 1) pe_int (fun _ _ => rfl)) (pa_cons (pe_ix ix_list (pv 1) pe_int (fun _ _ => rfl)) pa_nil))))) pss_nil)
      (pss_one (ps_ret (pe_ifExp (pt_cmpR op_eq (pe_dget (hu_of hr) (pv 0) pe_str (fun _ _ => rfl)) pe_str (nomark _))
        (pe_make M.mk2 M.f2 hr2 rfl G.g2 M.b2 .nil pass0 (pa_cons (pe_ix ix_list (pv 1) pe_int (fun _ _ => rfl)) pa_nil))
        (pe_make M.mk3 M.f3 hr2 rfl G.g3 M.b3 .nil pass0 (pa_cons (pe_ix ix_list (pv 1) pe_int (fun _ _ => rfl)) pa_nil)))))))) pss_nil)
    (C8.pss_cut (ps_if (pt_val (pe_callB call_isiT (by rfl) G.zI (by decide +kernel) (pa_cons (pv 0) (pa_cons (pe_tup (pa_cons (pe_bltn (v := .ty "list") (by rfl) Z.ls (by decide +kernel) rfl) (pa_cons (pe_bltn (v := .ty "tuple") (by rfl) Z.tp (by decide +kernel) rfl) pa_nil))) pa_nil))))
      (pss_cons (ps_setLc (i := 3) (own := [("_law_part", 2)]) (g := gName 2) (tt := tYes) rfl scMade.nd rfl rfl (sw_true rfl rfl rfl (by decide +kernel)) (pi_seq (pv 0))
        (blkOk_by (own := [("_law_part", 2)]) (N := nMade) (sc := defScope sMade) (by decide +kernel)) (fun _ _ _ _ _ => pg_name (i := 2) scMade.nd rfl (.inl rfl)) (fun _ _ _ _ _ => pts_nil)
        (fun _ _ _ _ _ => pe_call ih hr rfl mF F.kp bF .nil pass0 (pa_cons (pv 2) pa_nil)))
      (pss_one (ps_ret (pe_ifExp (pt_val (pe_callB call_isi (by rfl) G.zI (by decide +kernel) (pa_cons (pv 0) (pa_cons (pe_bltn (v := .ty "list") (by rfl) Z.ls (by decide +kernel) rfl) pa_nil)))) (pv 3) (pe_callTy call_tuple_of (by rfl) Z.tp (by decide +kernel) (pa_cons (pv 3) pa_nil)))))) pss_nil)
    (pss_one (ps_ret (pv 0)))), ?_⟩
  refine ⟨fun σ H2 => σ = [some v, none, none, none] ∧ H2 = H ∧ isD d = false, ?_, ?_⟩
  · refine ⟨_, rfl, v, .ty "dict", _, _, _, rfl, .ty _, hd.ty, kit_D d, _, rfl, ?_⟩
    cases d with
    | obj k l =>
      refine iteT ?_
      obtain ⟨j, a, p, xs, rfl, rfl, hk, ha, hp, hl, ms⟩ := hd.asObj
      refine ⟨_, rfl, a, _, rfl, getP ha, p, rfl, ⟨_, SqL.of hp⟩, fun D nD => ?_⟩
      refine lc_list (K := K) (a := p) (xs := xs) (fun i H3 => ∃ ys, Made Cs D H j l i H3 ys) ⟨_, .start nD⟩ (fun i H3 hi ⟨ys, R⟩ => SqL.of (R.sm _ _ hp)) ?_ ?_
      · rintro i x H3 hx ⟨ys, R⟩
        obtain ⟨e, he⟩ : ∃ e, l[i]? = some e := by
          have hi : i < xs.length := by
            rcases Nat.lt_or_ge i xs.length with q | q
            · exact q
            · rw [List.getElem?_eq_none q] at hx; cases hx
          exact ⟨_, List.getElem?_eq_getElem (by rw [← ms.1]; exact hi)⟩
        refine ⟨rfl, ?_⟩
        unfold tYes
        refine iteT ?_
        refine ⟨_, rfl, x, e, j, rfl, rfl, (ms.2 i x e hx he).same R.sm, fun H4 r s4 m4 => ?_⟩
        obtain ⟨hD4, R'⟩ := R.step nD he s4 m4
        have ln := R.len
        have hi : i < xs.length := by
          rcases Nat.lt_or_ge i xs.length with q | q
          · exact q
          · rw [List.getElem?_eq_none q] at hx; cases hx
        have m1 := ms.1
        have hn2 : (namesOf k).length ≤ 2 := by
          rcases k with _ | _ | _ | _ | k
          · decide
          · decide
          · decide
          · decide
          · omega
        exact ⟨ys, hD4, Nat.lt_of_le_of_lt (by omega : ys.length ≤ 3) (by decide), _, R'⟩
      · rintro H3 ⟨ys, R⟩
        have ln := R.len
        have m1 := ms.1
        have ha3 := R.sm _ _ ha
        have ly : ys.length = l.length := by omega
        obtain ⟨mo, -⟩ := R.out (Same.refl H) nD (Same.refl H3)
        have go : ∀ (x dx : Addr) (H' : Hp), H3 x = none → H3 dx = none → H' x = some (.ins (Cs k) dx ((namesOf k).zip ys)) → (∀ b, b ≠ x → H' b = (upd (upd H3 dx (.own x)) x (.ins (Cs k) dx [])) b) → Q (.ref x) H' := fun x dx H' nx ndx hx ho => by
          obtain ⟨s3, hx'⟩ := made_ins R.sm nx ndx hx ho
          exact q H' (.ref x) (R.sm.trans s3) (.inr (.inr (.inr ⟨x, dx, k, ys, l, rfl, rfl, hk, hx', ly, hl, fun i y e g1 g2 => (mo i y e g1 g2).same (res_up fun b o n e => ⟨n, s3 _ _ e⟩)⟩)))
        refine ⟨_, rfl, a, _, rfl, getW ha3, rfl, _, rfl, ?_⟩
        refine ite2 (fun c0 => ?_) (fun c0 => ?_)
        · have k0 : k = 0 := (word_ne k 0 hk (by decide)).mp (show wordOf k = ("dots" : Str) by simpa using c0)
          subst k0
          refine fun x dx nx ndx ne => go x dx _ nx ndx ?_ fun b hb => rfl
          rw [upd_same]
          rfl
        · have k0 : k ≠ 0 := fun z => by rw [z] at c0; simp [wordOf] at c0
          refine ⟨_, rfl, a, _, rfl, getW ha3, rfl, _, rfl, ?_⟩
          refine ite2 (fun c1 => ?_) (fun c1 => ?_)
          · have k1 : k = 1 := (word_ne k 1 hk (by decide)).mp (show wordOf k = ("float" : Str) by simpa using c1)
            subst k1
            obtain ⟨y0, y1, rfl⟩ := len2 (show ys.length = 2 by rw [ly, hl]; rfl)
            refine ⟨_, rfl, D, _, _, _, rfl, rfl, SqL.of R.at_, rfl, _, rfl, D, _, _, _, rfl, rfl, SqL.of R.at_, rfl, fun x dx nx ndx ne => ?_⟩
            exact ⟨x, dx, [y0, y1], rfl, rfl, upd_same, fun H' h1 h2 => ⟨rfl, go x dx H' nx ndx h1 h2⟩⟩
          · have k1 : k ≠ 1 := fun z => by rw [z] at c1; simp [wordOf] at c1
            refine ⟨_, rfl, a, _, rfl, getW ha3, rfl, _, rfl, ?_⟩
            refine ite2 (fun c2 => ?_) (fun c2 => ?_)
            · have k2 : k = 2 := (word_ne k 2 hk (by decide)).mp (show wordOf k = ("imaginary" : Str) by simpa using c2)
              subst k2
              obtain ⟨y0, rfl⟩ := len1 (show ys.length = 1 by rw [ly, hl]; rfl)
              refine ⟨_, rfl, D, _, _, _, rfl, rfl, SqL.of R.at_, rfl, fun x dx nx ndx ne => ?_⟩
              exact ⟨x, dx, [y0], rfl, rfl, upd_same, fun H' h1 h2 => ⟨rfl, go x dx H' nx ndx h1 h2⟩⟩
            · have k3 : k = 3 := by
                have k2 : k ≠ 2 := fun z => by rw [z] at c2; simp [wordOf] at c2
                omega
              subst k3
              obtain ⟨y0, rfl⟩ := len1 (show ys.length = 1 by rw [ly, hl]; rfl)
              refine ⟨_, rfl, D, _, _, _, rfl, rfl, SqL.of R.at_, rfl, fun x dx nx ndx ne => ?_⟩
              exact ⟨x, dx, [y0], rfl, rfl, upd_same, fun H' h1 h2 => ⟨rfl, go x dx H' nx ndx h1 h2⟩⟩
    | _ => exact iteF ⟨rfl, rfl, rfl⟩
  · rintro σ H2 ⟨rfl, rfl, nd⟩
    refine ⟨fun σ H3 => σ = [some v, none, none, none] ∧ Same H2 H3 ∧ isL d = false ∧ isT d = false, ?_, ?_⟩
    · refine ⟨_, rfl, by show 2 ≤ sizeLine; decide, fun tp ntp => ?_⟩
      have s1 := same_new (o := .tup [.ty "list", .ty "tuple"]) ntp
      refine ⟨v, tp, _, _, _, _, rfl, upd_same, .cons (.ty _) (.cons (.ty _) .nil), (hd.same s1).ty, kit_LT d, _, rfl, ?_⟩
      have hd1 := hd.same s1
      generalize upd H2 tp (.tup [.ty "list", .ty "tuple"]) = H1 at s1 hd1
      cases d with
      | lst l =>
        refine iteT ?_
        obtain ⟨j, a, xs, rfl, rfl, ha, hll, ms⟩ := hd1.asLst
        refine ⟨_, rfl, a, rfl, .inl ⟨⟨_, SqL.of ha⟩, fun D nD => ?_⟩⟩
        refine lc_list (K := K) (a := a) (xs := xs) (fun i H3 => ∃ ys, Made Cs D H1 j l i H3 ys) ⟨_, .start nD⟩ (fun i H3 hi ⟨ys, R⟩ => SqL.of (R.sm _ _ ha)) ?_ ?_
        · rintro i x H3 hx ⟨ys, R⟩
          have hi : i < xs.length := by
            rcases Nat.lt_or_ge i xs.length with q | q
            · exact q
            · rw [List.getElem?_eq_none q] at hx; cases hx
          obtain ⟨e, he⟩ : ∃ e, l[i]? = some e := ⟨_, List.getElem?_eq_getElem (by rw [← ms.1]; exact hi)⟩
          refine ⟨rfl, ?_⟩
          unfold tYes
          refine iteT ?_
          refine ⟨_, rfl, x, e, j, rfl, rfl, (ms.2 i x e hx he).same R.sm, fun H4 r s4 m4 => ?_⟩
          obtain ⟨hD4, R'⟩ := R.step nD he s4 m4
          have ln := R.len
          have m1 := ms.1
          exact ⟨ys, hD4, Nat.lt_of_le_of_lt (by omega : ys.length ≤ 3) (by decide), _, R'⟩
        · rintro H3 ⟨ys, R⟩
          have ln := R.len
          have m1 := ms.1
          have ly : ys.length = l.length := by omega
          refine ⟨_, rfl, _, .ty "list", _, _, _, rfl, .ty _, (hd1.same R.sm).ty, kit_L _, _, rfl, ?_⟩
          refine iteT ?_
          obtain ⟨mo, hD⟩ := R.out s1 nD (Same.refl H3)
          exact ⟨_, rfl, q H3 (.ref D) (s1.trans R.sm) (.inr (.inl ⟨D, ys, l, rfl, rfl, hD, ly, mo⟩))⟩
      | tup l =>
        refine iteT ?_
        obtain ⟨j, a, xs, rfl, rfl, ha, hll, ms⟩ := hd1.asTup
        refine ⟨_, rfl, a, rfl, .inr ⟨⟨_, SqT.of ha⟩, fun D nD => ?_⟩⟩
        refine lc_tup (K := K) (a := a) (xs := xs) (fun i H3 => ∃ ys, Made Cs D H1 j l i H3 ys) ⟨_, .start nD⟩ (fun i H3 hi ⟨ys, R⟩ => SqT.of (R.sm _ _ ha)) ?_ ?_
        · rintro i x H3 hx ⟨ys, R⟩
          have hi : i < xs.length := by
            rcases Nat.lt_or_ge i xs.length with q | q
            · exact q
            · rw [List.getElem?_eq_none q] at hx; cases hx
          obtain ⟨e, he⟩ : ∃ e, l[i]? = some e := ⟨_, List.getElem?_eq_getElem (by rw [← ms.1]; exact hi)⟩
          refine ⟨rfl, ?_⟩
          unfold tYes
          refine iteT ?_
          refine ⟨_, rfl, x, e, j, rfl, rfl, (ms.2 i x e hx he).same R.sm, fun H4 r s4 m4 => ?_⟩
          obtain ⟨hD4, R'⟩ := R.step nD he s4 m4
          have ln := R.len
          have m1 := ms.1
          exact ⟨ys, hD4, Nat.lt_of_le_of_lt (by omega : ys.length ≤ 3) (by decide), _, R'⟩
        · rintro H3 ⟨ys, R⟩
          have ln := R.len
          have m1 := ms.1
          have ly : ys.length = l.length := by omega
          refine ⟨_, rfl, _, .ty "list", _, _, _, rfl, .ty _, (hd1.same R.sm).ty, kit_L _, _, rfl, ?_⟩
          refine iteF ?_
          refine ⟨_, rfl, D, _, rfl, .inl ⟨SqL.of R.at_, fun t nt => ?_⟩⟩
          have st := same_new (o := .tup ys) nt
          obtain ⟨mo, hD⟩ := R.out s1 nD st
          refine q _ (.ref t) ((s1.trans R.sm).trans st) (.inr (.inr (.inl ⟨t, ys, l, rfl, rfl, res_in (fun z => ?_) upd_same, ly, mo⟩)))
          obtain ⟨o', e'⟩ := Option.ne_none_iff_exists'.mp z
          rw [(s1.trans R.sm) _ _ e'] at nt
          cases nt
      | obj k l => cases nd
      | _ => exact iteF ⟨rfl, s1, rfl, rfl⟩
    · rintro σ H3 ⟨rfl, s3, n1, n2⟩
      exact ⟨_, rfl, q H3 v s3 (ma_flat (hd.asFlat nd n1 n2))⟩
theorem mades {f : Addr} {fd : FuncData} (F : Fun K "_law_made" "_law_made" sMade f fd) (bF : Binds K fd ["_law_model"] []) (mF : mg "_law_made" = some (.ref f)) (T : Txt K Cs fE) (G : Glo K mg Cs) (Z : Blt mg) (M : Mks P w K mg base Cs fI fdI) :
    ∀ n : Nat, FnOk P w K mg base CX0 (n + 2) f fd ["_law_model"] (spMade Cs n)
  | 0 => no_made
  | n + 1 => ok_made F bF mF T G Z M (mades F bF mF T G Z M n)
end
end K6
/-! part P -/
set_option maxHeartbeats 4000000
namespace K6
open PySem PySem.Spec PyProof.Rows L2 RZ
/-! ### when models are alike -/
abbrev sAlike : Stmt := topS 13
abbrev nAlike : List Str := ["_law_one", "_law_other", "_law_first", "_law_second"]
theorem scAlike : FnScope nAlike ["_law_one", "_law_other"] (defScope sAlike) := ⟨rfl, rfl, rfl, by decide +kernel, rfl, by decide +kernel, by decide +kernel⟩
theorem walk_zipT {K : PySem.W.Frag} {a b : Addr} {xs ys : List V} {n : Nat} (hn : n = min xs.length ys.length) : Walk (ItzT K a b) n (fun H => SqT K H a xs ∧ SqT K H b ys) (YPair (fun i => xs[i]?) (fun i => ys[i]?)) := by
  refine ⟨fun i H hi q => ⟨xs, ys, xs[i]'(by omega), ys[i]'(by omega), q.1, q.2, by simp, by simp⟩, fun H q => ⟨xs, ys, q.1, q.2, by omega⟩, fun i H x H' _ q y => ?_⟩
  obtain ⟨T, x', y', h1, h2, h3, h4, h5⟩ := y
  exact ⟨T, x', y', h1, h2, h3, h4 xs q.1, h5 ys q.2⟩
theorem flat_eq {x y : V} {d e : Md} (hx : Flat x d) (hy : Flat y e) : scal x y = true ∧ decide (x = y) = eqM d e := by
  rcases hx with ⟨rfl, rfl⟩ | ⟨i, rfl, rfl⟩ | ⟨z, rfl, rfl⟩ <;> rcases hy with ⟨rfl, rfl⟩ | ⟨j, rfl, rfl⟩ | ⟨u, rfl, rfl⟩
  · exact ⟨rfl, by rw [eqM]; simp⟩
  · exact ⟨rfl, by rw [eqM]; simp⟩
  · exact ⟨rfl, by rw [eqM]; simp⟩
  · exact ⟨rfl, by rw [eqM]; simp⟩
  · refine ⟨rfl, ?_⟩
    rw [eqM]
    by_cases h : i = j
    · rw [h]; simp
    · simp [h]
  · exact ⟨rfl, by rw [eqM]; simp⟩
  · exact ⟨rfl, by rw [eqM]; simp⟩
  · exact ⟨rfl, by rw [eqM]; simp⟩
  · refine ⟨rfl, ?_⟩
    rw [eqM]
    by_cases h : z = u
    · rw [h]; simp
    · simp [h]
/-- the answers so far, in the list at D -/
structure Alk (D : Addr) (H : Hp) (l m : List Md) (i : Nat) (H3 : Hp) (bs : List Bool) : Prop where
  sm : Same H H3
  at_ : H3 D = some (.lst (bs.map V.bl))
  eq : bs = (List.range i).map (eqAt l m)
theorem Alk.start {D : Addr} {H : Hp} {l m : List Md} (nD : H D = none) : Alk D H l m 0 (upd H D (.lst [])) [] := ⟨same_new nD, upd_same, rfl⟩
theorem Alk.step {D T : Addr} {H H3 H4 : Hp} {l m : List Md} {i : Nat} {bs : List Bool} {o : HO} (nD : H D = none) (A : Alk D H l m i H3 bs) (nT : H3 T = none) (s4 : Same (upd H3 T o) H4) :
    H4 D = some (.lst (bs.map V.bl)) ∧ Alk D H l m (i + 1) (upd H4 D (.lst (bs.map V.bl ++ [V.bl (eqAt l m i)]))) (bs ++ [eqAt l m i]) := by
  refine ⟨s4 _ _ (same_new nT _ _ A.at_), fun b u e => ?_, by rw [upd_same, List.map_append]; rfl, by rw [A.eq, List.range_succ, List.map_append]; rfl⟩
  rw [upd_ne (ne_of_none e nD)]
  exact s4 _ _ (same_new nT _ _ (A.sm _ _ e))
theorem all_at {l m : List Md} (h : l.length = m.length) : ((List.range l.length).map (eqAt l m)).all id = eqL l m := by
  rw [eqL_all h, List.all_map]
  rfl
theorem getD_at {l : List Md} {i : Nat} {e : Md} (h : l[i]? = some e) : l.getD i .non = e := by
  rw [List.getD_eq_getElem?_getD, h]
  rfl
def spAlike (n : Nat) : Sp := fun vs H Q _ => ∃ (x y : V) (d e : Md) (m : Nat), vs = [x, y] ∧ n = m + 1 ∧ Mo H m x d ∧ Mo H m y e ∧ ∀ H', Same H H' → Q (.bl (eqM d e)) H'
theorem ms_at {H : Hp} {n i : Nat} {xs : List V} {l : List Md} {x : V} (h : Ms H n xs l) (g : xs[i]? = some x) : ∃ e, l[i]? = some e ∧ Mo H n x e := by
  have hi : i < xs.length := by
    rcases Nat.lt_or_ge i xs.length with q | q
    · exact q
    · rw [List.getElem?_eq_none q] at g; cases g
  have e := List.getElem?_eq_getElem (l := l) (i := i) (by rw [← h.1]; exact hi)
  exact ⟨_, e, h.2 i x _ g e⟩
theorem isD_obj {d : Md} (h : isD d = true) : ∃ j l, d = .obj j l := by
  cases d <;> first | exact ⟨_, _, rfl⟩ | cases h
theorem isL_lst {d : Md} (h : isL d = true) : ∃ l, d = .lst l := by
  cases d <;> first | exact ⟨_, rfl⟩ | cases h
theorem isT_tup {d : Md} (h : isT d = true) : ∃ l, d = .tup l := by
  cases d <;> first | exact ⟨_, rfl⟩ | cases h
theorem eqM_kinds {d e : Md} (h : eqM d e = true) : isD d = isD e ∧ isL d = isL e ∧ isT d = isT e := by
  cases d <;> cases e <;> first | exact ⟨rfl, rfl, rfl⟩ | (rw [eqM] at h; cases h)
theorem eqM_off {d e : Md} (h : ¬ (isD d = isD e ∧ isL d = isL e ∧ isT d = isT e)) : eqM d e = false := by
  cases z : eqM d e with
  | false => rfl
  | true => exact absurd (eqM_kinds z) h
section
variable {P : Program} {w : World} {K : PySem.W.Frag} {mg : Str → Option Value} {base : Heap} {Cs : Nat → Addr}
theorem no_alike {f : Addr} {fd : FuncData} {k : Nat} : FnOk P w K mg base CX0 k f fd ["_law_one", "_law_other"] (spAlike 0) := by
  have no : ∀ vs H Q E, ¬ spAlike 0 vs H Q E := fun vs H Q E h => by
    obtain ⟨x, y, d, e, m, _, h1, _⟩ := h
    omega
  exact ⟨fun vs H Q E h => absurd h (no vs H Q E), fun A outer s H args us vs Q E _ _ _ _ h => absurd h (no vs H Q E)⟩
theorem ok_alike {f : Addr} {fd : FuncData} (F : Fun K "_law_alike" "_law_alike" sAlike f fd) (bF : Binds K fd ["_law_one", "_law_other"] []) (mF : mg "_law_alike" = some (.ref f)) (zI : mg "isinstance" = none) (Z : Blt mg)
    {n : Nat} (ih : FnOk P w K mg base CX0 (n + 1) f fd ["_law_one", "_law_other"] (spAlike n)) : FnOk P w K mg base CX0 (n + 2) f fd ["_law_one", "_law_other"] (spAlike (n + 1)) := by
  refine F.ok scAlike (fun vs H Q E h => ?_) (fun cdv A outer s H vs Q E hr h => ?_)
  · obtain ⟨x, y, d, e, m, rfl, _⟩ := h
    rfl
  obtain ⟨x, y, d, e, m, rfl, hm, hx, hy, q⟩ := h
  obtain rfl : m = n := by omega
  refine ⟨_, C8.pss_cut (ps_if (PW.pt (pw_or (pt_val (pe_callB call_isi (by rfl) zI (by decide +kernel) (pa_cons (pv 0) (pa_cons (pe_bltn (v := .ty "dict") (by rfl) Z.dc (by decide +kernel) rfl) pa_nil))))
        (pw_or1 (pt_val (pe_callB call_isi (by rfl) zI (by decide +kernel) (pa_cons (pv 1) (pa_cons (pe_bltn (v := .ty "dict") (by rfl) Z.dc (by decide +kernel) rfl) pa_nil)))))))
      (pss_cons (ps_if (PW.pt (pw_or (pt_not (pt_val (pe_callB call_isi (by rfl) zI (by decide +kernel) (pa_cons (pv 0) (pa_cons (pe_bltn (v := .ty "dict") (by rfl) Z.dc (by decide +kernel) rfl) pa_nil)))))
          (pw_or (pt_not (pt_val (pe_callB call_isi (by rfl) zI (by decide +kernel) (pa_cons (pv 1) (pa_cons (pe_bltn (v := .ty "dict") (by rfl) Z.dc (by decide +kernel) rfl) pa_nil)))))
          (pw_or1 (pt_cmpR op_ne (pe_dget (hu_of hr) (pv 0) pe_str (fun _ _ => rfl)) (pe_dget (hu_of hr) (pv 1) pe_str (fun _ _ => rfl)) (nomark _)))))) (pss_one (ps_ret pe_bl)) pss_nil)
      (pss_one (ps_ret (pe_callB (cr_all rfl) (by rfl) Z.al (by decide +kernel) (pa_cons (pe_lc (own := [("_law_first", 2), ("_law_second", 3)]) (g := gTup K 2 (gCons (gName 2) (gCons (gName 3) gNil))) (tt := tYes) rfl scAlike.nd
          (pi_zipA rfl Z.zp (pa_cons (pe_dget (hu_of hr) (pv 0) pe_str (fun _ _ => rfl)) (pa_cons (pe_dget (hu_of hr) (pv 1) pe_str (fun _ _ => rfl)) pa_nil)))
          (blkOk_by (own := [("_law_first", 2), ("_law_second", 3)]) (N := nAlike) (sc := defScope sAlike) (by decide +kernel)) (fun _ _ _ _ _ => pg_tup rfl (pgs_cons (pg_name (i := 2) scAlike.nd rfl (.inl rfl)) (pgs_cons (pg_name (i := 3) scAlike.nd rfl (.inl rfl)) pgs_nil))) (fun _ _ _ _ _ => pts_nil)
          (fun _ _ _ _ _ => pe_call ih hr rfl mF F.kp bF .nil pass0 (pa_cons (pv 2) (pa_cons (pv 3) pa_nil)))) pa_nil))))) pss_nil)
    (C8.pss_cut (ps_if (PW.pt (pw_or (pt_val (pe_callB call_isiT (by rfl) zI (by decide +kernel) (pa_cons (pv 0) (pa_cons (pe_tup (pa_cons (pe_bltn (v := .ty "list") (by rfl) Z.ls (by decide +kernel) rfl) (pa_cons (pe_bltn (v := .ty "tuple") (by rfl) Z.tp (by decide +kernel) rfl) pa_nil))) pa_nil))))
        (pw_or1 (pt_val (pe_callB call_isiT (by rfl) zI (by decide +kernel) (pa_cons (pv 1) (pa_cons (pe_tup (pa_cons (pe_bltn (v := .ty "list") (by rfl) Z.ls (by decide +kernel) rfl) (pa_cons (pe_bltn (v := .ty "tuple") (by rfl) Z.tp (by decide +kernel) rfl) pa_nil))) pa_nil)))))))
      (pss_cons (ps_if (PW.pt (pw_or (pt_cmpR op_ne (pe_callB call_isi (by rfl) zI (by decide +kernel) (pa_cons (pv 0) (pa_cons (pe_bltn (v := .ty "list") (by rfl) Z.ls (by decide +kernel) rfl) pa_nil))) (pe_callB call_isi (by rfl) zI (by decide +kernel) (pa_cons (pv 1) (pa_cons (pe_bltn (v := .ty "list") (by rfl) Z.ls (by decide +kernel) rfl) pa_nil))) (nomark _))
          (pw_or1 (pt_cmpR op_ne (pe_callB call_isi (by rfl) zI (by decide +kernel) (pa_cons (pv 0) (pa_cons (pe_bltn (v := .ty "tuple") (by rfl) Z.tp (by decide +kernel) rfl) pa_nil))) (pe_callB call_isi (by rfl) zI (by decide +kernel) (pa_cons (pv 1) (pa_cons (pe_bltn (v := .ty "tuple") (by rfl) Z.tp (by decide +kernel) rfl) pa_nil))) (nomark _))))) (pss_one (ps_ret pe_bl)) pss_nil)
      (pss_one (ps_ret (pe_and (pe_cmpR op_eq (pe_callB call_len_seq rfl Z.ln PySem.boot_len (pa_cons (pv 0) pa_nil)) (pe_callB call_len_seq rfl Z.ln PySem.boot_len (pa_cons (pv 1) pa_nil)) (nomark _))
          (pe_one (pe_callB (cr_all rfl) (by rfl) Z.al (by decide +kernel) (pa_cons (pe_lc (own := [("_law_first", 2), ("_law_second", 3)]) (g := gTup K 2 (gCons (gName 2) (gCons (gName 3) gNil))) (tt := tYes) rfl scAlike.nd
          (pi_zipA rfl Z.zp (pa_cons (pv 0) (pa_cons (pv 1) pa_nil)))
          (blkOk_by (own := [("_law_first", 2), ("_law_second", 3)]) (N := nAlike) (sc := defScope sAlike) (by decide +kernel)) (fun _ _ _ _ _ => pg_tup rfl (pgs_cons (pg_name (i := 2) scAlike.nd rfl (.inl rfl)) (pgs_cons (pg_name (i := 3) scAlike.nd rfl (.inl rfl)) pgs_nil))) (fun _ _ _ _ _ => pts_nil)
          (fun _ _ _ _ _ => pe_call ih hr rfl mF F.kp bF .nil pass0 (pa_cons (pv 2) (pa_cons (pv 3) pa_nil)))) pa_nil))))))) pss_nil)
    (pss_one (ps_ret (pe_cmpR op_eq (pv 0) (pv 1) (nomark _))))), ?_⟩
  have no : ∀ H', Same H H' → eqM d e = false → Q (.bl false) H' := fun H' s z => by
    rw [← z]
    exact q H' s
  have kd := kit_D (K := K) d
  have ke := kit_D (K := K) e
  refine ⟨fun σ H2 => σ = [some x, some y, none, none] ∧ H2 = H ∧ isD d = false ∧ isD e = false, ?_, ?_⟩
  · cases hdd : isD d with
    | false =>
      rw [hdd] at kd
      refine ⟨_, rfl, x, .ty "dict", _, _, _, rfl, .ty _, hx.ty, kd, _, rfl, iteF ?_⟩
      cases hee : isD e with
      | false =>
        rw [hee] at ke
        exact ⟨_, rfl, y, .ty "dict", _, _, _, rfl, .ty _, hy.ty, ke, _, rfl, iteF ⟨rfl, rfl, rfl, rfl⟩⟩
      | true =>
        rw [hee] at ke
        refine ⟨_, rfl, y, .ty "dict", _, _, _, rfl, .ty _, hy.ty, ke, _, rfl, iteT ?_⟩
        refine ⟨_, rfl, x, .ty "dict", _, _, _, rfl, .ty _, hx.ty, kd, _, rfl, iteT ?_⟩
        exact iteT (no H (Same.refl H) (eqM_off fun z => by rw [hdd, hee] at z; cases z.1))
    | true =>
      rw [hdd] at kd
      refine ⟨_, rfl, x, .ty "dict", _, _, _, rfl, .ty _, hx.ty, kd, _, rfl, iteT ?_⟩
      refine iteT ?_
      refine ⟨_, rfl, x, .ty "dict", _, _, _, rfl, .ty _, hx.ty, kd, _, rfl, iteF ?_⟩
      cases hee : isD e with
      | false =>
        rw [hee] at ke
        refine ⟨_, rfl, y, .ty "dict", _, _, _, rfl, .ty _, hy.ty, ke, _, rfl, iteT ?_⟩
        exact iteT (no H (Same.refl H) (eqM_off fun z => by rw [hdd, hee] at z; cases z.1))
      | true =>
        rw [hee] at ke
        refine ⟨_, rfl, y, .ty "dict", _, _, _, rfl, .ty _, hy.ty, ke, _, rfl, iteF ?_⟩
        obtain ⟨u, l, rfl⟩ := isD_obj hdd
        obtain ⟨v, l', rfl⟩ := isD_obj hee
        obtain ⟨j, a, p, xs, rfl, rfl, hu, ha, hp, hl, ms⟩ := hx.asObj
        obtain ⟨j', b, p', ys, hj, rfl, hv, hb, hp', hl', ms'⟩ := hy.asObj
        obtain rfl : j = j' := by omega
        refine ⟨_, rfl, a, _, rfl, getW ha, _, rfl, b, _, rfl, getW hb, rfl, _, rfl, ?_⟩
        refine ite2 (fun c => ?_) (fun c => ?_)
        · have huv : u ≠ v := fun z => by rw [z] at c; simp at c
          refine no H (Same.refl H) ?_
          rw [eqM]
          simp [huv]
        · have huv : u = v := (word_ne u v hu hv).mp (by simpa using c)
          subst huv
          have hll : l.length = l'.length := by omega
          have m1 := ms.1
          have m2 := ms'.1
          have ed : eqM (.obj u l) (.obj u l') = eqL l l' := by rw [eqM]; simp
          have hn2 : (namesOf u).length ≤ 2 := by
            rcases u with _ | _ | _ | _ | u
            · decide
            · decide
            · decide
            · decide
            · omega
          have mn : min xs.length ys.length = l.length := by omega
          refine ⟨_, rfl, a, _, rfl, getP ha, _, rfl, b, _, rfl, getP hb, p, p', xs, ys, rfl, .inl ⟨SqL.of hp, SqL.of hp', fun D nD => ?_⟩⟩
          refine lc_it (walk_zip (xs := xs) (ys := ys) rfl) (fun i H3 => ∃ bs, Alk D H l l' i H3 bs) ⟨_, .start nD⟩ (fun i H3 hi ⟨bs, A⟩ => ⟨SqL.of (A.sm _ _ hp), SqL.of (A.sm _ _ hp')⟩) ?_ ?_
          · rintro i z H3 H3' hi ⟨bs, A⟩ ⟨T, x', y', rfl, nT, rfl, g1, g2⟩
            obtain ⟨d', f1, md⟩ := ms_at ms g1
            obtain ⟨e', f2, me⟩ := ms_at ms' g2
            refine ⟨T, [x', y'], rfl, SqT.of upd_same, rfl, x', [y'], rfl, y', [], rfl, rfl, rfl, ?_⟩
            unfold tYes
            refine iteT ?_
            refine ⟨_, rfl, _, rfl, x', y', d', e', j, rfl, rfl, (md.same A.sm).same (same_new nT), (me.same A.sm).same (same_new nT), fun H4 s4 => ?_⟩
            have ea : eqAt l l' i = eqM d' e' := by
              unfold eqAt
              rw [getD_at f1, getD_at f2]
            obtain ⟨hD4, A'⟩ := A.step nD nT s4
            rw [ea] at A'
            have hb : bs.length = i := by rw [A.eq]; simp
            refine ⟨_, hD4, ?_, _, A'⟩
            rw [List.length_map, hb]
            exact Nat.lt_of_le_of_lt (by omega : i ≤ 3) (by decide)
          · rintro H3 ⟨bs, A⟩
            refine ⟨D, bs, rfl, SqL.of A.at_, ?_⟩
            have hall : bs.all id = eqL l l' := by
              rw [A.eq, mn, ← all_at hll]
            rw [hall, ← ed]
            exact q H3 (A.sm)
  · rintro σ H2 ⟨rfl, rfl, n1, n2⟩
    have kl := kit_LT (K := K) d
    have kl' := kit_LT (K := K) e
    have k1 := kit_L (K := K) d
    have k1' := kit_L (K := K) e
    have k2 := kit_T (K := K) d
    have k2' := kit_T (K := K) e
    refine ⟨fun σ H3 => σ = [some x, some y, none, none] ∧ Same H2 H3 ∧ (isL d || isT d) = false ∧ (isL e || isT e) = false, ?_, ?_⟩
    · refine ⟨_, rfl, by show 2 ≤ sizeLine; decide, fun tp ntp => ?_⟩
      have s0 := same_new (o := .tup [.ty "list", .ty "tuple"]) ntp
      refine ⟨x, tp, _, _, _, _, rfl, upd_same, .cons (.ty _) (.cons (.ty _) .nil), (hx.same s0).ty, kl, _, rfl, ?_⟩
      generalize upd H2 tp (.tup [.ty "list", .ty "tuple"]) = Hc at s0
      have sc := s0
      cases hs : (isL d || isT d) with
      | true =>
        have hor : (isL d || isT d || (isL e || isT e)) = true := by rw [hs]; rfl
        refine iteT (iteT ?_)
        have hxc := hx.same sc
        have hyc := hy.same sc
        refine ⟨_, rfl, x, .ty "list", _, _, _, rfl, .ty _, hxc.ty, k1, _, rfl, y, .ty "list", _, _, _, rfl, .ty _, hyc.ty, k1', rfl, _, rfl, ?_⟩
        by_cases c1 : isL d = isL e
        · have hc1 : (!decide (V.bl (isL d) = V.bl (isL e))) = false := by rw [c1]; simp
          rw [hc1]
          refine iteF ?_
          refine ⟨_, rfl, x, .ty "tuple", _, _, _, rfl, .ty _, hxc.ty, k2, _, rfl, y, .ty "tuple", _, _, _, rfl, .ty _, hyc.ty, k2', rfl, _, rfl, ?_⟩
          by_cases c2 : isT d = isT e
          · have hc2 : (!decide (V.bl (isT d) = V.bl (isT e))) = false := by rw [c2]; simp
            rw [hc2]
            refine iteF ?_
            cases hk : isL d with
            | true =>
              have hk' : isL e = true := by rw [← c1, hk]
              obtain ⟨l, rfl⟩ := isL_lst hk
              obtain ⟨l', rfl⟩ := isL_lst hk'
              obtain ⟨j, a, xs, hj, rfl, hp, hl2, ms⟩ := hxc.asLst
              obtain ⟨j', b, ys, hj', rfl, hp', hl2', ms'⟩ := hyc.asLst
              obtain rfl : j = j' := by omega
              subst hj
              have m1 := ms.1
              have m2 := ms'.1
              have ed : eqM (.lst l) (.lst l') = eqL l l' := by rw [eqM]
              refine ⟨_, rfl, a, xs, rfl, .inl (SqL.of hp), _, rfl, b, ys, rfl, .inl (SqL.of hp'), rfl, _, rfl, ?_⟩
              by_cases hll : l.length = l'.length
              · have hd1 : decide (V.int (xs.length : Nat) = V.int (ys.length : Nat)) = true := decide_eq_true (by rw [m1, m2, hll])
                rw [hd1]
                refine iteT ?_
                have mn : min xs.length ys.length = l.length := by omega
                refine ⟨_, rfl, _, rfl, a, b, xs, ys, rfl, .inl ⟨SqL.of hp, SqL.of hp', fun D nD => ?_⟩⟩
                refine lc_it (walk_zip (xs := xs) (ys := ys) rfl) (fun i H3 => ∃ bs, Alk D Hc l l' i H3 bs) ⟨_, .start nD⟩ (fun i H3 hi ⟨bs, A⟩ => ⟨SqL.of (A.sm _ _ hp), SqL.of (A.sm _ _ hp')⟩) ?_ ?_
                · rintro i z H3 H3' hi ⟨bs, A⟩ ⟨T, x', y', rfl, nT, rfl, g1, g2⟩
                  obtain ⟨d', f1, md⟩ := ms_at ms g1
                  obtain ⟨e', f2, me⟩ := ms_at ms' g2
                  refine ⟨T, [x', y'], rfl, SqT.of upd_same, rfl, x', [y'], rfl, y', [], rfl, rfl, rfl, ?_⟩
                  unfold tYes
                  refine iteT ?_
                  refine ⟨_, rfl, _, rfl, x', y', d', e', j, rfl, rfl, (md.same A.sm).same (same_new nT), (me.same A.sm).same (same_new nT), fun H4 s4 => ?_⟩
                  have ea : eqAt l l' i = eqM d' e' := by
                    unfold eqAt
                    rw [getD_at f1, getD_at f2]
                  obtain ⟨hD4, A'⟩ := A.step nD nT s4
                  rw [ea] at A'
                  have hb : bs.length = i := by rw [A.eq]; simp
                  refine ⟨_, hD4, ?_, _, A'⟩
                  rw [List.length_map, hb]
                  exact Nat.lt_of_le_of_lt (by omega : i ≤ 3) (by decide)
                · rintro H3 ⟨bs, A⟩
                  refine ⟨D, bs, rfl, SqL.of A.at_, ?_⟩
                  have hall : bs.all id = eqL l l' := by
                    rw [A.eq, mn, ← all_at hll]
                  rw [hall, ← ed]
                  exact q H3 (sc.trans A.sm)
              · have hd1 : decide (V.int (xs.length : Nat) = V.int (ys.length : Nat)) = false := decide_eq_false (fun z => hll (by injection z with z; omega))
                rw [hd1]
                refine iteF (no Hc sc ?_)
                rw [ed, eqL_ne hll]
            | false =>
              cases hk : isT d with
              | true =>
                have hk' : isT e = true := by rw [← c2, hk]
                obtain ⟨l, rfl⟩ := isT_tup hk
                obtain ⟨l', rfl⟩ := isT_tup hk'
                obtain ⟨j, a, xs, hj, rfl, hp, hl2, ms⟩ := hxc.asTup
                obtain ⟨j', b, ys, hj', rfl, hp', hl2', ms'⟩ := hyc.asTup
                obtain rfl : j = j' := by omega
                subst hj
                have m1 := ms.1
                have m2 := ms'.1
                have ed : eqM (.tup l) (.tup l') = eqL l l' := by rw [eqM]
                refine ⟨_, rfl, a, xs, rfl, .inr (SqT.of hp), _, rfl, b, ys, rfl, .inr (SqT.of hp'), rfl, _, rfl, ?_⟩
                by_cases hll : l.length = l'.length
                · have hd1 : decide (V.int (xs.length : Nat) = V.int (ys.length : Nat)) = true := decide_eq_true (by rw [m1, m2, hll])
                  rw [hd1]
                  refine iteT ?_
                  have mn : min xs.length ys.length = l.length := by omega
                  refine ⟨_, rfl, _, rfl, a, b, xs, ys, rfl, .inr ⟨SqT.of hp, SqT.of hp', fun D nD => ?_⟩⟩
                  refine lc_it (walk_zipT (xs := xs) (ys := ys) rfl) (fun i H3 => ∃ bs, Alk D Hc l l' i H3 bs) ⟨_, .start nD⟩ (fun i H3 hi ⟨bs, A⟩ => ⟨SqT.of (A.sm _ _ hp), SqT.of (A.sm _ _ hp')⟩) ?_ ?_
                  · rintro i z H3 H3' hi ⟨bs, A⟩ ⟨T, x', y', rfl, nT, rfl, g1, g2⟩
                    obtain ⟨d', f1, md⟩ := ms_at ms g1
                    obtain ⟨e', f2, me⟩ := ms_at ms' g2
                    refine ⟨T, [x', y'], rfl, SqT.of upd_same, rfl, x', [y'], rfl, y', [], rfl, rfl, rfl, ?_⟩
                    unfold tYes
                    refine iteT ?_
                    refine ⟨_, rfl, _, rfl, x', y', d', e', j, rfl, rfl, (md.same A.sm).same (same_new nT), (me.same A.sm).same (same_new nT), fun H4 s4 => ?_⟩
                    have ea : eqAt l l' i = eqM d' e' := by
                      unfold eqAt
                      rw [getD_at f1, getD_at f2]
                    obtain ⟨hD4, A'⟩ := A.step nD nT s4
                    rw [ea] at A'
                    have hb : bs.length = i := by rw [A.eq]; simp
                    refine ⟨_, hD4, ?_, _, A'⟩
                    rw [List.length_map, hb]
                    exact Nat.lt_of_le_of_lt (by omega : i ≤ 3) (by decide)
                  · rintro H3 ⟨bs, A⟩
                    refine ⟨D, bs, rfl, SqL.of A.at_, ?_⟩
                    have hall : bs.all id = eqL l l' := by
                      rw [A.eq, mn, ← all_at hll]
                    rw [hall, ← ed]
                    exact q H3 (sc.trans A.sm)
                · have hd1 : decide (V.int (xs.length : Nat) = V.int (ys.length : Nat)) = false := decide_eq_false (fun z => hll (by injection z with z; omega))
                  rw [hd1]
                  refine iteF (no Hc sc ?_)
                  rw [ed, eqL_ne hll]
              | false => rw [← c1, ← c2] at hor; simp_all
          · have hc2 : (!decide (V.bl (isT d) = V.bl (isT e))) = true := by
              have : V.bl (isT d) ≠ V.bl (isT e) := fun z => c2 (by injection z)
              simp [this]
            rw [hc2]
            exact iteT (no Hc sc (eqM_off fun z => c2 z.2.2))
        · have hc1 : (!decide (V.bl (isL d) = V.bl (isL e))) = true := by
            have : V.bl (isL d) ≠ V.bl (isL e) := fun z => c1 (by injection z)
            simp [this]
          rw [hc1]
          exact iteT (iteT (no Hc sc (eqM_off fun z => c1 z.2.1)))
      | false =>
        refine iteF ?_
        refine ⟨_, rfl, by show 2 ≤ sizeLine; decide, fun tp2 ntp2 => ?_⟩
        have s1 := s0.trans (same_new (o := .tup [.ty "list", .ty "tuple"]) ntp2)
        refine ⟨y, tp2, _, _, _, _, rfl, upd_same, .cons (.ty _) (.cons (.ty _) .nil), (hy.same s1).ty, kl', _, rfl, ?_⟩
        generalize upd Hc tp2 (.tup [.ty "list", .ty "tuple"]) = Hc at s1
        have sc := s1
        cases hs' : (isL e || isT e) with
        | true =>
          have hor : (isL d || isT d || (isL e || isT e)) = true := by rw [hs']; simp
          refine iteT ?_
          have hxc := hx.same sc
          have hyc := hy.same sc
          refine ⟨_, rfl, x, .ty "list", _, _, _, rfl, .ty _, hxc.ty, k1, _, rfl, y, .ty "list", _, _, _, rfl, .ty _, hyc.ty, k1', rfl, _, rfl, ?_⟩
          by_cases c1 : isL d = isL e
          · have hc1 : (!decide (V.bl (isL d) = V.bl (isL e))) = false := by rw [c1]; simp
            rw [hc1]
            refine iteF ?_
            refine ⟨_, rfl, x, .ty "tuple", _, _, _, rfl, .ty _, hxc.ty, k2, _, rfl, y, .ty "tuple", _, _, _, rfl, .ty _, hyc.ty, k2', rfl, _, rfl, ?_⟩
            by_cases c2 : isT d = isT e
            · have hc2 : (!decide (V.bl (isT d) = V.bl (isT e))) = false := by rw [c2]; simp
              rw [hc2]
              refine iteF ?_
              cases hk : isL d with
              | true =>
                have hk' : isL e = true := by rw [← c1, hk]
                obtain ⟨l, rfl⟩ := isL_lst hk
                obtain ⟨l', rfl⟩ := isL_lst hk'
                obtain ⟨j, a, xs, hj, rfl, hp, hl2, ms⟩ := hxc.asLst
                obtain ⟨j', b, ys, hj', rfl, hp', hl2', ms'⟩ := hyc.asLst
                obtain rfl : j = j' := by omega
                subst hj
                have m1 := ms.1
                have m2 := ms'.1
                have ed : eqM (.lst l) (.lst l') = eqL l l' := by rw [eqM]
                refine ⟨_, rfl, a, xs, rfl, .inl (SqL.of hp), _, rfl, b, ys, rfl, .inl (SqL.of hp'), rfl, _, rfl, ?_⟩
                by_cases hll : l.length = l'.length
                · have hd1 : decide (V.int (xs.length : Nat) = V.int (ys.length : Nat)) = true := decide_eq_true (by rw [m1, m2, hll])
                  rw [hd1]
                  refine iteT ?_
                  have mn : min xs.length ys.length = l.length := by omega
                  refine ⟨_, rfl, _, rfl, a, b, xs, ys, rfl, .inl ⟨SqL.of hp, SqL.of hp', fun D nD => ?_⟩⟩
                  refine lc_it (walk_zip (xs := xs) (ys := ys) rfl) (fun i H3 => ∃ bs, Alk D Hc l l' i H3 bs) ⟨_, .start nD⟩ (fun i H3 hi ⟨bs, A⟩ => ⟨SqL.of (A.sm _ _ hp), SqL.of (A.sm _ _ hp')⟩) ?_ ?_
                  · rintro i z H3 H3' hi ⟨bs, A⟩ ⟨T, x', y', rfl, nT, rfl, g1, g2⟩
                    obtain ⟨d', f1, md⟩ := ms_at ms g1
                    obtain ⟨e', f2, me⟩ := ms_at ms' g2
                    refine ⟨T, [x', y'], rfl, SqT.of upd_same, rfl, x', [y'], rfl, y', [], rfl, rfl, rfl, ?_⟩
                    unfold tYes
                    refine iteT ?_
                    refine ⟨_, rfl, _, rfl, x', y', d', e', j, rfl, rfl, (md.same A.sm).same (same_new nT), (me.same A.sm).same (same_new nT), fun H4 s4 => ?_⟩
                    have ea : eqAt l l' i = eqM d' e' := by
                      unfold eqAt
                      rw [getD_at f1, getD_at f2]
                    obtain ⟨hD4, A'⟩ := A.step nD nT s4
                    rw [ea] at A'
                    have hb : bs.length = i := by rw [A.eq]; simp
                    refine ⟨_, hD4, ?_, _, A'⟩
                    rw [List.length_map, hb]
                    exact Nat.lt_of_le_of_lt (by omega : i ≤ 3) (by decide)
                  · rintro H3 ⟨bs, A⟩
                    refine ⟨D, bs, rfl, SqL.of A.at_, ?_⟩
                    have hall : bs.all id = eqL l l' := by
                      rw [A.eq, mn, ← all_at hll]
                    rw [hall, ← ed]
                    exact q H3 (sc.trans A.sm)
                · have hd1 : decide (V.int (xs.length : Nat) = V.int (ys.length : Nat)) = false := decide_eq_false (fun z => hll (by injection z with z; omega))
                  rw [hd1]
                  refine iteF (no Hc sc ?_)
                  rw [ed, eqL_ne hll]
              | false =>
                cases hk : isT d with
                | true =>
                  have hk' : isT e = true := by rw [← c2, hk]
                  obtain ⟨l, rfl⟩ := isT_tup hk
                  obtain ⟨l', rfl⟩ := isT_tup hk'
                  obtain ⟨j, a, xs, hj, rfl, hp, hl2, ms⟩ := hxc.asTup
                  obtain ⟨j', b, ys, hj', rfl, hp', hl2', ms'⟩ := hyc.asTup
                  obtain rfl : j = j' := by omega
                  subst hj
                  have m1 := ms.1
                  have m2 := ms'.1
                  have ed : eqM (.tup l) (.tup l') = eqL l l' := by rw [eqM]
                  refine ⟨_, rfl, a, xs, rfl, .inr (SqT.of hp), _, rfl, b, ys, rfl, .inr (SqT.of hp'), rfl, _, rfl, ?_⟩
                  by_cases hll : l.length = l'.length
                  · have hd1 : decide (V.int (xs.length : Nat) = V.int (ys.length : Nat)) = true := decide_eq_true (by rw [m1, m2, hll])
                    rw [hd1]
                    refine iteT ?_
                    have mn : min xs.length ys.length = l.length := by omega
                    refine ⟨_, rfl, _, rfl, a, b, xs, ys, rfl, .inr ⟨SqT.of hp, SqT.of hp', fun D nD => ?_⟩⟩
                    refine lc_it (walk_zipT (xs := xs) (ys := ys) rfl) (fun i H3 => ∃ bs, Alk D Hc l l' i H3 bs) ⟨_, .start nD⟩ (fun i H3 hi ⟨bs, A⟩ => ⟨SqT.of (A.sm _ _ hp), SqT.of (A.sm _ _ hp')⟩) ?_ ?_
                    · rintro i z H3 H3' hi ⟨bs, A⟩ ⟨T, x', y', rfl, nT, rfl, g1, g2⟩
                      obtain ⟨d', f1, md⟩ := ms_at ms g1
                      obtain ⟨e', f2, me⟩ := ms_at ms' g2
                      refine ⟨T, [x', y'], rfl, SqT.of upd_same, rfl, x', [y'], rfl, y', [], rfl, rfl, rfl, ?_⟩
                      unfold tYes
                      refine iteT ?_
                      refine ⟨_, rfl, _, rfl, x', y', d', e', j, rfl, rfl, (md.same A.sm).same (same_new nT), (me.same A.sm).same (same_new nT), fun H4 s4 => ?_⟩
                      have ea : eqAt l l' i = eqM d' e' := by
                        unfold eqAt
                        rw [getD_at f1, getD_at f2]
                      obtain ⟨hD4, A'⟩ := A.step nD nT s4
                      rw [ea] at A'
                      have hb : bs.length = i := by rw [A.eq]; simp
                      refine ⟨_, hD4, ?_, _, A'⟩
                      rw [List.length_map, hb]
                      exact Nat.lt_of_le_of_lt (by omega : i ≤ 3) (by decide)
                    · rintro H3 ⟨bs, A⟩
                      refine ⟨D, bs, rfl, SqL.of A.at_, ?_⟩
                      have hall : bs.all id = eqL l l' := by
                        rw [A.eq, mn, ← all_at hll]
                      rw [hall, ← ed]
                      exact q H3 (sc.trans A.sm)
                  · have hd1 : decide (V.int (xs.length : Nat) = V.int (ys.length : Nat)) = false := decide_eq_false (fun z => hll (by injection z with z; omega))
                    rw [hd1]
                    refine iteF (no Hc sc ?_)
                    rw [ed, eqL_ne hll]
                | false => rw [← c1, ← c2] at hor; simp_all
            · have hc2 : (!decide (V.bl (isT d) = V.bl (isT e))) = true := by
                have : V.bl (isT d) ≠ V.bl (isT e) := fun z => c2 (by injection z)
                simp [this]
              rw [hc2]
              exact iteT (no Hc sc (eqM_off fun z => c2 z.2.2))
          · have hc1 : (!decide (V.bl (isL d) = V.bl (isL e))) = true := by
              have : V.bl (isL d) ≠ V.bl (isL e) := fun z => c1 (by injection z)
              simp [this]
            rw [hc1]
            exact iteT (iteT (no Hc sc (eqM_off fun z => c1 z.2.1)))
        | false => exact iteF ⟨rfl, sc, rfl, rfl⟩
    · rintro σ H3 ⟨rfl, s3, n3, n4⟩
      obtain ⟨z1, z2⟩ := Bool.or_eq_false_iff.mp n3
      obtain ⟨z3, z4⟩ := Bool.or_eq_false_iff.mp n4
      obtain ⟨f1, f2⟩ := flat_eq (hx.asFlat n1 z1 z2) (hy.asFlat n2 z3 z4)
      refine ⟨_, rfl, _, rfl, f1, ?_⟩
      rw [f2]
      exact q H3 s3
theorem alikes {f : Addr} {fd : FuncData} (F : Fun K "_law_alike" "_law_alike" sAlike f fd) (bF : Binds K fd ["_law_one", "_law_other"] []) (mF : mg "_law_alike" = some (.ref f)) (zI : mg "isinstance" = none) (Z : Blt mg) :
    ∀ n : Nat, FnOk P w K mg base CX0 (n + 1) f fd ["_law_one", "_law_other"] (spAlike n)
  | 0 => no_alike
  | n + 1 => ok_alike F bF mF zI Z (alikes F bF mF zI Z n)
end
end K6
/-! part Q -/
set_option maxHeartbeats 4000000
namespace K6
open PySem PySem.Spec PyProof.Rows L2
/-- list != [] -/
def rNeE : R2 := fun x y H Q => ∃ (a b : Addr) (xs : List V), x = .ref a ∧ y = .ref b ∧ H a = some (.lst xs) ∧ H b = some (.lst []) ∧ Q (.bl (!xs.isEmpty)) H
theorem op_neE {X : Cx} (hu : X.A.units + 64 < cLine) : OpR X (compareOp .NotEq) rNeE := by
  intro pins s σ H x y v u Q I rx ry h
  obtain ⟨a, b, xs, rfl, rfl, ha, hb, q⟩ := h
  cases xs with
  | nil => exact op_neD hu pins s σ H _ _ v u Q I rx ry ⟨.list [], .list [], .lst (SqL.of ha) .nil, .lst (SqL.of hb) .nil, rfl, rfl, q⟩
  | cons z r =>
    cases rx
    cases ry
    obtain ⟨_, its, k, rr, g⟩ := I.hok a _ ha
    obtain ⟨_, its2, k2, rr2, g2⟩ := I.hok b _ hb
    refine SeqAt.RcNeAt.lists_lengths (items := its.toArray) (items2 := its2.toArray) ⟨_, g, rfl, k, rfl⟩ ⟨_, g2, rfl, k2, rfl⟩ ?_ (by omega) X.prog X.w X.xe _ ⟨.bl true, H, I, rfl, q⟩
    rw [List.size_toArray, List.size_toArray, ← rr.length, ← rr2.length]
    simp
theorem ixN_nat {n j : Nat} (hj : j < n) : ixN n (j : Int) = some j := by
  unfold ixN
  rw [if_pos (by omega), if_pos (by omega)]; simp
theorem set_at {α β : Type} {p : α → β → Prop} {xs : List α} {l : List β} {k : Nat} {r : α} {d : β} (h : ∀ (i : Nat) x e, xs[i]? = some x → l[i]? = some e → p x e) (hn : p r d) : ∀ (i : Nat) x e, (xs.set k r)[i]? = some x → (l.set k d)[i]? = some e → p x e := fun i x e g1 g2 => by
  by_cases hi : k = i
  · subst hi
    rw [List.getElem?_set] at g1 g2
    rw [if_pos rfl] at g1 g2
    split at g1
    · split at g2
      · cases g1
        cases g2
        exact hn
      · cases g2
    · cases g1
  · rw [List.getElem?_set_ne hi] at g1 g2
    exact h i x e g1 g2
/-- a row of models, one of them exchanged, in a copy at L -/
theorem chg_items {a c L : Addr} {B : Addr → Prop} {H H2 H4 H7 : Hp} {S2 : Stm} {xs : List V} {l : List Md} {j k : Nat} {r : V} {d' : Md} (Ba : B a) (Bc : B c) (h2 : StmAt H2 a c S2) (kH : Kept a c H H2) (ms : Ms (res B H2) j xs l) (nL : H2 L = none)
    (k4 : Kept a c (upd H2 L (.lst xs)) H4) (m4 : Mo (res (fun b => (B b ∨ b = L) ∧ was (upd H2 L (.lst xs)) b) H4) (j + 2) r d') (s7 : ∀ b o, b ≠ L → b ≠ a → b ≠ c → H4 b = some o → H7 b = some o) :
    Ms (res (fun b => B b ∧ was H b) H7) (j + 2) (xs.set k r) (l.set k d') := by
  refine ⟨by rw [List.length_set, List.length_set, ms.1], set_at (fun i x e g1 g2 => ((ms.2 i x e g1 g2).mono (by omega)).same (res_up fun b o n e => ⟨fun z => n z.1, ?_⟩)) (m4.same (res_up fun b o n e => ?_))⟩
  · have nb : b ≠ L := ne_of_none e nL
    exact s7 b o nb (fun z => n (z ▸ Ba)) (fun z => n (z ▸ Bc)) (k4 b o (fun z => n (z ▸ Ba)) (fun z => n (z ▸ Bc)) (by rw [upd_ne nb]; exact e))
  · have nb : b ≠ L := fun z => n ⟨.inr z, by show upd H2 L (.lst xs) b ≠ none; rw [z, upd_same]; simp⟩
    refine ⟨fun z => n ⟨.inl z.1, ?_⟩, s7 b o nb (fun z => n ⟨.inl (z ▸ Ba), ?_⟩) (fun z => n ⟨.inl (z ▸ Bc), ?_⟩) e⟩
    rotate_left
    · rw [z]; exact (h2.keep (same_new nL)).a0
    · rw [z]; exact (h2.keep (same_new nL)).c0
    show upd H2 L (.lst xs) b ≠ none
    rw [upd_ne nb]
    exact kH.has h2.a0 h2.c0 z.2
abbrev sChg : Stmt := topS 11
abbrev nChg : List Str := ["_law_stream", "_law_model", "_law_k", "_law_parts", "_law_found"]
theorem scChg : FnScope nChg ["_law_stream", "_law_model"] (defScope sChg) := ⟨rfl, rfl, rfl, by decide +kernel, rfl, by decide +kernel, by decide +kernel⟩
def ccost (m : Nat) : Nat := 10 + 5 * m
def spChg (n : Nat) : Sp := fun vs H Q _ => ∃ (a c : Addr) (S : Stm) (B : Addr → Prop) (v : V) (d : Md) (m : Nat), vs = [.ref a, v] ∧ n = m + 1 ∧ m ≤ 100 ∧ StmAt H a c S ∧ B a ∧ B c ∧ Mo (res B H) m v d ∧ S.cnt + (ccost m : Nat) < 1000000 ∧
  ∀ (H' : Hp) (S' : Stm) (v' : V) (d' : Md), StmAt H' a c S' → S'.cnt ≤ S.cnt + (ccost m : Nat) → Kept a c H H' → Mo (res (fun b => B b ∧ was H b) H') (m + 2) v' d' → Q v' H'
section
variable {P : Program} {w : World} {K : PySem.W.Frag} {mg : Str → Option Value} {base : Heap}
theorem no_chg {f : Addr} {fd : FuncData} {k : Nat} : FnOk P w K mg base CX0 k f fd ["_law_stream", "_law_model"] (spChg 0) := by
  have no : ∀ vs H Q E, ¬ spChg 0 vs H Q E := fun vs H Q E h => by
    obtain ⟨a, c, S, B, v, d, m, _, h1, _⟩ := h
    omega
  exact ⟨fun vs H Q E h => absurd h (no vs H Q E), fun A outer s H args us vs Q E _ _ _ _ h => absurd h (no vs H Q E)⟩
theorem ok_chg {f fD fT : Addr} {fd fdD fdT : FuncData} (F : Fun K "_law_changed" "_law_changed" sChg f fd) (bF : Binds K fd ["_law_stream", "_law_model"] []) (mF : mg "_law_changed" = some (.ref f))
    (D : FnOk P w K mg base CX0 1 fD fdD ["_law_stream", "_law_many"] spDraw) (bD : Binds K fdD ["_law_stream", "_law_many"] []) (kD : PySem.W.keepIn K (.ref fD) = true) (mD : mg "_law_draw" = some (.ref fD))
    (Th : FnOk P w K mg base CX0 6 fT fdT ["_law_stream", "_law_deep"] (spThing 2)) (bT : Binds K fdT ["_law_stream", "_law_deep"] []) (kT : PySem.W.keepIn K (.ref fT) = true) (mT : mg "_law_thing" = some (.ref fT))
    (zI : mg "isinstance" = none) (Z : Blt mg)
    {n : Nat} (ih : FnOk P w K mg base CX0 (n + 6) f fd ["_law_stream", "_law_model"] (spChg n)) : FnOk P w K mg base CX0 (n + 7) f fd ["_law_stream", "_law_model"] (spChg (n + 1)) := by
  refine F.ok scChg (fun vs H Q E h => ?_) (fun cdv A outer s H vs Q E hr h => ?_)
  · obtain ⟨a, c, S, B, v, d, m, rfl, _⟩ := h
    rfl
  obtain ⟨a, c, S, B, v, d, m, rfl, hm, hm1, hS, Ba, Bc, hv, hcnt, q⟩ := h
  obtain rfl : m = n := by omega
  have hr1 : Room 1 _ := hr.mono (by omega)
  have hr6 : Room 6 _ := hr.mono (by omega)
  refine ⟨_, C8.pss_cut (ps_if (PW.pt (pw_and (pt_val (pe_callB call_isi (by rfl) zI (by decide +kernel) (pa_cons (pv 1) (pa_cons (pe_bltn (v := .ty "dict") (by rfl) Z.dc (by decide +kernel) rfl) pa_nil))))
        (pw_and (pt_cmpR (op_neE hr.units) (pe_dget (hu_of hr) (pv 1) pe_str (fun _ _ => rfl)) (pe_lst pa_nil) (nomark _))
        (pw_and1 (pt_cmpR op_gt (pe_call D hr1 rfl mD kD bD .nil pass0 (pa_cons (pv 0) (pa_cons pe_int pa_nil))) pe_int (nomark _))))))
      (pss_cons (ps_set (i := 2) scChg.nd rfl (.inl rfl) (pe_call D hr1 rfl mD kD bD .nil pass0 (pa_cons (pv 0) (pa_cons (pe_callB call_len_seq rfl Z.ln PySem.boot_len (pa_cons (pe_dget (hu_of hr) (pv 1) pe_str (fun _ _ => rfl)) pa_nil)) pa_nil))))
      (pss_cons (ps_set (i := 3) scChg.nd rfl (.inl rfl) (pe_callTy call_list_of (by rfl) Z.ls (by decide +kernel) (pa_cons (pe_dget (hu_of hr) (pv 1) pe_str (fun _ _ => rfl)) pa_nil)))
      (pss_cons (ps_asg (pe_call ih hr rfl mF F.kp bF .nil pass0 (pa_cons (pv 0) (pa_cons (pe_ix ix_list (pv 3) (pv 2) (fun _ _ => rfl)) pa_nil))) (pg_sub (pv 3) (pv 2) set_list))
      (pss_one (ps_ret (pe_disp (pps_cons pe_str (pe_dget (hu_of hr) (pv 1) pe_str (fun _ _ => rfl)) (pps_cons pe_str (pv 3) pps_nil)) (by rfl) (by rfl) (fun z => by cases z) (by decide))))))) pss_nil)
    (C8.pss_cut (ps_if (PW.pt (pw_and (pt_val (pe_callB call_isiT (by rfl) zI (by decide +kernel) (pa_cons (pv 1) (pa_cons (pe_tup (pa_cons (pe_bltn (v := .ty "list") (by rfl) Z.ls (by decide +kernel) rfl) (pa_cons (pe_bltn (v := .ty "tuple") (by rfl) Z.tp (by decide +kernel) rfl) pa_nil))) pa_nil))))
        (pw_and (pt_cmpR op_gt (pe_callB call_len_seq rfl Z.ln PySem.boot_len (pa_cons (pv 1) pa_nil)) pe_int (nomark _))
        (pw_and1 (pt_cmpR op_gt (pe_call D hr1 rfl mD kD bD .nil pass0 (pa_cons (pv 0) (pa_cons pe_int pa_nil))) pe_int (nomark _))))))
      (pss_cons (ps_set (i := 2) scChg.nd rfl (.inl rfl) (pe_call D hr1 rfl mD kD bD .nil pass0 (pa_cons (pv 0) (pa_cons (pe_callB call_len_seq rfl Z.ln PySem.boot_len (pa_cons (pv 1) pa_nil)) pa_nil))))
      (pss_cons (ps_set (i := 4) scChg.nd rfl (.inl rfl) (pe_callTy call_list_of (by rfl) Z.ls (by decide +kernel) (pa_cons (pv 1) pa_nil)))
      (pss_cons (ps_asg (pe_call ih hr rfl mF F.kp bF .nil pass0 (pa_cons (pv 0) (pa_cons (pe_ix ix_list (pv 4) (pv 2) (fun _ _ => rfl)) pa_nil))) (pg_sub (pv 4) (pv 2) set_list))
      (pss_one (ps_ret (pe_ix ix_list (pe_lst (pa_cons (pv 4) (pa_cons (pe_callTy call_tuple_of (by rfl) Z.tp (by decide +kernel) (pa_cons (pv 4) pa_nil)) pa_nil)))
        (pe_op op_mod (pe_op op_add (pe_callTy call_int1 (by rfl) Z.it (by decide +kernel) (pa_cons (pe_callB call_isi (by rfl) zI (by decide +kernel) (pa_cons (pv 1) (pa_cons (pe_bltn (v := .ty "tuple") (by rfl) Z.tp (by decide +kernel) rfl) pa_nil))) pa_nil))
          (pe_callTy call_int1 (by rfl) Z.it (by decide +kernel) (pa_cons (pe_cmpR op_eq (pe_call D hr1 rfl mD kD bD .nil pass0 (pa_cons (pv 0) (pa_cons pe_int pa_nil))) pe_int (nomark _)) pa_nil))) pe_int) (fun _ _ => rfl))))))) pss_nil)
    (pss_one (ps_ret (pe_call Th hr6 rfl mT kT bT .nil pass0 (pa_cons (pv 0) (pa_cons pe_int pa_nil)))))), ?_⟩
  have hvH := hv.same (res_out (B := B) (H := H))
  refine ⟨fun σ H1 => ∃ S1 : Stm, σ = [some (.ref a), some v, none, none, none] ∧ StmAt H1 a c S1 ∧ S1.cnt ≤ S.cnt + 1 ∧ Kept a c H H1, ?_, ?_⟩
  · refine ⟨_, rfl, v, .ty "dict", _, _, _, rfl, .ty _, hvH.ty, kit_D d, _, rfl, ?_⟩
    cases d with
    | obj u l =>
      refine iteT ?_
      obtain ⟨j, am, p, xs, rfl, rfl, hu, ham, hp, hl, ms⟩ := hv.asObj
      obtain ⟨nBm, hamH⟩ := res_at ham
      obtain ⟨nBp, hpH⟩ := res_at hp
      have ama : am ≠ a := fun z => nBm (z ▸ Ba)
      have amc : am ≠ c := fun z => nBm (z ▸ Bc)
      have pa : p ≠ a := fun z => nBp (z ▸ Ba)
      have pc : p ≠ c := fun z => nBp (z ▸ Bc)
      refine ⟨_, rfl, am, _, rfl, getP hamH, Nat.zero_le _, fun e ne => ?_⟩
      have s0 := same_new (o := .lst []) ne
      refine ⟨p, e, xs, rfl, rfl, s0 _ _ hpH, upd_same, _, rfl, ?_⟩
      generalize upd H e (.lst []) = H0 at s0
      have h0 := hS.keep s0
      refine ite2 (fun c1 => ?_) (fun c1 => ⟨S, rfl, h0, by omega, Kept.same s0⟩)
      have hx0 : 0 < xs.length := by
        cases xs with
        | nil => simp at c1
        | cons z r => simp
      refine ⟨_, rfl, a, c, S, 4, rfl, h0, by unfold ccost at hcnt; omega, by decide, by decide, fun H1 S1 r h1 hc1 k1 r0 r1 => ?_⟩
      have kH1 : Kept a c H H1 := (Kept.same s0).trans k1
      refine ⟨_, _, rfl, rfl, _, rfl, ?_⟩
      refine ite2 (fun c2 => ?_) (fun c2 => ⟨S1, rfl, h1, hc1, kH1⟩)
      have m1 := ms.1
      have hn2 : (namesOf u).length ≤ 2 := by
        rcases u with _ | _ | _ | _ | u
        · decide
        · decide
        · decide
        · decide
        · omega
      have hcc : ccost (j + 1) = ccost j + 5 := by unfold ccost; omega
      refine ⟨_, rfl, _, rfl, am, _, rfl, getP (kH1 _ _ ama amc hamH), p, xs, rfl, .inl (SqL.of (kH1 _ _ pa pc hpH)), a, c, S1, _, rfl, h1, by omega, by omega, by omega, fun H2 S2 r2 h2 hc2 k2 q0 q1 => ?_⟩
      obtain ⟨k, rfl⟩ : ∃ k : Nat, r2 = (k : Int) := ⟨r2.toNat, by omega⟩
      have hk : k < xs.length := by omega
      have kH2 : Kept a c H H2 := kH1.trans k2
      have hp2 := kH2 _ _ pa pc hpH
      refine ⟨_, rfl, am, _, rfl, getP (kH2 _ _ ama amc hamH), p, xs, rfl, .inl (SqL.of hp2), fun L nL => ?_⟩
      have ms2 : Ms (res B H2) j xs l := ms.same (res_up fun b o n e => ⟨n, kH2 b o (fun z => n (z ▸ Ba)) (fun z => n (z ▸ Bc)) e⟩)
      have h3 := h2.keep (same_new (o := .lst xs) nL)
      have La : L ≠ a := fun z => h2.a0 (z ▸ nL)
      have Lc : L ≠ c := fun z => h2.c0 (z ▸ nL)
      obtain ⟨e', f1, me⟩ := ms_at ms2 (List.getElem?_eq_getElem hk)
      refine ⟨_, rfl, _, rfl, _, rfl, L, _, _, _, rfl, rfl, SqL.of upd_same, atI_nat (List.getElem?_eq_getElem hk), a, c, S2, fun b => B b ∨ b = L, xs[k], e', j, rfl, rfl, by omega, h3, .inl Ba, .inl Bc, ?_, by omega, fun H4 S4 r d' h4 hc4 k4 m4 => ?_⟩
      · exact me.same (res_up fun b o n e => ⟨fun z => z.elim n (ne_of_none e nL), same_new nL _ _ e⟩)
      have hL4 : H4 L = some (.lst xs) := k4 _ _ La Lc upd_same
      refine ⟨_, rfl, _, rfl, L, xs, _, _, rfl, rfl, hL4, ixN_nat hk, ?_⟩
      have s5 : ∀ b o, b ≠ L → H4 b = some o → (upd H4 L (.lst (xs.set k r))) b = some o := fun b o nb e => by rw [upd_ne nb]; exact e
      have hL5 : (upd H4 L (.lst (xs.set k r))) L = some (.lst (xs.set k r)) := upd_same
      generalize upd H4 L (.lst (xs.set k r)) = H5 at s5 hL5
      intro q1 nq1
      have amL : am ≠ L := ne_of_none (kH2 _ _ ama amc hamH) nL
      have ham4 : H4 am = some (.dK (dictOf u p)) := k4 _ _ ama amc (same_new nL _ _ (kH2 _ _ ama amc hamH))
      have amq : am ≠ q1 := ne_of_none (s5 _ _ amL ham4) nq1
      have Lq : L ≠ q1 := ne_of_none hL5 nq1
      refine ⟨_, rfl, am, _, rfl, getW (p := p) (by rw [upd_ne amq]; exact s5 _ _ amL ham4), _, rfl, upd_same, dictOf u L, rfl, by show 2 ≤ 15; decide, ?_⟩
      rw [show mergeK [] (dictOf u L) = dictOf u L from rfl]
      have s7 : ∀ b o, H5 b = some o → (upd (upd H5 q1 (.dK [])) q1 (.dK (dictOf u L))) b = some o := fun b o e => same_new2 nq1 b o e
      have hq7 : (upd (upd H5 q1 (.dK [])) q1 (.dK (dictOf u L))) q1 = some (.dK (dictOf u L)) := upd_same
      generalize upd (upd H5 q1 (.dK [])) q1 (.dK (dictOf u L)) = H7 at s7 hq7
      have s47 : ∀ b o, b ≠ L → H4 b = some o → H7 b = some o := fun b o nb e => s7 b o (s5 b o nb e)
      have nHL : H L = none := kH2.free h2.a0 h2.c0 nL
      have nHq : ¬ was H q1 := fun z => by
        obtain ⟨o, e⟩ := Option.ne_none_iff_exists'.mp ((kH2.has h2.a0 h2.c0 z))
        by_cases hqa : q1 = a
        · rw [hqa] at nq1
          rw [s5 _ _ (Ne.symm La) h4.lst] at nq1; cases nq1
        · by_cases hqc : q1 = c
          · rw [hqc] at nq1
            rw [s5 _ _ (Ne.symm Lc) h4.cel] at nq1; cases nq1
          · rw [s5 _ _ (Ne.symm Lq) (k4 _ _ hqa hqc (same_new nL _ _ e))] at nq1; cases nq1
      have items := chg_items (k := k) (H7 := H7) Ba Bc h2 kH2 ms2 nL k4 m4 fun b o nb _ _ e => s47 b o nb e
      refine q H7 S4 (.ref q1) (.obj u (l.set k d')) ⟨s47 _ _ (Ne.symm La) h4.lst, s47 _ _ (Ne.symm Lc) h4.cel, h4.ne, h4.len, h4.cur0, h4.cnt0, h4.mix0, h4.mix1⟩ (by omega) ?_ ?_
      · intro b o n1 n2 e
        have nb : b ≠ L := ne_of_none e nHL
        exact s47 b o nb (k4 b o n1 n2 (same_new nL _ _ (kH2 b o n1 n2 e)))
      · exact Mo.dict items hu (res_in (fun z => nHq z.2) hq7) (res_in (fun z => z.2 nHL) (s7 _ _ hL5)) (by rw [List.length_set]; exact hl)
    | _ => exact iteF ⟨S, rfl, hS, by omega, .refl _ _ _⟩
  · rintro σ H1 ⟨S1, rfl, h1, hc1, k1⟩
    have hv1 : Mo (res B H1) m v d := hv.same (res_up fun b o n e => ⟨n, k1 b o (fun z => n (z ▸ Ba)) (fun z => n (z ▸ Bc)) e⟩)
    refine ⟨fun σ H1 => ∃ S1 : Stm, σ = [some (.ref a), some v, none, none, none] ∧ StmAt H1 a c S1 ∧ S1.cnt ≤ S.cnt + 2 ∧ Kept a c H H1, ?_, ?_⟩
    · refine ⟨_, rfl, by show 2 ≤ sizeLine; decide, fun tp ntp => ?_⟩
      have s0 := same_new (o := .tup [.ty "list", .ty "tuple"]) ntp
      refine ⟨v, tp, _, _, _, _, rfl, upd_same, .cons (.ty _) (.cons (.ty _) .nil), ((hv1.same res_out).same s0).ty, kit_LT d, _, rfl, ?_⟩
      generalize upd H1 tp (.tup [.ty "list", .ty "tuple"]) = H0 at s0
      have h0 := h1.keep s0
      have k0 : Kept a c H H0 := k1.trans (Kept.same s0)
      cases d with
      | lst l =>
        refine iteT ?_
        obtain ⟨j, av, xs, rfl, rfl, hav, hll, ms⟩ := hv1.asLst
        obtain ⟨nB, havH⟩ := res_at hav
        have ava : av ≠ a := fun z => nB (z ▸ Ba)
        have avc : av ≠ c := fun z => nB (z ▸ Bc)
        refine ⟨_, rfl, av, xs, rfl, .inl (SqL.of (s0 _ _ havH)), _, _, rfl, rfl, _, rfl, ?_⟩
        refine ite2 (fun c1 => ?_) (fun c1 => ⟨S1, rfl, h0, by omega, k0⟩)
        have hx0 : 0 < xs.length := by
          have z : ((xs.length : Nat) : Int) > 0 := of_decide_eq_true c1
          omega
        have hcc : ccost (j + 1) = ccost j + 5 := by unfold ccost; omega
        refine ⟨_, rfl, a, c, S1, 3, rfl, h0, by omega, by decide, by decide, fun H2 S2 r h2 hc2 k2 r0 r1 => ?_⟩
        have kH2 : Kept a c H H2 := k0.trans k2
        refine ⟨_, _, rfl, rfl, _, rfl, ?_⟩
        refine ite2 (fun c2 => ?_) (fun c2 => ⟨S2, rfl, h2, by omega, kH2⟩)
        have m1 := ms.1
        refine ⟨_, rfl, _, rfl, av, xs, rfl, .inl (SqL.of (k2 _ _ ava avc (s0 _ _ havH))), a, c, S2, _, rfl, h2, by omega, by omega, by omega, fun H3 S3 r2 h3 hc3 k3 q0 q1 => ?_⟩
        obtain ⟨k, rfl⟩ : ∃ k : Nat, r2 = (k : Int) := ⟨r2.toNat, by omega⟩
        have hk : k < xs.length := by omega
        have kH3 : Kept a c H H3 := kH2.trans k3
        have k13 : Kept a c H1 H3 := ((Kept.same s0).trans k2).trans k3
        have hav3 := k13 _ _ ava avc havH
        refine ⟨_, rfl, av, xs, rfl, .inl (SqL.of hav3), fun L nL => ?_⟩
        have ms3 : Ms (res B H3) j xs l := ms.same (res_up fun b o n e => ⟨n, k13 b o (fun z => n (z ▸ Ba)) (fun z => n (z ▸ Bc)) e⟩)
        have h4 := h3.keep (same_new (o := .lst xs) nL)
        have La : L ≠ a := fun z => h3.a0 (z ▸ nL)
        have Lc : L ≠ c := fun z => h3.c0 (z ▸ nL)
        obtain ⟨e', f1, me⟩ := ms_at ms3 (List.getElem?_eq_getElem hk)
        refine ⟨_, rfl, _, rfl, _, rfl, L, _, _, _, rfl, rfl, SqL.of upd_same, atI_nat (List.getElem?_eq_getElem hk), a, c, S3, fun b => B b ∨ b = L, xs[k], e', j, rfl, rfl, by omega, h4, .inl Ba, .inl Bc, ?_, by omega, fun H5 S5 r d' h5 hc5 k5 m5 => ?_⟩
        · exact me.same (res_up fun b o n e => ⟨fun z => z.elim n (ne_of_none e nL), same_new nL _ _ e⟩)
        have hL5 : H5 L = some (.lst xs) := k5 _ _ La Lc upd_same
        refine ⟨_, rfl, _, rfl, L, xs, _, _, rfl, rfl, hL5, ixN_nat hk, ?_⟩
        have s6 : ∀ b o, b ≠ L → H5 b = some o → (upd H5 L (.lst (xs.set k r))) b = some o := fun b o nb e => by rw [upd_ne nb]; exact e
        have hL6 : (upd H5 L (.lst (xs.set k r))) L = some (.lst (xs.set k r)) := upd_same
        generalize upd H5 L (.lst (xs.set k r)) = H6 at s6 hL6
        have h6 : StmAt H6 a c S5 := ⟨s6 _ _ (Ne.symm La) h5.lst, s6 _ _ (Ne.symm Lc) h5.cel, h5.ne, h5.len, h5.cur0, h5.cnt0, h5.mix0, h5.mix1⟩
        have nHL : H L = none := kH3.free h3.a0 h3.c0 nL
        have kH6 : Kept a c H H6 := fun b o n1 n2 e => s6 b o (ne_of_none e nHL) (k5 b o n1 n2 (same_new nL _ _ (kH3 b o n1 n2 e)))
        have avL : av ≠ L := ne_of_none hav3 nL
        have hav6 : H6 av = some (.lst xs) := s6 _ _ avL (k5 _ _ ava avc (same_new nL _ _ hav3))
        refine ⟨_, rfl, _, rfl, L, _, rfl, .inl ⟨SqL.of hL6, fun tt ntt => ⟨by show 2 ≤ sizeLine; decide, fun q1 nq1 => ?_⟩⟩⟩
        have nHt : ¬ was H tt := fun z => kH6.has h6.a0 h6.c0 z ntt
        have s7 := (same_new (o := .tup (xs.set k r)) ntt).trans (same_new (o := .lst [.ref L, .ref tt]) nq1)
        have ht7 := same_new (o := .lst [.ref L, .ref tt]) nq1 tt _ upd_same
        have hq7 : (upd (upd H6 tt (.tup (xs.set k r))) q1 (.lst [.ref L, .ref tt])) q1 = some (.lst [.ref L, .ref tt]) := upd_same
        have q1a : q1 ≠ a := fun z => by rw [z, (same_new (o := .tup (xs.set k r)) ntt) _ _ h6.lst] at nq1; cases nq1
        have q1c : q1 ≠ c := fun z => by rw [z, (same_new (o := .tup (xs.set k r)) ntt) _ _ h6.cel] at nq1; cases nq1
        generalize upd (upd H6 tt (.tup (xs.set k r))) q1 (.lst [.ref L, .ref tt]) = H7 at s7 ht7 hq7
        refine ⟨_, rfl, _, .ty "tuple", _, _, _, rfl, .ty _, .base (.lst (s7 _ _ hav6)), kit_T (.lst l), .inr ⟨_, rfl, ?_⟩⟩
        refine ⟨_, rfl, a, c, S5, 6, rfl, h6.keep s7, by omega, by decide, by decide, fun H8 S8 r8 h8 hc8 k8 z0 z1 => ?_⟩
        have tta : tt ≠ a := fun z => h6.a0 (z ▸ ntt)
        have ttc : tt ≠ c := fun z => h6.c0 (z ▸ ntt)
        have ht8 := k8 _ _ tta ttc ht7
        have hL8 := k8 _ _ La Lc (s7 _ _ hL6)
        have hq8 := k8 _ _ q1a q1c hq7
        refine ⟨rfl, .inr ⟨_, rfl, _, _, rfl, rfl, _, _, rfl, rfl, (by show (0 : Int) < 2; decide), ?_⟩⟩
        have items := chg_items (k := k) (H7 := H8) Ba Bc h3 kH3 ms3 nL k5 m5 fun b o nb ba bc e => k8 b o ba bc (s7 _ _ (s6 b o nb e))
        have kH8 : Kept a c H H8 := (kH6.trans (Kept.same s7)).trans k8
        have fin1 := q H8 S8 (.ref L) (.lst (l.set k d')) h8 (by omega) kH8 (Mo.lst items (res_in (fun z => z.2 nHL) hL8) (by rw [List.length_set]; exact hll))
        have fin2 := q H8 S8 (.ref tt) (.tup (l.set k d')) h8 (by omega) kH8 (Mo.tup items (res_in (fun z => nHt z.2) ht8) (by rw [List.length_set]; exact hll))
        cases hz : decide (V.int r8 = V.int 0) with
        | false => exact ⟨q1, _, _, _, rfl, rfl, SqL.of hq8, rfl, fin1⟩
        | true => exact ⟨q1, _, _, _, rfl, rfl, SqL.of hq8, rfl, fin2⟩
      | tup l =>
        refine iteT ?_
        obtain ⟨j, av, xs, rfl, rfl, hav, hll, ms⟩ := hv1.asTup
        obtain ⟨nB, havH⟩ := res_at hav
        have ava : av ≠ a := fun z => nB (z ▸ Ba)
        have avc : av ≠ c := fun z => nB (z ▸ Bc)
        refine ⟨_, rfl, av, xs, rfl, .inr (SqT.of (s0 _ _ havH)), _, _, rfl, rfl, _, rfl, ?_⟩
        refine ite2 (fun c1 => ?_) (fun c1 => ⟨S1, rfl, h0, by omega, k0⟩)
        have hx0 : 0 < xs.length := by
          have z : ((xs.length : Nat) : Int) > 0 := of_decide_eq_true c1
          omega
        have hcc : ccost (j + 1) = ccost j + 5 := by unfold ccost; omega
        refine ⟨_, rfl, a, c, S1, 3, rfl, h0, by omega, by decide, by decide, fun H2 S2 r h2 hc2 k2 r0 r1 => ?_⟩
        have kH2 : Kept a c H H2 := k0.trans k2
        refine ⟨_, _, rfl, rfl, _, rfl, ?_⟩
        refine ite2 (fun c2 => ?_) (fun c2 => ⟨S2, rfl, h2, by omega, kH2⟩)
        have m1 := ms.1
        refine ⟨_, rfl, _, rfl, av, xs, rfl, .inr (SqT.of (k2 _ _ ava avc (s0 _ _ havH))), a, c, S2, _, rfl, h2, by omega, by omega, by omega, fun H3 S3 r2 h3 hc3 k3 q0 q1 => ?_⟩
        obtain ⟨k, rfl⟩ : ∃ k : Nat, r2 = (k : Int) := ⟨r2.toNat, by omega⟩
        have hk : k < xs.length := by omega
        have kH3 : Kept a c H H3 := kH2.trans k3
        have k13 : Kept a c H1 H3 := ((Kept.same s0).trans k2).trans k3
        have hav3 := k13 _ _ ava avc havH
        refine ⟨_, rfl, av, xs, rfl, .inr (SqT.of hav3), fun L nL => ?_⟩
        have ms3 : Ms (res B H3) j xs l := ms.same (res_up fun b o n e => ⟨n, k13 b o (fun z => n (z ▸ Ba)) (fun z => n (z ▸ Bc)) e⟩)
        have h4 := h3.keep (same_new (o := .lst xs) nL)
        have La : L ≠ a := fun z => h3.a0 (z ▸ nL)
        have Lc : L ≠ c := fun z => h3.c0 (z ▸ nL)
        obtain ⟨e', f1, me⟩ := ms_at ms3 (List.getElem?_eq_getElem hk)
        refine ⟨_, rfl, _, rfl, _, rfl, L, _, _, _, rfl, rfl, SqL.of upd_same, atI_nat (List.getElem?_eq_getElem hk), a, c, S3, fun b => B b ∨ b = L, xs[k], e', j, rfl, rfl, by omega, h4, .inl Ba, .inl Bc, ?_, by omega, fun H5 S5 r d' h5 hc5 k5 m5 => ?_⟩
        · exact me.same (res_up fun b o n e => ⟨fun z => z.elim n (ne_of_none e nL), same_new nL _ _ e⟩)
        have hL5 : H5 L = some (.lst xs) := k5 _ _ La Lc upd_same
        refine ⟨_, rfl, _, rfl, L, xs, _, _, rfl, rfl, hL5, ixN_nat hk, ?_⟩
        have s6 : ∀ b o, b ≠ L → H5 b = some o → (upd H5 L (.lst (xs.set k r))) b = some o := fun b o nb e => by rw [upd_ne nb]; exact e
        have hL6 : (upd H5 L (.lst (xs.set k r))) L = some (.lst (xs.set k r)) := upd_same
        generalize upd H5 L (.lst (xs.set k r)) = H6 at s6 hL6
        have h6 : StmAt H6 a c S5 := ⟨s6 _ _ (Ne.symm La) h5.lst, s6 _ _ (Ne.symm Lc) h5.cel, h5.ne, h5.len, h5.cur0, h5.cnt0, h5.mix0, h5.mix1⟩
        have nHL : H L = none := kH3.free h3.a0 h3.c0 nL
        have kH6 : Kept a c H H6 := fun b o n1 n2 e => s6 b o (ne_of_none e nHL) (k5 b o n1 n2 (same_new nL _ _ (kH3 b o n1 n2 e)))
        have avL : av ≠ L := ne_of_none hav3 nL
        have hav6 : H6 av = some (.tup xs) := s6 _ _ avL (k5 _ _ ava avc (same_new nL _ _ hav3))
        refine ⟨_, rfl, _, rfl, L, _, rfl, .inl ⟨SqL.of hL6, fun tt ntt => ⟨by show 2 ≤ sizeLine; decide, fun q1 nq1 => ?_⟩⟩⟩
        have nHt : ¬ was H tt := fun z => kH6.has h6.a0 h6.c0 z ntt
        have s7 := (same_new (o := .tup (xs.set k r)) ntt).trans (same_new (o := .lst [.ref L, .ref tt]) nq1)
        have ht7 := same_new (o := .lst [.ref L, .ref tt]) nq1 tt _ upd_same
        have hq7 : (upd (upd H6 tt (.tup (xs.set k r))) q1 (.lst [.ref L, .ref tt])) q1 = some (.lst [.ref L, .ref tt]) := upd_same
        have q1a : q1 ≠ a := fun z => by rw [z, (same_new (o := .tup (xs.set k r)) ntt) _ _ h6.lst] at nq1; cases nq1
        have q1c : q1 ≠ c := fun z => by rw [z, (same_new (o := .tup (xs.set k r)) ntt) _ _ h6.cel] at nq1; cases nq1
        generalize upd (upd H6 tt (.tup (xs.set k r))) q1 (.lst [.ref L, .ref tt]) = H7 at s7 ht7 hq7
        refine ⟨_, rfl, _, .ty "tuple", _, _, _, rfl, .ty _, .base (.tup (s7 _ _ hav6)), kit_T (.tup l), .inr ⟨_, rfl, ?_⟩⟩
        refine ⟨_, rfl, a, c, S5, 6, rfl, h6.keep s7, by omega, by decide, by decide, fun H8 S8 r8 h8 hc8 k8 z0 z1 => ?_⟩
        have tta : tt ≠ a := fun z => h6.a0 (z ▸ ntt)
        have ttc : tt ≠ c := fun z => h6.c0 (z ▸ ntt)
        have ht8 := k8 _ _ tta ttc ht7
        have hL8 := k8 _ _ La Lc (s7 _ _ hL6)
        have hq8 := k8 _ _ q1a q1c hq7
        refine ⟨rfl, .inr ⟨_, rfl, _, _, rfl, rfl, _, _, rfl, rfl, (by show (0 : Int) < 2; decide), ?_⟩⟩
        have items := chg_items (k := k) (H7 := H8) Ba Bc h3 kH3 ms3 nL k5 m5 fun b o nb ba bc e => k8 b o ba bc (s7 _ _ (s6 b o nb e))
        have kH8 : Kept a c H H8 := (kH6.trans (Kept.same s7)).trans k8
        have fin1 := q H8 S8 (.ref L) (.lst (l.set k d')) h8 (by omega) kH8 (Mo.lst items (res_in (fun z => z.2 nHL) hL8) (by rw [List.length_set]; exact hll))
        have fin2 := q H8 S8 (.ref tt) (.tup (l.set k d')) h8 (by omega) kH8 (Mo.tup items (res_in (fun z => nHt z.2) ht8) (by rw [List.length_set]; exact hll))
        cases hz : decide (V.int r8 = V.int 0) with
        | false => exact ⟨q1, _, _, _, rfl, rfl, SqL.of hq8, rfl, fin2⟩
        | true => exact ⟨q1, _, _, _, rfl, rfl, SqL.of hq8, rfl, fin1⟩
      | _ => exact iteF ⟨S1, rfl, h0, by omega, k0⟩
    · rintro σ H2 ⟨S2, rfl, h2, hc2, k2⟩
      have hcm : 10 ≤ ccost m := by unfold ccost; omega
      refine ⟨_, rfl, a, c, S2, 1, rfl, by omega, by omega, h2, by show S2.cnt + ((7 : Nat) : Int) < 1000000; omega, fun H3 S3 x d' h3 hc3 k3 m3 => ?_⟩
      have hc3' : S3.cnt ≤ S2.cnt + ((7 : Nat) : Int) := hc3
      exact q H3 S3 x d' h3 (by omega) (k2.trans k3) ((m3.mono (by omega)).same (res_up fun b o n e => ⟨fun z => n (k2.has h2.a0 h2.c0 z.2), e⟩))
theorem chgs {f fD fT : Addr} {fd fdD fdT : FuncData} (F : Fun K "_law_changed" "_law_changed" sChg f fd) (bF : Binds K fd ["_law_stream", "_law_model"] []) (mF : mg "_law_changed" = some (.ref f))
    (D : FnOk P w K mg base CX0 1 fD fdD ["_law_stream", "_law_many"] spDraw) (bD : Binds K fdD ["_law_stream", "_law_many"] []) (kD : PySem.W.keepIn K (.ref fD) = true) (mD : mg "_law_draw" = some (.ref fD))
    (Th : FnOk P w K mg base CX0 6 fT fdT ["_law_stream", "_law_deep"] (spThing 2)) (bT : Binds K fdT ["_law_stream", "_law_deep"] []) (kT : PySem.W.keepIn K (.ref fT) = true) (mT : mg "_law_thing" = some (.ref fT))
    (zI : mg "isinstance" = none) (Z : Blt mg) : ∀ n : Nat, FnOk P w K mg base CX0 (n + 6) f fd ["_law_stream", "_law_model"] (spChg n)
  | 0 => no_chg
  | n + 1 => ok_chg F bF mF D bD kD mD Th bT kT mT zI Z (chgs F bF mF D bD kD mD Th bT kT mT zI Z n)
end
end K6
/-! part R -/
set_option maxHeartbeats 4000000
namespace K6
open PySem PySem.Spec PyProof.Rows L2
abbrev sFlds : Stmt := topS 12
theorem scFlds : FnScope ["_law_made_here"] ["_law_made_here"] (defScope sFlds) := ⟨rfl, rfl, rfl, by decide +kernel, rfl, by decide +kernel, by decide +kernel⟩
def spFlds (Cs : Nat → Addr) (n : Nat) : Sp := fun vs H Q _ => ∃ (v : V) (k : Nat) (l : List Md), vs = [v] ∧ Ma Cs H (n + 1) v (.obj k l) ∧
  ∀ (H' : Hp) (q : Addr) (xs : List V), Same H H' → H' q = some (.lst (.str (wordOf k) :: xs)) → xs.length = l.length → (∀ (i : Nat) x e, xs[i]? = some x → l[i]? = some e → Ma Cs H' n x e) → Q (.ref q) H'
section
variable {P : Program} {w : World} {K : PySem.W.Frag} {mg : Str → Option Value} {base : Heap} {Cs fE : Nat → Addr} {n : Nat}
theorem ok_flds {f : Addr} {fd : FuncData} (F : Fun K "_law_fields" "_law_fields" sFlds f fd) (T : Txt K Cs fE) (G : Glo K mg Cs) : FnOk P w K mg base CX0 1 f fd ["_law_made_here"] (spFlds Cs n) := by
  refine F.ok scFlds (fun vs H Q E h => ?_) (fun cdv A outer s H vs Q E hr h => ?_)
  · obtain ⟨v, k, l, rfl, _⟩ := h
    rfl
  obtain ⟨v, k, l, rfl, hv, q⟩ := h
  refine ⟨_, pss_cons (ps_if (pt_val (pe_callB call_isi (by rfl) G.zI (by decide +kernel) (pa_cons (pv 0) (pa_cons (pe_glob (v := .ref (Cs 1)) rfl G.g1 rfl) pa_nil)))) (pss_one (ps_ret (pe_lst (pa_cons pe_str (pa_cons (pe_fld (pv 0) rfl) (pa_cons (pe_fld (pv 0) rfl) pa_nil)))))) pss_nil)
    (pss_cons (ps_if (pt_val (pe_callB call_isi (by rfl) G.zI (by decide +kernel) (pa_cons (pv 0) (pa_cons (pe_glob (v := .ref (Cs 2)) rfl G.g2 rfl) pa_nil)))) (pss_one (ps_ret (pe_lst (pa_cons pe_str (pa_cons (pe_fld (pv 0) rfl) pa_nil))))) pss_nil)
    (pss_cons (ps_if (pt_val (pe_callB call_isi (by rfl) G.zI (by decide +kernel) (pa_cons (pv 0) (pa_cons (pe_glob (v := .ref (Cs 3)) rfl G.g3 rfl) pa_nil)))) (pss_one (ps_ret (pe_lst (pa_cons pe_str (pa_cons (pe_fld (pv 0) rfl) pa_nil))))) pss_nil)
    (pss_one (ps_ret (pe_ifExp (pt_val (pe_callB call_isi (by rfl) G.zI (by decide +kernel) (pa_cons (pv 0) (pa_cons (pe_glob (v := .ref (Cs 0)) rfl G.g0 rfl) pa_nil)))) (pe_lst (pa_cons pe_str pa_nil)) (pe_lst (pa_cons pe_str pa_nil))))))), ?_⟩
  obtain ⟨a, dx, xs, rfl, hk, ha, hl, hl2, hi⟩ := hv.asObj
  have go : ∀ (q1 : Addr), H q1 = none → Q (.ref q1) (upd H q1 (.lst (.str (wordOf k) :: xs))) := fun q1 nq => q _ q1 xs (same_new nq) upd_same hl fun i x e g1 g2 => (hi i x e g1 g2).same (same_new nq)
  have ty : ∀ j, j < 4 → ∃ t, TyX K H (.ref a) t ∧ PySem.W.kitOne K t (.ref (Cs j)) = some (decide (k = j)) := fun j hj => by
    obtain ⟨t, h1, h2⟩ := hv.ty T hj
    exact ⟨t, h1, by rw [h2]; simp [kindM]⟩
  obtain ⟨t1, ht1, hk1⟩ := ty 1 (by decide)
  refine ⟨_, rfl, _, .ref (Cs 1), t1, .ref (Cs 1), _, rfl, .own _, ht1, hk1, _, rfl, ?_⟩
  by_cases e1 : k = 1
  · subst e1
    rw [decide_eq_true rfl]
    refine iteT ?_
    obtain ⟨x0, x1, rfl⟩ := len2 (show xs.length = 2 by rw [hl, hl2]; rfl)
    exact ⟨_, rfl, a, Cs 1, dx, _, x0, rfl, ha, T.cl 1 (by decide), G.noF 1 (by decide) _ (by decide +kernel), lk0, _, rfl, a, Cs 1, dx, _, x1, rfl, ha, T.cl 1 (by decide), G.noF 1 (by decide) _ (by decide +kernel), lk1 (by decide +kernel), by show 3 ≤ sizeLine; decide, fun q1 nq => go q1 nq⟩
  rw [decide_eq_false e1]
  refine iteF ?_
  obtain ⟨t2, ht2, hk2⟩ := ty 2 (by decide)
  refine ⟨_, rfl, _, .ref (Cs 2), t2, .ref (Cs 2), _, rfl, .own _, ht2, hk2, _, rfl, ?_⟩
  by_cases e2 : k = 2
  · subst e2
    rw [decide_eq_true rfl]
    refine iteT ?_
    obtain ⟨x0, rfl⟩ := len1 (show xs.length = 1 by rw [hl, hl2]; rfl)
    exact ⟨_, rfl, a, Cs 2, dx, _, x0, rfl, ha, T.cl 2 (by decide), G.noF 2 (by decide) _ (by decide +kernel), lk0, by show 2 ≤ sizeLine; decide, fun q1 nq => go q1 nq⟩
  rw [decide_eq_false e2]
  refine iteF ?_
  obtain ⟨t3, ht3, hk3⟩ := ty 3 (by decide)
  refine ⟨_, rfl, _, .ref (Cs 3), t3, .ref (Cs 3), _, rfl, .own _, ht3, hk3, _, rfl, ?_⟩
  by_cases e3 : k = 3
  · subst e3
    rw [decide_eq_true rfl]
    refine iteT ?_
    obtain ⟨x0, rfl⟩ := len1 (show xs.length = 1 by rw [hl, hl2]; rfl)
    exact ⟨_, rfl, a, Cs 3, dx, _, x0, rfl, ha, T.cl 3 (by decide), G.noF 3 (by decide) _ (by decide +kernel), lk0, by show 2 ≤ sizeLine; decide, fun q1 nq => go q1 nq⟩
  rw [decide_eq_false e3]
  refine iteF ?_
  have e0 : k = 0 := by omega
  subst e0
  obtain ⟨t0, ht0, hk0⟩ := ty 0 (by decide)
  refine ⟨_, rfl, _, .ref (Cs 0), t0, .ref (Cs 0), _, rfl, .own _, ht0, hk0, _, rfl, ?_⟩
  rw [decide_eq_true rfl]
  refine iteT ?_
  obtain rfl : xs = [] := List.eq_nil_of_length_eq_zero (by rw [hl, hl2]; rfl)
  exact ⟨by show 1 ≤ sizeLine; decide, fun q1 nq => go q1 nq⟩
end
/-! ### != of any two things, one of them an object -/
def rNeA (Cs : Nat → Addr) (n : Nat) : R2 := fun x y H Q => ∃ d e, Ma Cs H n x d ∧ Ma Cs H n y e ∧ ((kindM d).isSome || (kindM e).isSome) = true ∧ ∀ H', Same H H' → Q (.bl (!eqM d e)) H'
theorem eqM_comm_obj {j : Nat} {l : List Md} {d : Md} (h : kindM d = none) : eqM d (.obj j l) = false ∧ eqM (.obj j l) d = false := by
  cases d with
  | obj _ _ => cases h
  | _ => exact ⟨by rw [eqM], by rw [eqM]⟩
theorem op_neA {X : Cx} {Cs fE : Nat → Addr} {fdE : Nat → FuncData} {n m : Nat} (T : Txt X.K Cs fE) (Fs : ∀ k, k < 4 → FnOk X.prog X.w X.K X.mg X.base CX0 m (fE k) (fdE k) ["self", "other"] (spEqW Cs k (n + 1))) (bs : ∀ k, k < 4 → Binds X.K (fdE k) ["self", "other"] [])
    (hr : Room (m + 1) X.A) : OpR X (compareOp .NotEq) (rNeA Cs (n + 1)) := by
  intro pins s σ H x y v u Q I rx ry hq
  obtain ⟨d, e, hx, hy, hk, q⟩ := hq
  cases hd : kindM d with
  | some j =>
    obtain ⟨l, rfl⟩ := kind_obj hd
    exact op_neN T Fs bs hr pins s σ H x y v u Q I rx ry ⟨j, l, e, hx, hy, q⟩
  | none =>
    rw [hd] at hk
    obtain ⟨j, he⟩ : ∃ j, kindM e = some j := by
      cases h : kindM e with
      | none => rw [h] at hk; cases hk
      | some j => exact ⟨j, rfl⟩
    obtain ⟨l, rfl⟩ := kind_obj he
    have hy0 := hy
    have hx0 := hx
    obtain ⟨b, dy, ys, rfl, hj, k3, _⟩ := hy.asObj
    cases ry
    obtain ⟨mA, J, _⟩ := ins_get I.hok k3
    obtain ⟨od, J, _⟩ := J.look
    have sb : Sub X (m + 1) X.A := ⟨hr, rfl⟩
    have call := callEq (Fs j hj) (bs j hj) sb.in1 I hy0 hx0 rx
    obtain ⟨z1, z2⟩ := eqM_comm_obj (j := j) (l := l) hd
    have call2 := wpAny_mono call (fun r s' (z : r = .bool (eqM (.obj j l) d) ∧ ∃ H', Inv X pins σ H' s' ∧ Same H H') => show ∃ r', r = .bool r' ∧ EP X pins σ Q (.bool (!r')) s' by
      obtain ⟨rfl, H', I', sm⟩ := z
      refine ⟨_, rfl, .bl (!eqM d (.obj j l)), H', I', ?_, q H' sm⟩
      rw [z1, z2]; rfl) fun _ _ z => z
    show wpAny (model X.prog X.w) X.A (richCompare .NotEq v (.ref b)) (EP X pins σ Q) X.xe s
    have hu := hr.un
    rcases hx with hx | ⟨a, xs, l', rfl, rfl, h3, h4⟩ | ⟨a, xs, l', rfl, rfl, h3, h4⟩ | ⟨a, dx, i, xs, l', rfl, rfl, _⟩
    · rcases hx with ⟨rfl, rfl⟩ | ⟨i, rfl, rfl⟩ | ⟨z, rfl, rfl⟩
      · cases rx
        exact K6X.ne_right (by omega) I.kIn J rfl (T.no hj (by decide)) PySem.F.slot_NoneType_ne (fun Q' q => K6X.none_nn q) (T.ne j hj) (T.obj hj) (T.eq j hj) (T.fn j hj) call2
      · obtain ⟨t, rfl⟩ := rx
        exact K6X.ne_right (by omega) I.kIn J (typeIs_int s i t) (T.no hj (by decide)) PySem.F.slot_int_ne (fun Q' q => K6X.int_nn i t I.kIn J (T.no hj (by decide)) q) (T.ne j hj) (T.obj hj) (T.eq j hj) (T.fn j hj) call2
      · obtain ⟨t, rfl⟩ := rx
        exact K6X.ne_right (by omega) I.kIn J (typeIs_str s z t) (T.no hj (by decide)) PySem.F.slot_str_ne (fun Q' q => K6X.str_nn z t I.kIn J (T.no hj (by decide)) q) (T.ne j hj) (T.obj hj) (T.eq j hj) (T.fn j hj) call2
    · cases rx
      obtain ⟨_, its, ka, r, g⟩ := I.hok a _ h3
      exact K6X.ne_right (by omega) I.kIn J ⟨_, g, rfl⟩ (T.no hj (by decide)) PySem.F.slot_list_ne (fun Q' q => K6X.list_nn ⟨_, g, rfl, ka, rfl⟩ I.kIn J (T.no hj (by decide)) q) (T.ne j hj) (T.obj hj) (T.eq j hj) (T.fn j hj) call2
    · cases rx
      obtain ⟨its, r, g, _⟩ := I.tuple (SqT.of h3)
      obtain ⟨o, go, gc, gn, gd⟩ := id g
      exact K6X.ne_right (by omega) I.kIn J ⟨o, go, gc⟩ (T.no hj (by decide)) PySem.F.slot_tuple_ne (fun Q' q => K6X.tup_nn g I.kIn J (T.no hj (by decide)) q) (T.ne j hj) (T.obj hj) (T.eq j hj) (T.fn j hj) call2
    · cases hd
/-! ### == at any depth -/
section
variable {P : Program} {w : World} {K : PySem.W.Frag} {mg : Str → Option Value} {base : Heap} {Cs fE : Nat → Addr} {fdE : Nat → FuncData}
theorem eqs (T : Txt K Cs fE) (G : Glo K mg Cs) (bs : ∀ k, k < 4 → Binds K (fdE k) ["self", "other"] []) (F0 : Fun K "__eq__" "Dots.__eq__" sEq0 (fE 0) (fdE 0)) (F1 : Fun K "__eq__" "Float.__eq__" sEq1 (fE 1) (fdE 1)) (F2 : Fun K "__eq__" "Imaginary.__eq__" sEq2 (fE 2) (fdE 2)) (F3 : Fun K "__eq__" "Octets.__eq__" sEq3 (fE 3) (fdE 3)) :
    ∀ n : Nat, RcN P w K mg base Cs n (n + 1) ∧ ∀ k, k < 4 → FnOk P w K mg base CX0 (n + 2) (fE k) (fdE k) ["self", "other"] (spEqW Cs k (n + 1))
  | 0 => by
    have h : RcN P w K mg base Cs 0 (0 + 1) := rc_zero
    refine ⟨h, fun k hk => ?_⟩
    rcases k with _ | _ | _ | _ | k
    · exact (ok_eq0 F0 T G).mono (by omega)
    · exact ok_eq1 F1 T G h (by omega)
    · exact ok_eq2 F2 T G h (by omega)
    · exact ok_eq3 F3 T G h (by omega)
    · omega
  | n + 1 => by
    obtain ⟨h1, h2⟩ := eqs T G bs F0 F1 F2 F3 n
    have h : RcN P w K mg base Cs (n + 1) (n + 1 + 1) := rc_succ T h2 bs (rc_eq T.inj h1) (by omega) (by omega)
    refine ⟨h, fun k hk => ?_⟩
    rcases k with _ | _ | _ | _ | k
    · exact (ok_eq0 F0 T G).mono (by omega)
    · exact ok_eq1 F1 T G h (by omega)
    · exact ok_eq2 F2 T G h (by omega)
    · exact ok_eq3 F3 T G h (by omega)
    · omega
end
end K6
/-! part S -/
set_option maxHeartbeats 8000000
namespace K6
open PySem PySem.Spec PyProof.Rows L2
abbrev sLaw : Stmt := topS 14
abbrev nLaw : List Str := ["_law_script", "_law_stream", "_law_turn", "_law_one", "_law_other", "_law_due", "_law_first", "_law_second", "_law_left", "_law_right", "_law_found", "_law_parts", "_law_part", "_law_k", "_law_odd"]
theorem scLaw : FnScope nLaw ["_law_script"] (defScope sLaw) := ⟨rfl, rfl, rfl, by decide +kernel, rfl, by decide +kernel, by decide +kernel⟩
def spLaw (K : PySem.W.Frag) : Sp := fun vs H Q _ => ∃ (a : Addr) (ns : List Int), vs = [.ref a] ∧ SqL K H a (ns.map V.int) ∧ ns.length ≤ 63 ∧ ∀ H', Q (.bl true) H'
/-- the defs that the law calls -/
structure Defs (P : Program) (w : World) (K : PySem.W.Frag) (mg : Str → Option Value) (base : Heap) (Cs fE : Nat → Addr) (fdE : Nat → FuncData) (fD fO fC fM fA fF : Addr) (dD dO dC dM dA dF : FuncData) : Prop where
  D : FnOk P w K mg base CX0 1 fD dD ["_law_stream", "_law_many"] spDraw
  bD : Binds K dD ["_law_stream", "_law_many"] []
  kD : PySem.W.keepIn K (.ref fD) = true
  mD : mg "_law_draw" = some (.ref fD)
  O : FnOk P w K mg base CX0 11 fO dO ["_law_stream", "_law_deep"] (spObj 4)
  bO : Binds K dO ["_law_stream", "_law_deep"] []
  kO : PySem.W.keepIn K (.ref fO) = true
  mO : mg "_law_object" = some (.ref fO)
  C : FnOk P w K mg base CX0 12 fC dC ["_law_stream", "_law_model"] (spChg 6)
  bC : Binds K dC ["_law_stream", "_law_model"] []
  kC : PySem.W.keepIn K (.ref fC) = true
  mC : mg "_law_changed" = some (.ref fC)
  M : FnOk P w K mg base CX0 10 fM dM ["_law_model"] (spMade Cs 8)
  bM : Binds K dM ["_law_model"] []
  kM : PySem.W.keepIn K (.ref fM) = true
  mM : mg "_law_made" = some (.ref fM)
  A : FnOk P w K mg base CX0 9 fA dA ["_law_one", "_law_other"] (spAlike 8)
  bA : Binds K dA ["_law_one", "_law_other"] []
  kA : PySem.W.keepIn K (.ref fA) = true
  mA : mg "_law_alike" = some (.ref fA)
  F : FnOk P w K mg base CX0 1 fF dF ["_law_made_here"] (spFlds Cs 6)
  bF : Binds K dF ["_law_made_here"] []
  kF : PySem.W.keepIn K (.ref fF) = true
  mF : mg "_law_fields" = some (.ref fF)
  E : RcN P w K mg base Cs 7 8
  Es : ∀ k, k < 4 → FnOk P w K mg base CX0 8 (fE k) (fdE k) ["self", "other"] (spEqW Cs k 7)
  bE : ∀ k, k < 4 → Binds K (fdE k) ["self", "other"] []
mutual
theorem eqM_comm : ∀ d e : Md, eqM d e = eqM e d
  | .non, e => by cases e <;> simp only [eqM]
  | .int i, e => by
    cases e with
    | int j =>
      rw [eqM, eqM]
      exact BEq.comm
    | _ => rw [eqM, eqM]
  | .str x, e => by
    cases e with
    | str y =>
      rw [eqM, eqM]
      exact BEq.comm
    | _ => rw [eqM, eqM]
  | .lst l, e => by
    cases e with
    | lst m => rw [eqM, eqM, eqL_comm l m]
    | _ => rw [eqM, eqM]
  | .tup l, e => by
    cases e with
    | tup m => rw [eqM, eqM, eqL_comm l m]
    | _ => rw [eqM, eqM]
  | .obj w l, e => by
    cases e with
    | obj v m =>
      rw [eqM, eqM, eqL_comm l m, show (w == v) = (v == w) from BEq.comm]
    | _ => rw [eqM, eqM]
theorem eqL_comm : ∀ l m : List Md, eqL l m = eqL m l
  | [], m => by cases m <;> simp only [eqL]
  | x :: l, m => by
    cases m with
    | nil => rw [eqL, eqL]
    | cons y m => rw [eqL, eqL, eqM_comm x y, eqL_comm l m]
end
theorem cut1 (x : V) (xs : List V) : cutV (x :: xs) (some 1) none = xs := by
  unfold cutV
  rw [show HT.sIx (x :: xs).length 0 (some 1) = 1 from by show min 1 (xs.length + 1) = 1; omega]
  show List.take (xs.length + 1 - 1) xs = xs
  rw [Nat.add_sub_cancel, List.take_length]
theorem keepB {a c : Addr} {H H' : Hp} (k : Kept a c H H') : Same (res (fun b => b = a ∨ b = c) H) (res (fun b => b = a ∨ b = c) H') := res_up fun b o n e => ⟨n, k b o (fun z => n (.inl z)) (fun z => n (.inr z)) e⟩
section
variable {P : Program} {w : World} {K : PySem.W.Frag} {mg : Str → Option Value} {base : Heap} {Cs fE : Nat → Addr} {fdE : Nat → FuncData}
theorem ok_law {f fD fO fC fM fA fF : Addr} {fd dD dO dC dM dA dF : FuncData} (F : Fun K "law" "law" sLaw f fd) (T : Txt K Cs fE) (G : Glo K mg Cs) (Z : Blt mg) (Y : Defs P w K mg base Cs fE fdE fD fO fC fM fA fF dD dO dC dM dA dF) :
    FnOk P w K mg base CX0 13 f fd ["_law_script"] (spLaw K) := by
  refine F.ok scLaw (fun vs H Q E h => ?_) (fun cdv A outer s H vs Q E hr h => ?_)
  · obtain ⟨a, ns, rfl, _⟩ := h
    rfl
  obtain ⟨sc, ns, rfl, hsc, h63, q⟩ := h
  have ixl : ∀ X : Cx, X.K = K → IxR X (rIxL K) := fun X e => e ▸ ix_list
  have hr1 : Room 1 _ := hr.mono (by decide)
  have hr8 : Room 8 _ := hr.mono (by decide)
  have hr9 : Room 9 _ := hr.mono (by decide)
  have hr10 : Room 10 _ := hr.mono (by decide)
  have hr11 : Room 11 _ := hr.mono (by decide)
  refine ⟨_, pss_cons (ps_set (i := 1) scLaw.nd rfl (.inl rfl) (pe_lst (pa_cons (pe_callTy call_list_of (by rfl) Z.ls (by decide +kernel) (pa_cons (pv 0) pa_nil)) (pa_cons (pe_int) (pa_cons (pe_int) (pa_cons (pe_int) pa_nil))))))
    (pss_cons (ps_for PassesOwn.never rfl (pi_range1 rfl Z.rg (pa_cons (pe_int) pa_nil)) (pg_name (i := 2) scLaw.nd rfl (.inl rfl)) (pss_cons (ps_set (i := 3) scLaw.nd rfl (.inl rfl) (pe_call Y.O hr11 rfl Y.mO Y.kO Y.bO .nil pass0 (pa_cons (pv 1) (pa_cons (pe_int) pa_nil))))
    (pss_cons (ps_set (i := 4) scLaw.nd rfl (.inl rfl) (pe_ix ix_list (pe_lst (pa_cons (pe_call Y.C hr rfl Y.mC Y.kC Y.bC .nil pass0 (pa_cons (pv 1) (pa_cons (pv 3) pa_nil))) (pa_cons (pv 3) (pa_cons (pe_call Y.O hr11 rfl Y.mO Y.kO Y.bO .nil pass0 (pa_cons (pv 1) (pa_cons (pe_int) pa_nil))) pa_nil)))) (pe_call Y.D hr1 rfl Y.mD Y.kD Y.bD .nil pass0 (pa_cons (pv 1) (pa_cons (pe_int) pa_nil))) (fun _ _ => rfl)))
    (pss_cons (ps_set (i := 5) scLaw.nd rfl (.inl rfl) (pe_call Y.A hr9 rfl Y.mA Y.kA Y.bA .nil pass0 (pa_cons (pv 3) (pa_cons (pv 4) pa_nil))))
    (pss_cons (ps_par (i := 6) (j := 7) (by rfl) scLaw.nd rfl rfl (by decide) rfl rfl (pa_cons (pe_call Y.M hr10 rfl Y.mM Y.kM Y.bM .nil pass0 (pa_cons (pv 3) pa_nil)) (pa_cons (pe_call Y.M hr10 rfl Y.mM Y.kM Y.bM .nil pass0 (pa_cons (pv 4) pa_nil)) pa_nil)) (by rfl))
    (pss_cons (ps_for PassesOwn.never rfl (pi_tup (pe_tup (pa_cons (pe_tup (pa_cons (pv 6) (pa_cons (pv 7) pa_nil))) (pa_cons (pe_tup (pa_cons (pv 7) (pa_cons (pv 6) pa_nil))) pa_nil)))) (pg_tup rfl (pgs_cons (pg_name (i := 8) scLaw.nd rfl (.inl rfl)) (pgs_cons (pg_name (i := 9) scLaw.nd rfl (.inl rfl)) pgs_nil))) (pss_one (ps_if (PW.pt (pw_or (pt_cmpR (op_ne) (pe_cmpR (op_eqN (Cs := Cs) (n := 7) (k := 8) Y.E hr8) (pv 8) (pv 9) (nomark _)) (pv 5) (nomark _)) (pw_or1 (pt_cmpR (op_eq) (pe_cmpR (op_neA T Y.Es Y.bE hr9) (pv 8) (pv 9) (nomark _)) (pv 5) (nomark _))))) (pss_one (ps_ret pe_bl)) pss_nil)))
    (pss_cons (ps_set (i := 10) scLaw.nd rfl (.inr rfl) (pe_call Y.F hr1 rfl Y.mF Y.kF Y.bF .nil pass0 (pa_cons (pv 6) pa_nil)))
    (pss_cons (ps_if (PW.pt (pw_or (pt_cmpR (op_ne) (pe_ix ix_list (pv 10) (pe_int) (fun _ _ => rfl)) (pe_dget (hu_of hr) (pv 3) pe_str (fun _ _ => rfl)) (nomark _)) (pw_or1 (pt_cmpR (op_ne) (pe_callB call_len_seq rfl Z.ln PySem.boot_len (pa_cons (pv 10) pa_nil)) (pe_op op_add pe_int (pe_callB call_len_seq rfl Z.ln PySem.boot_len (pa_cons (pe_dget (hu_of hr) (pv 3) pe_str (fun _ _ => rfl)) pa_nil))) (nomark _))))) (pss_one (ps_ret pe_bl)) pss_nil)
    (pss_cons (ps_set (i := 11) scLaw.nd rfl (.inr rfl) (pe_lc (own := [("_law_part", 12)]) (g := gName 12) (tt := tYes) rfl scLaw.nd (pi_list (pe_dget (hu_of hr) (pv 3) pe_str (fun _ _ => rfl)))
      (blkOk_by (own := [("_law_part", 12)]) (N := nLaw) (sc := defScope sLaw) (by decide +kernel)) (fun _ _ _ _ _ => pg_name (i := 12) scLaw.nd rfl (.inl rfl)) (fun _ _ _ _ _ => pts_nil)
      (fun _ _ _ _ _ => pe_call Y.M hr10 rfl Y.mM Y.kM Y.bM .nil pass0 (pa_cons (pv 12) pa_nil))))
    (pss_cons (ps_if (PW.pt (pw_or (pt_not (pt_val (pe_callB (cr_all rfl) (by rfl) Z.al (by decide +kernel) (pa_cons (pe_lc (own := [("_law_k", 13)]) (g := gName 13) (tt := tYes) rfl scLaw.nd (pi_range1 rfl Z.rg (pa_cons (pe_callB call_len_seq rfl Z.ln PySem.boot_len (pa_cons (pv 11) pa_nil)) pa_nil))
      (blkOk_by (own := [("_law_k", 13)]) (N := nLaw) (sc := defScope sLaw) (by decide +kernel)) (fun _ _ _ _ _ => pg_name (i := 13) scLaw.nd rfl (.inl rfl)) (fun _ _ _ _ _ => pts_nil)
      (fun _ _ _ _ _ => pe_cmpR (op_eqN (Cs := Cs) (n := 7) (k := 8) Y.E hr8) (pe_ix (ixl _ rfl) (pv 10) (pe_op op_add pe_int (pv 13)) (fun _ _ => rfl)) (pe_ix (ixl _ rfl) (pv 11) (pv 13) (fun _ _ => rfl)) (nomark _))) pa_nil)))) (pw_or1 (pt_not (pt_cmpR (op_eqN (Cs := Cs) (n := 7) (k := 8) Y.E hr8) (pv 6) (pv 6) (nomark _)))))) (pss_one (ps_ret pe_bl)) pss_nil)
    (pss_one (ps_for PassesOwn.never rfl (pi_tup (pe_tup (pa_cons (pe_int) (pa_cons (pe_int) (pa_cons (pe_str) (pa_cons (pe_non) (pa_cons (pe_lst pa_nil) (pa_cons (pe_tup pa_nil) (pa_cons (pe_slice sl_list (pv 10) (po_some pe_int) po_none) (pa_cons (pe_callTy call_tuple_of (by rfl) Z.tp (by decide +kernel) (pa_cons (pe_slice sl_list (pv 10) (po_some pe_int) po_none) pa_nil)) (pa_cons (pe_str) pa_nil))))))))))) (pg_name (i := 14) scLaw.nd rfl (.inl rfl)) (pss_one (ps_if (PW.pt (pw_or (pt_cmpR (op_eqN (Cs := Cs) (n := 7) (k := 8) Y.E hr8) (pv 6) (pv 14) (nomark _)) (pw_or (pt_cmpR (op_eqN (Cs := Cs) (n := 7) (k := 8) Y.E hr8) (pv 14) (pv 6) (nomark _)) (pw_or1 (pt_not (pt_cmpR (op_neA T Y.Es Y.bE hr9) (pv 6) (pv 14) (nomark _))))))) (pss_one (ps_ret pe_bl)) pss_nil))))))))))))))
    (pss_one (ps_ret pe_bl))), ?_⟩
  have bl_ne : ∀ b b' : Bool, b = b' → (!decide (V.bl b = V.bl b')) = false := fun b b' e => by rw [e]; simp
  have bl_eq : ∀ b b' : Bool, b = b' → decide (V.bl (!b) = V.bl b') = false := fun b b' e => by
    rw [e]
    exact decide_eq_false fun z => by injection z with z; cases b' <;> cases z
  refine ⟨_, rfl, sc, _, rfl, .inl hsc, fun c0 nc0 => ⟨by show 4 ≤ sizeLine; decide, fun a0 na0 => ?_⟩⟩
  have ac : a0 ≠ c0 := fun z => by rw [z, upd_same] at na0; cases na0
  have h0 : StmAt (upd (upd H c0 (.lst (ns.map V.int))) a0 (.lst [.ref c0, .int 0, .int 0, .int 0])) a0 c0 ⟨ns, 0, 0, 0⟩ :=
    ⟨upd_same, by rw [upd_ne ac.symm, upd_same], ac, h63, Int.le_refl 0, Int.le_refl 0, Int.le_refl 0, by show (0 : Int) < 2147483647; decide⟩
  refine ⟨8, rfl, by decide, by decide, for_range (lo := 0) (n := 8) (fun i σ H1 => ∃ (S : Stm) (x2 x3 x4 x5 x6 x7 x8 x9 x10 x11 x12 x13 x14 : Option V), σ = [some (.ref sc), some (.ref a0), x2, x3, x4, x5, x6, x7, x8, x9, x10, x11, x12, x13, x14] ∧
    StmAt H1 a0 c0 S ∧ S.cnt ≤ (i : Int) * 1000) ?_ ?_ ?_⟩
  · exact ⟨⟨ns, 0, 0, 0⟩, none, none, none, none, none, none, none, none, none, none, none, none, none, rfl, h0, by show (0 : Int) ≤ _; omega⟩
  · rintro i σ H1 hi ⟨S, x2, x3, x4, x5, x6, x7, x8, x9, x10, x11, x12, x13, x14, rfl, h1, hc1⟩
    have cost3 : cost 3 = 37 := rfl
    have cost2 : cost 2 = 17 := rfl
    have cc5 : ccost 5 = 35 := rfl
    refine ⟨_, rfl, a0, c0, S, 3, rfl, by decide, by decide, h1, by rw [cost3]; omega, fun H2 S2 v k l h2 hc2 k2 m2 => ?_⟩
    rw [cost3] at hc2
    have n2 : Mo (res (fun b => b = a0 ∨ b = c0) H2) 5 v (.obj k l) := m2.same (res_up fun b o n e => ⟨fun z => n (by
      rcases z with rfl | rfl
      · exact h1.a0
      · exact h1.c0), e⟩)
    refine ⟨_, rfl, _, rfl, a0, c0, S2, fun b => b = a0 ∨ b = c0, v, .obj k l, 5, rfl, rfl, by decide, h2, .inl rfl, .inr rfl, n2, by rw [cc5]; omega, fun H3 S3 v3 d3 h3 hc3 k3 m3 => ?_⟩
    rw [cc5] at hc3
    have n3 : Mo (res (fun b => b = a0 ∨ b = c0) H3) 7 v3 d3 := m3.same (res_up fun b o n e => ⟨fun z => n ⟨z, by
      rcases z with rfl | rfl
      · exact h2.a0
      · exact h2.c0⟩, e⟩)
    refine ⟨_, rfl, _, rfl, a0, c0, S3, 2, rfl, by decide, by decide, h3, by rw [cost2]; omega, fun H4 S4 v4 k4 l4 h4 hc4 kk4 m4 => ?_⟩
    rw [cost2] at hc4
    have n4 : Mo (res (fun b => b = a0 ∨ b = c0) H4) 4 v4 (.obj k4 l4) := m4.same (res_up fun b o n e => ⟨fun z => n (by
      rcases z with rfl | rfl
      · exact h3.a0
      · exact h3.c0), e⟩)
    refine ⟨by show 3 ≤ sizeLine; decide, fun L nL => ?_⟩
    have sL := same_new (o := .lst [v3, v, v4]) nL
    have La : L ≠ a0 := fun z => h4.a0 (z ▸ nL)
    have Lc : L ≠ c0 := fun z => h4.c0 (z ▸ nL)
    refine ⟨_, rfl, a0, c0, S4, 3, rfl, h4.keep sL, by omega, by decide, by decide, fun H5 S5 r h5 hc5 k5 r0 r1 => ?_⟩
    have hL5 : H5 L = some (.lst [v3, v, v4]) := k5 _ _ La Lc upd_same
    have k45 : Kept a0 c0 H4 H5 := (Kept.same sL).trans k5
    have k25 : Kept a0 c0 H2 H5 := (k3.trans kk4).trans k45
    have o1 : Mo H5 7 v (.obj k l) := ((n2.same (keepB k25)).same res_out).mono (by decide)
    obtain ⟨xo, e, hxo, o2⟩ : ∃ xo e, atI [v3, v, v4] r = some xo ∧ Mo H5 7 xo e := by
      have r3 : r = 0 ∨ r = 1 ∨ r = 2 := by omega
      rcases r3 with rfl | rfl | rfl
      · exact ⟨v3, d3, rfl, (n3.same (keepB (kk4.trans k45))).same res_out⟩
      · exact ⟨v, _, rfl, o1⟩
      · exact ⟨v4, _, rfl, ((n4.same (keepB k45)).same res_out).mono (by decide)⟩
    have hcn : S5.cnt ≤ ((i + 1 : Nat) : Int) * 1000 := by omega
    refine ⟨L, _, _, _, rfl, rfl, SqL.of hL5, hxo, ?_⟩
    refine ⟨_, rfl, _, rfl, v, xo, .obj k l, e, 7, rfl, rfl, o1, o2, fun H6 s6 => ?_⟩
    refine ⟨_, rfl, v, .obj k l, 7, rfl, rfl, o1.same s6, fun H7 y1 s7 ma1 => ?_⟩
    refine ⟨_, rfl, xo, e, 7, rfl, rfl, (o2.same s6).same s7, fun H8 y2 s8 ma2 => ⟨_, _, rfl, ?_⟩⟩
    have p1 : Ma Cs H8 7 y1 (.obj k l) := (ma1.same res_out).same s8
    have p2 : Ma Cs H8 7 y2 e := ma2.same res_out
    have h8 := ((h5.keep s6).keep s7).keep s8
    have o18 : Mo H8 7 v (.obj k l) := ((o1.same s6).same s7).same s8
    clear ma1 ma2 n2 n3 n4 m2 m3 m4 k25 k45 k5 kk4 k3 k2 hL5 sL o2
    refine ⟨_, rfl, _, rfl, by show 2 ≤ sizeLine; decide, fun t1 nt1 => ⟨_, rfl, _, rfl, by show 2 ≤ sizeLine; decide, fun t2 nt2 => ⟨by show 2 ≤ sizeLine; decide, fun t3 nt3 => ⟨t3, rfl, ⟨_, SqT.of upd_same⟩, ?_⟩⟩⟩⟩
    have q1 := same_new (o := .tup [y1, y2]) nt1
    have q2 := same_new (o := .tup [y2, y1]) nt2
    have q3 := same_new (o := .tup [.ref t1, .ref t2]) nt3
    have s8c := (q1.trans q2).trans q3
    have ht1 := q3 _ _ (q2 _ _ (upd_same (H := H8) (a := t1) (o := .tup [y1, y2])))
    have ht2 := q3 _ _ (upd_same (H := upd H8 t1 (.tup [y1, y2])) (a := t2) (o := .tup [y2, y1]))
    have ht3 := upd_same (H := upd (upd H8 t1 (.tup [y1, y2])) t2 (.tup [y2, y1])) (a := t3) (o := .tup [.ref t1, .ref t2])
    generalize upd (upd (upd H8 t1 (.tup [y1, y2])) t2 (.tup [y2, y1])) t3 (.tup [.ref t1, .ref t2]) = Hc at s8c ht1 ht2 ht3
    clear q1 q2 q3 nt1 nt2 nt3
    refine for_tup (a := t3) (xs := [.ref t1, .ref t2]) (fun j σ H9 => ∃ z8 z9, σ = [some (.ref sc), some (.ref a0), some (.int (0 + (i : Int))), some v, some xo, some (.bl (eqM (.obj k l) e)), some y1, some y2, z8, z9, x10, x11, x12, x13, x14] ∧ Same Hc H9) ⟨x8, x9, rfl, Same.refl _⟩ (fun j σ H9 _ ⟨_, _, _, s⟩ => SqT.of (s _ _ ht3)) ?_ ?_
    · rintro j x σ H9 hx ⟨z8, z9, rfl, s9⟩
      obtain ⟨t, u1, u2, d1, d2, rfl, ht, m1, m2, heq, hk⟩ : ∃ (t : Addr) (u1 u2 : V) (d1 d2 : Md), x = .ref t ∧ Hc t = some (.tup [u1, u2]) ∧ Ma Cs H8 7 u1 d1 ∧ Ma Cs H8 7 u2 d2 ∧ eqM d1 d2 = eqM (.obj k l) e ∧ ((kindM d1).isSome || (kindM d2).isSome) = true := by
        rcases j with _ | _ | j
        · cases hx
          exact ⟨t1, y1, y2, _, _, rfl, ht1, p1, p2, rfl, by simp [kindM]⟩
        · cases hx
          exact ⟨t2, y2, y1, _, _, rfl, ht2, p2, p1, eqM_comm _ _, by simp [kindM]⟩
        · simp at hx
      have m1' := (m1.same s8c).same s9
      have m2' := (m2.same s8c).same s9
      refine ⟨t, [u1, u2], rfl, SqT.of (s9 _ _ ht), rfl, u1, [u2], rfl, u2, [], rfl, rfl, ?_⟩
      refine ⟨_, rfl, _, rfl, d1, d2, m1', m2', fun Ha sa => ⟨_, rfl, rfl, _, rfl, ?_⟩⟩
      rw [bl_ne _ _ heq]
      refine iteF ?_
      refine ⟨_, rfl, _, rfl, d1, d2, m1'.same sa, m2'.same sa, hk, fun Hb sb => ⟨_, rfl, rfl, _, rfl, ?_⟩⟩
      rw [bl_eq _ _ heq]
      exact iteF ⟨_, _, rfl, (s9.trans sa).trans sb⟩
    rintro σ H9 ⟨z8, z9, rfl, s9⟩
    have s89 := s8c.trans s9
    have p19 := p1.same s89
    have o19 := o18.same s89
    have h9 := h8.keep s89
    clear p1 p2 o18 h8 ht1 ht2 ht3
    refine ⟨_, rfl, y1, k, l, rfl, p19, fun H10 q10 xs s10 hq hl hxs => ?_⟩
    obtain ⟨j5, am, p, ys, h5e, rfl, hk4, ham, hp, hln, ms⟩ := (o19.same s10).asObj
    have wkl : (!decide (V.str (wordOf k) = V.str (wordOf k))) = false := by simp
    have at0 : atI (V.str (wordOf k) :: xs) (0 : Int) = some (V.str (wordOf k)) := atI_nat (j := 0) rfl
    refine ⟨_, rfl, q10, _, _, _, rfl, rfl, SqL.of hq, at0, _, rfl, am, _, rfl, getW ham, rfl, _, rfl, ?_⟩
    rw [wkl]
    refine iteF ?_
    refine ⟨_, rfl, q10, _, rfl, .inl (SqL.of hq), _, rfl, am, _, rfl, getP ham, p, ys, rfl, .inl (SqL.of hp), _, _, rfl, rfl, rfl, _, rfl, ?_⟩
    have hlen : (!decide (V.int ((V.str (wordOf k) :: xs).length : Nat) = V.int (1 + (ys.length : Nat)))) = false := by
      have : ((V.str (wordOf k) :: xs).length : Int) = 1 + (ys.length : Int) := by
        rw [List.length_cons, hl, ms.1]; omega
      rw [this]; simp
    rw [hlen]
    refine iteF ?_
    have j56 : j5 = 6 := by omega
    subst j56
    refine ⟨_, rfl, am, _, rfl, getP ham, p, rfl, ⟨_, SqL.of hp⟩, fun D nD => ?_⟩
    refine lc_list (K := K) (a := p) (xs := ys) (fun i H3 => ∃ zs, Made Cs D H10 7 l i H3 zs) ⟨_, .start nD⟩ (fun i H3 hi ⟨zs, R⟩ => SqL.of (R.sm _ _ hp)) ?_ ?_
    · rintro i x H3 hx ⟨zs, R⟩
      obtain ⟨e', he, me⟩ := ms_at ms hx
      refine ⟨rfl, ?_⟩
      unfold tYes
      refine iteT ?_
      refine ⟨_, rfl, x, e', 7, rfl, rfl, (me.same R.sm).mono (by decide), fun H4 r s4 m4 => ?_⟩
      obtain ⟨hD4, R'⟩ := R.step nD he s4 m4
      have ln := R.len
      have m1 := ms.1
      have hi2 : i < ys.length := by
        rcases Nat.lt_or_ge i ys.length with q | q
        · exact q
        · rw [List.getElem?_eq_none q] at hx; cases hx
      have hn2 : (namesOf k).length ≤ 2 := by
        rcases k with _ | _ | _ | _ | k
        · decide
        · decide
        · decide
        · decide
        · omega
      exact ⟨zs, hD4, Nat.lt_of_le_of_lt (by omega : zs.length ≤ 3) (by decide), _, R'⟩
    rintro H11 ⟨zs, R⟩
    obtain ⟨mz, -⟩ := R.out (Same.refl H10) nD (Same.refl H11)
    have hz : zs.length = l.length := by rw [R.len, ms.1]
    have hn2 : (namesOf k).length ≤ 2 := by
      rcases k with _ | _ | _ | _ | k
      · decide
      · decide
      · decide
      · decide
      · omega
    have hq11 := R.sm _ _ hq
    have hD11 := R.at_
    have p11 := (p19.same s10).same R.sm
    have hx11 : ∀ (i : Nat) x e, xs[i]? = some x → l[i]? = some e → Ma Cs H11 6 x e := fun i x e g1 g2 => (hxs i x e g1 g2).same R.sm
    have h11 := (h9.keep s10).keep R.sm
    clear p19 hxs h9 hq hp ham ms
    refine ⟨_, rfl, D, zs, rfl, .inl (SqL.of hD11), _, rfl, by omega, by omega, fun D2 nD2 => ?_⟩
    refine lc_range (lo := 0) (n := ((zs.length : Nat) : Int).toNat) (fun i H => Same H11 H ∧ H D2 = some (.lst ((List.replicate i true).map V.bl))) ⟨same_new nD2, upd_same⟩ ?_ ?_
    · rintro i H hi ⟨sH, hD2⟩
      have hiz : i < zs.length := by omega
      have hix : i < xs.length := by omega
      have hil : i < l.length := by omega
      refine ⟨rfl, ?_⟩
      unfold tYes
      refine iteT ?_
      have a1 : atI (V.str (wordOf k) :: xs) (1 + (0 + (i : Int))) = some xs[i] := by
        rw [show (1 + (0 + (i : Int))) = ((i + 1 : Nat) : Int) by omega]
        exact atI_nat (by rw [List.getElem?_cons_succ]; exact List.getElem?_eq_getElem hix)
      have a2 : atI zs (0 + (i : Int)) = some zs[i] := by
        rw [show (0 + (i : Int)) = (i : Int) by omega]
        exact atI_nat (List.getElem?_eq_getElem hiz)
      refine ⟨_, rfl, _, rfl, _, _, rfl, rfl, q10, _, _, _, rfl, rfl, SqL.of (sH _ _ hq11), a1, _, rfl, _, rfl, D, _, _, _, rfl, rfl, SqL.of (sH _ _ hD11), a2, l[i], l[i],
        ((hx11 i _ _ (List.getElem?_eq_getElem hix) (List.getElem?_eq_getElem hil)).mono (by decide)).same sH, ((mz i _ _ (List.getElem?_eq_getElem hiz) (List.getElem?_eq_getElem hil)).same res_out).same sH, fun Ha sa => ?_⟩
      rw [eqM_refl]
      refine ⟨_, sa _ _ hD2, ?_, fun b o eb => ?_, ?_⟩
      · rw [List.length_map, List.length_replicate]
        exact Nat.lt_of_le_of_lt (by omega : i ≤ 3) (by decide)
      · rw [upd_ne (ne_of_none eb nD2)]
        exact sa _ _ (sH _ _ eb)
      · rw [upd_same, List.replicate_succ', List.map_append]
        rfl
    rintro H12 ⟨s12, hD2⟩
    refine ⟨D2, _, rfl, SqL.of hD2, ?_⟩
    have hall : (List.replicate ((zs.length : Nat) : Int).toNat true).all id = true := by simp
    rw [hall]
    refine ⟨_, rfl, iteF ?_⟩
    refine ⟨_, rfl, _, rfl, .obj k l, .obj k l, p11.same s12, p11.same s12, fun H13 s13 => ?_⟩
    rw [eqM_refl]
    refine ⟨_, rfl, iteF ?_⟩
    have sx := s12.trans s13
    have hq13 := sx _ _ hq11
    have p13 := p11.same sx
    have h13 := h11.keep sx
    have hx13 : ∀ (i : Nat) x e, xs[i]? = some x → l[i]? = some e → Ma Cs H13 6 x e := fun i x e g1 g2 => (hx11 i x e g1 g2).same sx
    clear p11 hx11 h11 hq11 hD11 mz R
    refine ⟨Nat.zero_le _, fun e1 ne1 => ⟨Nat.zero_le _, fun e2 ne2 => ?_⟩⟩
    have g1 := same_new (o := .lst []) ne1
    have g2 := g1.trans (same_new (o := .tup []) ne2)
    refine ⟨_, rfl, _, rfl, q10, _, rfl, SqL.of (g2 _ _ hq13), fun t1 nt1 => ?_⟩
    rw [cut1]
    have g3 := g2.trans (same_new (o := .lst xs) nt1)
    refine ⟨_, rfl, _, rfl, q10, _, rfl, SqL.of (g3 _ _ hq13), fun t2 nt2 => ?_⟩
    rw [cut1]
    have g4 := g3.trans (same_new (o := .lst xs) nt2)
    refine ⟨t2, xs, rfl, .inl ⟨SqL.of upd_same, fun t3 nt3 => ?_⟩⟩
    have g5 := g4.trans (same_new (o := .tup xs) nt3)
    refine ⟨by show 9 ≤ sizeLine; decide, fun t4 nt4 => ⟨t4, rfl, ⟨_, SqT.of upd_same⟩, ?_⟩⟩
    have w4 := same_new (o := .tup [.int 0, .int 1, .str "", .non, .ref e1, .ref e2, .ref t1, .ref t3, .str "..."]) nt4
    have g6 := g5.trans w4
    have w3 := (same_new (o := .tup xs) nt3).trans w4
    have w2 := (same_new (o := .lst xs) nt2).trans w3
    have w1 := (same_new (o := .lst xs) nt1).trans w2
    have w0 := (same_new (o := .tup []) ne2).trans w1
    have he1 := w0 _ _ (upd_same (H := H13) (a := e1) (o := .lst []))
    have he2 := w1 _ _ (upd_same (a := e2) (o := .tup []))
    have hv1 := w2 _ _ (upd_same (a := t1) (o := .lst xs))
    have hv3 := w4 _ _ (upd_same (a := t3) (o := .tup xs))
    have hv4 := upd_same (H := upd (upd (upd (upd (upd H13 e1 (.lst [])) e2 (.tup [])) t1 (.lst xs)) t2 (.lst xs)) t3 (.tup xs)) (a := t4) (o := .tup [.int 0, .int 1, .str "", .non, .ref e1, .ref e2, .ref t1, .ref t3, .str "..."])
    generalize upd (upd (upd (upd (upd (upd H13 e1 (.lst [])) e2 (.tup [])) t1 (.lst xs)) t2 (.lst xs)) t3 (.tup xs)) t4 (.tup [.int 0, .int 1, .str "", .non, .ref e1, .ref e2, .ref t1, .ref t3, .str "..."]) = Ht at *
    have p14 := p13.same g6
    have h14 := h13.keep g6
    have hx14 : ∀ (i : Nat) x e, xs[i]? = some x → l[i]? = some e → Ma Cs Ht 6 x e := fun i x e z1 z2 => (hx13 i x e z1 z2).same g6
    have odd : ∀ x ∈ ([.int 0, .int 1, .str "", .non, .ref e1, .ref e2, .ref t1, .ref t3, .str "..."] : List V), ∃ d, kindM d = none ∧ Ma Cs Ht 7 x d := fun x hx => by
      simp only [List.mem_cons, List.not_mem_nil, or_false] at hx
      rcases hx with rfl | rfl | rfl | rfl | rfl | rfl | rfl | rfl | rfl
      · exact ⟨.int 0, rfl, .inl (.inr (.inl ⟨_, rfl, rfl⟩))⟩
      · exact ⟨.int 1, rfl, .inl (.inr (.inl ⟨_, rfl, rfl⟩))⟩
      · exact ⟨.str "", rfl, .inl (.inr (.inr ⟨_, rfl, rfl⟩))⟩
      · exact ⟨.non, rfl, .inl (.inl ⟨rfl, rfl⟩)⟩
      · exact ⟨.lst [], rfl, .inr (.inl ⟨e1, [], [], rfl, rfl, he1, rfl, fun i x e z => by simp at z⟩)⟩
      · exact ⟨.tup [], rfl, .inr (.inr (.inl ⟨e2, [], [], rfl, rfl, he2, rfl, fun i x e z => by simp at z⟩))⟩
      · exact ⟨.lst l, rfl, .inr (.inl ⟨t1, xs, l, rfl, rfl, hv1, hl, hx14⟩)⟩
      · exact ⟨.tup l, rfl, .inr (.inr (.inl ⟨t3, xs, l, rfl, rfl, hv3, hl, hx14⟩))⟩
      · exact ⟨.str "...", rfl, .inl (.inr (.inr ⟨_, rfl, rfl⟩))⟩
    refine for_tup (a := t4) (xs := [.int 0, .int 1, .str "", .non, .ref e1, .ref e2, .ref t1, .ref t3, .str "..."]) (fun j σ H9 => ∃ z14, σ = [some (.ref sc), some (.ref a0), some (.int (0 + (i : Int))), some (.ref am), some xo, some (.bl (eqM (.obj k l) e)), some y1, some y2, z8, z9, some (.ref q10), some (.ref D), x12, x13, z14] ∧ Same Ht H9) ⟨x14, rfl, Same.refl _⟩ (fun j σ H9 _ ⟨_, _, s⟩ => SqT.of (s _ _ hv4)) ?_ ?_
    · rintro j x σ H14 hx ⟨z14, rfl, s14⟩
      obtain ⟨d, hd, md⟩ := odd x (List.mem_of_getElem? hx)
      obtain ⟨c1, c2⟩ := eqM_comm_obj (j := k) (l := l) hd
      refine ⟨_, rfl, _, rfl, .obj k l, d, p14.same s14, md.same s14, fun Ha sa => ?_⟩
      rw [c2]
      refine ⟨_, rfl, iteF ?_⟩
      have sA := s14.trans sa
      refine ⟨_, rfl, _, rfl, d, .obj k l, md.same sA, p14.same sA, fun Hb sb => ?_⟩
      rw [c1]
      refine ⟨_, rfl, iteF ?_⟩
      have sB := sA.trans sb
      refine ⟨_, rfl, _, rfl, .obj k l, d, p14.same sB, md.same sB, rfl, fun Hd sd => ?_⟩
      rw [c2]
      exact ⟨_, rfl, iteF ⟨_, rfl, sB.trans sd⟩⟩
    · rintro σ H14 ⟨z14, rfl, s14⟩
      exact ⟨S5, _, _, _, _, _, _, _, _, _, _, _, _, _, rfl, h14.keep s14, hcn⟩
  · rintro σ H1 ⟨S, x2, x3, x4, x5, x6, x7, x8, x9, x10, x11, x12, x13, x14, rfl, h1, hc1⟩
    exact q H1
end
end K6
/-! part T -/
set_option maxHeartbeats 8000000
namespace K6
open PySem PySem.Spec PyProof.Rows L2
theorem nodup_getD {l : List Addr} (h : l.Nodup) {i j : Nat} (hi : i < l.length) (hj : j < l.length) (e : l.getD i 0 = l.getD j 0) : i = j := by
  rw [List.getD_eq_getElem?_getD, List.getD_eq_getElem?_getD, List.getElem?_eq_getElem hi, List.getElem?_eq_getElem hj] at e
  have p := List.pairwise_iff_getElem.mp h
  rcases Nat.lt_trichotomy i j with z | z | z
  · exact absurd e (p i j hi hj z)
  · exact z
  · exact absurd e.symm (p j i hj hi z)
theorem room_top : Room 13 callerA := ⟨rfl, by decide, by decide⟩
theorem mro_of {K : PySem.W.Frag} {C : Addr} {oc : Value} {od : Option Addr} {nm q : Str} {N : Addr} {bs sub : List Value} {hd ab dl : Bool} {sn : List Str} {col : Option Bool} {sl : Array (Option Value)}
    (l : K.lookup C = some ⟨oc, od, .cls ⟨nm, bs, [.ref C, .type "object"], N, q, hd, sn, sub, ab, col, dl⟩, sl⟩) (b : Value) : PySem.W.mroIn K C b = some (([.ref C, .type "object"] : List Value).contains b) := by
  unfold PySem.W.mroIn PySem.W.clsIn
  rw [l]
  rfl
set_option maxHeartbeats 16000000 in
theorem all_mk {P : Program} {w : World} {K : PySem.W.Frag} {h : Heap} {mg : Str → Option Value} {fa C0 C1 C2 C3 e0 e1 e2 e3 f1 f2 f3 gD gP gT gO gM gG gF gA gL : Addr} (X : K.In h) (G : h.Ns mainGlobals mg) (hfa : mg "law" = some (.ref fa))
    {co0 : Value} {cd0 : Option Addr} {nm0 q0 : Str} {N0 : Addr} {bs0 sub0 : List Value} {hd0 ab0 dl0 : Bool} {sn0 : List Str} {col0 : Option Bool} {cs0 : Array (Option Value)}
    {odE0 anE0 : Option Addr} {slE0 : Array (Option Value)} {ocE0 kvE0 dcE0 pmE0 cdE0 ctE0 : Value}
    {co1 : Value} {cd1 : Option Addr} {nm1 q1 : Str} {N1 : Addr} {bs1 sub1 : List Value} {hd1 ab1 dl1 : Bool} {sn1 : List Str} {col1 : Option Bool} {cs1 : Array (Option Value)}
    {odE1 anE1 : Option Addr} {slE1 : Array (Option Value)} {ocE1 kvE1 dcE1 pmE1 cdE1 ctE1 : Value}
    {odI1 anI1 : Option Addr} {slI1 : Array (Option Value)} {ocI1 kvI1 dcI1 pmI1 cdI1 ctI1 : Value}
    {co2 : Value} {cd2 : Option Addr} {nm2 q2 : Str} {N2 : Addr} {bs2 sub2 : List Value} {hd2 ab2 dl2 : Bool} {sn2 : List Str} {col2 : Option Bool} {cs2 : Array (Option Value)}
    {odE2 anE2 : Option Addr} {slE2 : Array (Option Value)} {ocE2 kvE2 dcE2 pmE2 cdE2 ctE2 : Value}
    {odI2 anI2 : Option Addr} {slI2 : Array (Option Value)} {ocI2 kvI2 dcI2 pmI2 cdI2 ctI2 : Value}
    {co3 : Value} {cd3 : Option Addr} {nm3 q3 : Str} {N3 : Addr} {bs3 sub3 : List Value} {hd3 ab3 dl3 : Bool} {sn3 : List Str} {col3 : Option Bool} {cs3 : Array (Option Value)}
    {odE3 anE3 : Option Addr} {slE3 : Array (Option Value)} {ocE3 kvE3 dcE3 pmE3 cdE3 ctE3 : Value}
    {odI3 anI3 : Option Addr} {slI3 : Array (Option Value)} {ocI3 kvI3 dcI3 pmI3 cdI3 ctI3 : Value}
    {odD anD : Option Addr} {slD : Array (Option Value)} {ocD kvD dcD pmD cdD ctD : Value}
    {odP anP : Option Addr} {slP : Array (Option Value)} {ocP kvP dcP pmP cdP ctP : Value}
    {odT anT : Option Addr} {slT : Array (Option Value)} {ocT kvT dcT pmT cdT ctT : Value}
    {odO anO : Option Addr} {slO : Array (Option Value)} {ocO kvO dcO pmO cdO ctO : Value}
    {odM anM : Option Addr} {slM : Array (Option Value)} {ocM kvM dcM pmM cdM ctM : Value}
    {odG anG : Option Addr} {slG : Array (Option Value)} {ocG kvG dcG pmG cdG ctG : Value}
    {odF anF : Option Addr} {slF : Array (Option Value)} {ocF kvF dcF pmF cdF ctF : Value}
    {odA anA : Option Addr} {slA : Array (Option Value)} {ocA kvA dcA pmA cdA ctA : Value}
    {odL anL : Option Addr} {slL : Array (Option Value)} {ocL kvL dcL pmL cdL ctL : Value}
    (a0 : PySem.W.nsIn K mainGlobals "Dots" = some (some (.ref C0)))
    (l0 : K.lookup C0 = some ⟨co0, cd0, .cls ⟨nm0, bs0, [.ref C0, .type "object"], N0, q0, hd0, sn0, sub0, ab0, col0, dl0⟩, cs0⟩)
    (pg0 : PySem.W.plainGet K C0 Str.empty = true)
    (hx0 : PySem.W.hasDictIn K C0 = true)
    (po0 : PySem.W.plainOver K C0 = true)
    (sa0 : PySem.W.findIn K (.ref C0) "__setattr__" = some (some (.builtin "object.__setattr__")))
    (eq0 : PySem.W.findIn K (.ref C0) "__eq__" = some (some (.ref e0)))
    (fe0 : PySem.W.isFn K (.ref e0) = true)
    (ne0 : PySem.W.findIn K (.ref C0) "__ne__" = some (some (.builtin "object.__ne__")))
    (iC0 : PySem.W.isClsIn K C0 = true)
    (tC0 : PySem.W.typeIn K (.ref C0) = some (.type "type"))
    (cl0 : PySem.W.findIn K (.ref C0) "__class__" = some (some (.builtin "object.__class__")))
    (mk0 : PySem.W.makesIn K C0 = true)
    (kC0 : PySem.W.keepIn K (.ref C0) = true)
    (lDE0 : K.lookup e0 = some ⟨ocE0, odE0, .func (PySem.W.fnOf "__eq__" "Dots.__eq__" (defArgs sEq0) (defBody sEq0) (defScope sEq0) .none kvE0 dcE0 pmE0 anE0 cdE0 ctE0), slE0⟩)
    (cDE0 : PySem.W.codeIn K cdE0 "Dots.__eq__" = true)
    (kDE0 : PySem.W.keepIn K (.ref e0) = true)
    (i0 : PySem.W.findIn K (.ref C0) "__init__" = some (some (.builtin "object.__init__")))
    (a1 : PySem.W.nsIn K mainGlobals "Float" = some (some (.ref C1)))
    (l1 : K.lookup C1 = some ⟨co1, cd1, .cls ⟨nm1, bs1, [.ref C1, .type "object"], N1, q1, hd1, sn1, sub1, ab1, col1, dl1⟩, cs1⟩)
    (pg1 : PySem.W.plainGet K C1 Str.empty = true)
    (hx1 : PySem.W.hasDictIn K C1 = true)
    (po1 : PySem.W.plainOver K C1 = true)
    (sa1 : PySem.W.findIn K (.ref C1) "__setattr__" = some (some (.builtin "object.__setattr__")))
    (eq1 : PySem.W.findIn K (.ref C1) "__eq__" = some (some (.ref e1)))
    (fe1 : PySem.W.isFn K (.ref e1) = true)
    (ne1 : PySem.W.findIn K (.ref C1) "__ne__" = some (some (.builtin "object.__ne__")))
    (iC1 : PySem.W.isClsIn K C1 = true)
    (tC1 : PySem.W.typeIn K (.ref C1) = some (.type "type"))
    (cl1 : PySem.W.findIn K (.ref C1) "__class__" = some (some (.builtin "object.__class__")))
    (mk1 : PySem.W.makesIn K C1 = true)
    (kC1 : PySem.W.keepIn K (.ref C1) = true)
    (lDE1 : K.lookup e1 = some ⟨ocE1, odE1, .func (PySem.W.fnOf "__eq__" "Float.__eq__" (defArgs sEq1) (defBody sEq1) (defScope sEq1) .none kvE1 dcE1 pmE1 anE1 cdE1 ctE1), slE1⟩)
    (cDE1 : PySem.W.codeIn K cdE1 "Float.__eq__" = true)
    (kDE1 : PySem.W.keepIn K (.ref e1) = true)
    (i1 : PySem.W.findIn K (.ref C1) "__init__" = some (some (.ref f1)))
    (fi1 : PySem.W.isFn K (.ref f1) = true)
    (lDI1 : K.lookup f1 = some ⟨ocI1, odI1, .func (PySem.W.fnOf "__init__" "Float.__init__" (defArgs sIn1) (defBody sIn1) (defScope sIn1) .none kvI1 dcI1 pmI1 anI1 cdI1 ctI1), slI1⟩)
    (cDI1 : PySem.W.codeIn K cdI1 "Float.__init__" = true)
    (kDI1 : PySem.W.keepIn K (.ref f1) = true)
    (n1_0 : PySem.W.findIn K (.ref C1) "mantissa" = some none)
    (n1_1 : PySem.W.findIn K (.ref C1) "exponent" = some none)
    (a2 : PySem.W.nsIn K mainGlobals "Imaginary" = some (some (.ref C2)))
    (l2 : K.lookup C2 = some ⟨co2, cd2, .cls ⟨nm2, bs2, [.ref C2, .type "object"], N2, q2, hd2, sn2, sub2, ab2, col2, dl2⟩, cs2⟩)
    (pg2 : PySem.W.plainGet K C2 Str.empty = true)
    (hx2 : PySem.W.hasDictIn K C2 = true)
    (po2 : PySem.W.plainOver K C2 = true)
    (sa2 : PySem.W.findIn K (.ref C2) "__setattr__" = some (some (.builtin "object.__setattr__")))
    (eq2 : PySem.W.findIn K (.ref C2) "__eq__" = some (some (.ref e2)))
    (fe2 : PySem.W.isFn K (.ref e2) = true)
    (ne2 : PySem.W.findIn K (.ref C2) "__ne__" = some (some (.builtin "object.__ne__")))
    (iC2 : PySem.W.isClsIn K C2 = true)
    (tC2 : PySem.W.typeIn K (.ref C2) = some (.type "type"))
    (cl2 : PySem.W.findIn K (.ref C2) "__class__" = some (some (.builtin "object.__class__")))
    (mk2 : PySem.W.makesIn K C2 = true)
    (kC2 : PySem.W.keepIn K (.ref C2) = true)
    (lDE2 : K.lookup e2 = some ⟨ocE2, odE2, .func (PySem.W.fnOf "__eq__" "Imaginary.__eq__" (defArgs sEq2) (defBody sEq2) (defScope sEq2) .none kvE2 dcE2 pmE2 anE2 cdE2 ctE2), slE2⟩)
    (cDE2 : PySem.W.codeIn K cdE2 "Imaginary.__eq__" = true)
    (kDE2 : PySem.W.keepIn K (.ref e2) = true)
    (i2 : PySem.W.findIn K (.ref C2) "__init__" = some (some (.ref f2)))
    (fi2 : PySem.W.isFn K (.ref f2) = true)
    (lDI2 : K.lookup f2 = some ⟨ocI2, odI2, .func (PySem.W.fnOf "__init__" "Imaginary.__init__" (defArgs sIn2) (defBody sIn2) (defScope sIn2) .none kvI2 dcI2 pmI2 anI2 cdI2 ctI2), slI2⟩)
    (cDI2 : PySem.W.codeIn K cdI2 "Imaginary.__init__" = true)
    (kDI2 : PySem.W.keepIn K (.ref f2) = true)
    (n2_0 : PySem.W.findIn K (.ref C2) "number" = some none)
    (a3 : PySem.W.nsIn K mainGlobals "Octets" = some (some (.ref C3)))
    (l3 : K.lookup C3 = some ⟨co3, cd3, .cls ⟨nm3, bs3, [.ref C3, .type "object"], N3, q3, hd3, sn3, sub3, ab3, col3, dl3⟩, cs3⟩)
    (pg3 : PySem.W.plainGet K C3 Str.empty = true)
    (hx3 : PySem.W.hasDictIn K C3 = true)
    (po3 : PySem.W.plainOver K C3 = true)
    (sa3 : PySem.W.findIn K (.ref C3) "__setattr__" = some (some (.builtin "object.__setattr__")))
    (eq3 : PySem.W.findIn K (.ref C3) "__eq__" = some (some (.ref e3)))
    (fe3 : PySem.W.isFn K (.ref e3) = true)
    (ne3 : PySem.W.findIn K (.ref C3) "__ne__" = some (some (.builtin "object.__ne__")))
    (iC3 : PySem.W.isClsIn K C3 = true)
    (tC3 : PySem.W.typeIn K (.ref C3) = some (.type "type"))
    (cl3 : PySem.W.findIn K (.ref C3) "__class__" = some (some (.builtin "object.__class__")))
    (mk3 : PySem.W.makesIn K C3 = true)
    (kC3 : PySem.W.keepIn K (.ref C3) = true)
    (lDE3 : K.lookup e3 = some ⟨ocE3, odE3, .func (PySem.W.fnOf "__eq__" "Octets.__eq__" (defArgs sEq3) (defBody sEq3) (defScope sEq3) .none kvE3 dcE3 pmE3 anE3 cdE3 ctE3), slE3⟩)
    (cDE3 : PySem.W.codeIn K cdE3 "Octets.__eq__" = true)
    (kDE3 : PySem.W.keepIn K (.ref e3) = true)
    (i3 : PySem.W.findIn K (.ref C3) "__init__" = some (some (.ref f3)))
    (fi3 : PySem.W.isFn K (.ref f3) = true)
    (lDI3 : K.lookup f3 = some ⟨ocI3, odI3, .func (PySem.W.fnOf "__init__" "Octets.__init__" (defArgs sIn3) (defBody sIn3) (defScope sIn3) .none kvI3 dcI3 pmI3 anI3 cdI3 ctI3), slI3⟩)
    (cDI3 : PySem.W.codeIn K cdI3 "Octets.__init__" = true)
    (kDI3 : PySem.W.keepIn K (.ref f3) = true)
    (n3_0 : PySem.W.findIn K (.ref C3) "numbers" = some none)
    (aDD : PySem.W.nsIn K mainGlobals "_law_draw" = some (some (.ref gD)))
    (lDD : K.lookup gD = some ⟨ocD, odD, .func (PySem.W.fnOf "_law_draw" "_law_draw" (defArgs sDraw) (defBody sDraw) (defScope sDraw) .none kvD dcD pmD anD cdD ctD), slD⟩)
    (cDD : PySem.W.codeIn K cdD "_law_draw" = true)
    (kDD : PySem.W.keepIn K (.ref gD) = true)
    (aDP : PySem.W.nsIn K mainGlobals "_law_pick" = some (some (.ref gP)))
    (lDP : K.lookup gP = some ⟨ocP, odP, .func (PySem.W.fnOf "_law_pick" "_law_pick" (defArgs sPick) (defBody sPick) (defScope sPick) .none kvP dcP pmP anP cdP ctP), slP⟩)
    (cDP : PySem.W.codeIn K cdP "_law_pick" = true)
    (kDP : PySem.W.keepIn K (.ref gP) = true)
    (aDT : PySem.W.nsIn K mainGlobals "_law_thing" = some (some (.ref gT)))
    (lDT : K.lookup gT = some ⟨ocT, odT, .func (PySem.W.fnOf "_law_thing" "_law_thing" (defArgs sThing) (defBody sThing) (defScope sThing) .none kvT dcT pmT anT cdT ctT), slT⟩)
    (cDT : PySem.W.codeIn K cdT "_law_thing" = true)
    (kDT : PySem.W.keepIn K (.ref gT) = true)
    (aDO : PySem.W.nsIn K mainGlobals "_law_object" = some (some (.ref gO)))
    (lDO : K.lookup gO = some ⟨ocO, odO, .func (PySem.W.fnOf "_law_object" "_law_object" (defArgs sObj) (defBody sObj) (defScope sObj) .none kvO dcO pmO anO cdO ctO), slO⟩)
    (cDO : PySem.W.codeIn K cdO "_law_object" = true)
    (kDO : PySem.W.keepIn K (.ref gO) = true)
    (aDM : PySem.W.nsIn K mainGlobals "_law_made" = some (some (.ref gM)))
    (lDM : K.lookup gM = some ⟨ocM, odM, .func (PySem.W.fnOf "_law_made" "_law_made" (defArgs sMade) (defBody sMade) (defScope sMade) .none kvM dcM pmM anM cdM ctM), slM⟩)
    (cDM : PySem.W.codeIn K cdM "_law_made" = true)
    (kDM : PySem.W.keepIn K (.ref gM) = true)
    (aDG : PySem.W.nsIn K mainGlobals "_law_changed" = some (some (.ref gG)))
    (lDG : K.lookup gG = some ⟨ocG, odG, .func (PySem.W.fnOf "_law_changed" "_law_changed" (defArgs sChg) (defBody sChg) (defScope sChg) .none kvG dcG pmG anG cdG ctG), slG⟩)
    (cDG : PySem.W.codeIn K cdG "_law_changed" = true)
    (kDG : PySem.W.keepIn K (.ref gG) = true)
    (aDF : PySem.W.nsIn K mainGlobals "_law_fields" = some (some (.ref gF)))
    (lDF : K.lookup gF = some ⟨ocF, odF, .func (PySem.W.fnOf "_law_fields" "_law_fields" (defArgs sFlds) (defBody sFlds) (defScope sFlds) .none kvF dcF pmF anF cdF ctF), slF⟩)
    (cDF : PySem.W.codeIn K cdF "_law_fields" = true)
    (kDF : PySem.W.keepIn K (.ref gF) = true)
    (aDA : PySem.W.nsIn K mainGlobals "_law_alike" = some (some (.ref gA)))
    (lDA : K.lookup gA = some ⟨ocA, odA, .func (PySem.W.fnOf "_law_alike" "_law_alike" (defArgs sAlike) (defBody sAlike) (defScope sAlike) .none kvA dcA pmA anA cdA ctA), slA⟩)
    (cDA : PySem.W.codeIn K cdA "_law_alike" = true)
    (kDA : PySem.W.keepIn K (.ref gA) = true)
    (aDL : PySem.W.nsIn K mainGlobals "law" = some (some (.ref gL)))
    (lDL : K.lookup gL = some ⟨ocL, odL, .func (PySem.W.fnOf "law" "law" (defArgs sLaw) (defBody sLaw) (defScope sLaw) .none kvL dcL pmL anL cdL ctL), slL⟩)
    (cDL : PySem.W.codeIn K cdL "law" = true)
    (kDL : PySem.W.keepIn K (.ref gL) = true)
    (z_int : PySem.W.nsIn K mainGlobals "int" = some none)
    (z_len : PySem.W.nsIn K mainGlobals "len" = some none)
    (z_range : PySem.W.nsIn K mainGlobals "range" = some none)
    (z_tuple : PySem.W.nsIn K mainGlobals "tuple" = some none)
    (z_isinstance : PySem.W.nsIn K mainGlobals "isinstance" = some none)
    (z_list : PySem.W.nsIn K mainGlobals "list" = some none)
    (z_dict : PySem.W.nsIn K mainGlobals "dict" = some none)
    (z_zip : PySem.W.nsIn K mainGlobals "zip" = some none)
    (z_all : PySem.W.nsIn K mainGlobals "all" = some none)
    (sp : PySem.W.specialIn K (.builtin "object.__class__") "__get__" = some (some (.builtin "getset_descriptor.__get__")))
    (tk : PySem.W.takesIn K (.builtin "object.__class__") = some true)
    (nd : ([C0, C1, C2, C3] : List Addr).Nodup)
    : ∃ fd : FuncData, (∀ (s : Shared) (v : Value), BindsTo s fd ⟨[v], []⟩ [("_law_script", v)]) ∧ ∀ base : Heap, K.In base → base.Ns mainGlobals mg → FnOk P w K mg base CX0 13 fa fd ["_law_script"] (spLaw K) := by
  have e := hfa.symm.trans (PySem.W.mg_of X G aDL)
  cases e
  let Cs : Nat → Addr := fun k => ([C0, C1, C2, C3] : List Addr).getD k 0
  let fE : Nat → Addr := fun k => ([e0, e1, e2, e3] : List Addr).getD k 0
  let fI : Nat → Addr := fun k => ([e0, f1, f2, f3] : List Addr).getD k 0
  have T : Txt K Cs fE := {
    inj := fun i j hi hj e => nodup_getD nd hi hj e, sp := sp, tk := tk,
    cl := fun k hk => match k, hk with
      | 0, _ => ⟨pg0, hx0, po0, sa0⟩
      | 1, _ => ⟨pg1, hx1, po1, sa1⟩
      | 2, _ => ⟨pg2, hx2, po2, sa2⟩
      | 3, _ => ⟨pg3, hx3, po3, sa3⟩,
    eq := fun k hk => match k, hk with
      | 0, _ => eq0
      | 1, _ => eq1
      | 2, _ => eq2
      | 3, _ => eq3,
    fn := fun k hk => match k, hk with
      | 0, _ => fe0
      | 1, _ => fe1
      | 2, _ => fe2
      | 3, _ => fe3,
    ne := fun k hk => match k, hk with
      | 0, _ => ne0
      | 1, _ => ne1
      | 2, _ => ne2
      | 3, _ => ne3,
    mro := fun k hk => match k, hk with
      | 0, _ => mro_of l0
      | 1, _ => mro_of l1
      | 2, _ => mro_of l2
      | 3, _ => mro_of l3,
    isC := fun k hk => match k, hk with
      | 0, _ => iC0
      | 1, _ => iC1
      | 2, _ => iC2
      | 3, _ => iC3,
    tyC := fun k hk => match k, hk with
      | 0, _ => tC0
      | 1, _ => tC1
      | 2, _ => tC2
      | 3, _ => tC3,
    cls := fun k hk => match k, hk with
      | 0, _ => cl0
      | 1, _ => cl1
      | 2, _ => cl2
      | 3, _ => cl3 }
  have GL : Glo K mg Cs := {
    g0 := PySem.W.mg_of X G a0, g1 := PySem.W.mg_of X G a1, g2 := PySem.W.mg_of X G a2, g3 := PySem.W.mg_of X G a3, zI := PySem.W.mg_none_of X G z_isinstance,
    noF := fun k hk n hn => match k, hk, hn with
      | 0, _, hn => absurd hn (by simp [namesOf])
      | 1, _, hn => by
        rcases List.mem_cons.mp hn with e | hn
        · rw [e]; exact n1_0
        · rw [List.mem_singleton.mp hn]; exact n1_1
      | 2, _, hn => by rw [List.mem_singleton.mp hn]; exact n2_0
      | 3, _, hn => by rw [List.mem_singleton.mp hn]; exact n3_0 }
  have Z : Blt mg := { rg := PySem.W.mg_none_of X G z_range, tp := PySem.W.mg_none_of X G z_tuple, ls := PySem.W.mg_none_of X G z_list, dc := PySem.W.mg_none_of X G z_dict, ln := PySem.W.mg_none_of X G z_len, zp := PySem.W.mg_none_of X G z_zip, al := PySem.W.mg_none_of X G z_all, it := PySem.W.mg_none_of X G z_int }
  have FD := fun_mk (st := sDraw) lDD cDD kDD
  have bD := FD.binds (ps := ["_law_stream", "_law_many"]) fun _ _ _ _ _ _ us hl => match us, hl with | [_, _], _ => rfl
  have FP := fun_mk (st := sPick) lDP cDP kDP
  have bP := FP.binds (ps := ["_law_stream", "_law_some"]) fun _ _ _ _ _ _ us hl => match us, hl with | [_, _], _ => rfl
  have FT := fun_mk (st := sThing) lDT cDT kDT
  have bT := FT.binds (ps := ["_law_stream", "_law_deep"]) fun _ _ _ _ _ _ us hl => match us, hl with | [_, _], _ => rfl
  have FO := fun_mk (st := sObj) lDO cDO kDO
  have bO := FO.binds (ps := ["_law_stream", "_law_deep"]) fun _ _ _ _ _ _ us hl => match us, hl with | [_, _], _ => rfl
  have FM := fun_mk (st := sMade) lDM cDM kDM
  have bM := FM.binds (ps := ["_law_model"]) fun _ _ _ _ _ _ us hl => match us, hl with | [_], _ => rfl
  have FG := fun_mk (st := sChg) lDG cDG kDG
  have bG := FG.binds (ps := ["_law_stream", "_law_model"]) fun _ _ _ _ _ _ us hl => match us, hl with | [_, _], _ => rfl
  have FF := fun_mk (st := sFlds) lDF cDF kDF
  have bF := FF.binds (ps := ["_law_made_here"]) fun _ _ _ _ _ _ us hl => match us, hl with | [_], _ => rfl
  have FA := fun_mk (st := sAlike) lDA cDA kDA
  have bA := FA.binds (ps := ["_law_one", "_law_other"]) fun _ _ _ _ _ _ us hl => match us, hl with | [_, _], _ => rfl
  have FL := fun_mk (st := sLaw) lDL cDL kDL
  have FE0 := fun_mk (st := sEq0) lDE0 cDE0 kDE0
  have bE0 := FE0.binds (ps := ["self", "other"]) fun _ _ _ _ _ _ us hl => match us, hl with | [_, _], _ => rfl
  have FE1 := fun_mk (st := sEq1) lDE1 cDE1 kDE1
  have bE1 := FE1.binds (ps := ["self", "other"]) fun _ _ _ _ _ _ us hl => match us, hl with | [_, _], _ => rfl
  have FI1 := fun_mk (st := sIn1) lDI1 cDI1 kDI1
  have bI1 := FI1.binds (ps := ["self", "mantissa", "exponent"]) fun _ _ _ _ _ _ us hl => match us, hl with | [_, _, _], _ => rfl
  have FE2 := fun_mk (st := sEq2) lDE2 cDE2 kDE2
  have bE2 := FE2.binds (ps := ["self", "other"]) fun _ _ _ _ _ _ us hl => match us, hl with | [_, _], _ => rfl
  have FI2 := fun_mk (st := sIn2) lDI2 cDI2 kDI2
  have bI2 := FI2.binds (ps := ["self", "number"]) fun _ _ _ _ _ _ us hl => match us, hl with | [_, _], _ => rfl
  have FE3 := fun_mk (st := sEq3) lDE3 cDE3 kDE3
  have bE3 := FE3.binds (ps := ["self", "other"]) fun _ _ _ _ _ _ us hl => match us, hl with | [_, _], _ => rfl
  have FI3 := fun_mk (st := sIn3) lDI3 cDI3 kDI3
  have bI3 := FI3.binds (ps := ["self", "numbers"]) fun _ _ _ _ _ _ us hl => match us, hl with | [_, _], _ => rfl
  refine ⟨PySem.W.fnOf "law" "law" (defArgs sLaw) (defBody sLaw) (defScope sLaw) .none kvL dcL pmL anL cdL ctL, fun s v => .of_eq rfl, fun base _ _ => ?_⟩
  let fdE : Nat → FuncData := fun k => match k with
    | 0 => PySem.W.fnOf "__eq__" "Dots.__eq__" (defArgs sEq0) (defBody sEq0) (defScope sEq0) .none kvE0 dcE0 pmE0 anE0 cdE0 ctE0
    | 1 => PySem.W.fnOf "__eq__" "Float.__eq__" (defArgs sEq1) (defBody sEq1) (defScope sEq1) .none kvE1 dcE1 pmE1 anE1 cdE1 ctE1
    | 2 => PySem.W.fnOf "__eq__" "Imaginary.__eq__" (defArgs sEq2) (defBody sEq2) (defScope sEq2) .none kvE2 dcE2 pmE2 anE2 cdE2 ctE2
    | _ => PySem.W.fnOf "__eq__" "Octets.__eq__" (defArgs sEq3) (defBody sEq3) (defScope sEq3) .none kvE3 dcE3 pmE3 anE3 cdE3 ctE3
  let fdI : Nat → FuncData := fun k => match k with
    | 1 => PySem.W.fnOf "__init__" "Float.__init__" (defArgs sIn1) (defBody sIn1) (defScope sIn1) .none kvI1 dcI1 pmI1 anI1 cdI1 ctI1
    | 2 => PySem.W.fnOf "__init__" "Imaginary.__init__" (defArgs sIn2) (defBody sIn2) (defScope sIn2) .none kvI2 dcI2 pmI2 anI2 cdI2 ctI2
    | _ => PySem.W.fnOf "__init__" "Octets.__init__" (defArgs sIn3) (defBody sIn3) (defScope sIn3) .none kvI3 dcI3 pmI3 anI3 cdI3 ctI3
  have bs : ∀ k, k < 4 → Binds K (fdE k) ["self", "other"] [] := fun k hk => match k, hk with
    | 0, _ => bE0
    | 1, _ => bE1
    | 2, _ => bE2
    | 3, _ => bE3
  have M : Mks P w K mg base Cs fI fdI := {
    mk0 := mk0, i0 := i0, k0 := kC0, mk1 := ⟨mk1, i1, fi1, kC1⟩, mk2 := ⟨mk2, i2, fi2, kC2⟩, mk3 := ⟨mk3, i3, fi3, kC3⟩,
    f1 := ok_in1 FI1 T GL, f2 := ok_in2 FI2 T GL, f3 := ok_in3 FI3 T GL, b1 := bI1, b2 := bI2, b3 := bI3 }
  have hE := eqs (P := P) (w := w) (base := base) (fdE := fdE) T GL bs FE0 FE1 FE2 FE3
  have GD : FnOk P w K mg base CX0 1 gD _ ["_law_stream", "_law_many"] spDraw := ok_draw FD Z.it
  have GP : FnOk P w K mg base CX0 2 gP _ ["_law_stream", "_law_some"] (spPick K) := ok_pick FP GD bD kDD (PySem.W.mg_of X G aDD) Z.ln
  have GT := things (P := P) (w := w) (base := base) FT bT (PySem.W.mg_of X G aDT) GD bD kDD (PySem.W.mg_of X G aDD) GP bP kDP (PySem.W.mg_of X G aDP) FO bO (PySem.W.mg_of X G aDO) Z.rg Z.tp
  have GC := chgs (P := P) (w := w) (base := base) FG bG (PySem.W.mg_of X G aDG) GD bD kDD (PySem.W.mg_of X G aDD) (GT 2).1 bT kDT (PySem.W.mg_of X G aDT) GL.zI Z 6
  have GM := mades (P := P) (w := w) (base := base) FM bM (PySem.W.mg_of X G aDM) T GL Z M 8
  have GA := alikes (P := P) (w := w) (base := base) FA bA (PySem.W.mg_of X G aDA) GL.zI Z 8
  exact ok_law FL T GL Z
    { D := GD, bD := bD, kD := kDD, mD := PySem.W.mg_of X G aDD, O := (GT 4).2, bO := bO, kO := kDO, mO := PySem.W.mg_of X G aDO, C := GC, bC := bG, kC := kDG, mC := PySem.W.mg_of X G aDG,
      M := GM, bM := bM, kM := kDM, mM := PySem.W.mg_of X G aDM, A := GA, bA := bA, kA := kDA, mA := PySem.W.mg_of X G aDA, F := ok_flds FF T GL, bF := bF, kF := kDF, mF := PySem.W.mg_of X G aDF,
      E := (hE 7).1, Es := (hE 6).2, bE := bs }
end K6
/-! part U -/
open PySem PySem.W PyProof.Rows
set_option maxRecDepth 100000 in
set_option maxHeartbeats 0 in
theorem PySem.Challenge.cw_treequill_k06_values_compared_holds : PySem.Challenge.rw_treequill_k06_values_compared.Holds := by
  w_on; o_law; k_head; (case hw => w_witness2)
  k_fill
  refine L2.walk_ofK (l := PySem.Challenge.rw_treequill_k06_values_compared) (n := 63) (sp := K6.spLaw) (CX := L2.CX0) (x := "_law_script") rfl (by decide) rfl K6.room_top (fun w h Y => PySem.W.kIn_of Y) ?F ?S (fun _ _ _ _ z => z)
  case F =>
    intro w mg fa h KX G hmg
    refine' K6.all_mk KX G hmg ?a0 ?l0 ?pg0 ?hx0 ?po0 ?sa0 ?eq0 ?fe0 ?ne0 ?iC0 ?tC0 ?cl0 ?mk0 ?kC0 ?lDE0 ?cDE0 ?kDE0 ?i0 ?a1 ?l1 ?pg1 ?hx1 ?po1 ?sa1 ?eq1 ?fe1 ?ne1 ?iC1 ?tC1 ?cl1 ?mk1 ?kC1 ?lDE1 ?cDE1 ?kDE1 ?i1 ?fi1 ?lDI1 ?cDI1 ?kDI1 ?n1_0 ?n1_1 ?a2 ?l2 ?pg2 ?hx2 ?po2 ?sa2 ?eq2 ?fe2 ?ne2 ?iC2 ?tC2 ?cl2 ?mk2 ?kC2 ?lDE2 ?cDE2 ?kDE2 ?i2 ?fi2 ?lDI2 ?cDI2 ?kDI2 ?n2_0 ?a3 ?l3 ?pg3 ?hx3 ?po3 ?sa3 ?eq3 ?fe3 ?ne3 ?iC3 ?tC3 ?cl3 ?mk3 ?kC3 ?lDE3 ?cDE3 ?kDE3 ?i3 ?fi3 ?lDI3 ?cDI3 ?kDI3 ?n3_0 ?aDD ?lDD ?cDD ?kDD ?aDP ?lDP ?cDP ?kDP ?aDT ?lDT ?cDT ?kDT ?aDO ?lDO ?cDO ?kDO ?aDM ?lDM ?cDM ?kDM ?aDG ?lDG ?cDG ?kDG ?aDF ?lDF ?cDF ?kDF ?aDA ?lDA ?cDA ?kDA ?aDL ?lDL ?cDL ?kDL ?z_int ?z_len ?z_range ?z_tuple ?z_isinstance ?z_list ?z_dict ?z_zip ?z_all ?sp ?tk ?nd
    (case a0 => k_is)
    (case l0 => k_is)
    (case pg0 => k_is)
    (case hx0 => k_is)
    (case po0 => k_is)
    (case sa0 => k_is)
    (case eq0 => k_is)
    (case fe0 => k_is)
    (case ne0 => k_is)
    (case iC0 => k_is)
    (case tC0 => k_is)
    (case cl0 => k_is)
    (case mk0 => k_is)
    (case kC0 => k_is)
    (case lDE0 => k_is)
    (case cDE0 => k_is)
    (case kDE0 => k_is)
    (case i0 => k_is)
    (case a1 => k_is)
    (case l1 => k_is)
    (case pg1 => k_is)
    (case hx1 => k_is)
    (case po1 => k_is)
    (case sa1 => k_is)
    (case eq1 => k_is)
    (case fe1 => k_is)
    (case ne1 => k_is)
    (case iC1 => k_is)
    (case tC1 => k_is)
    (case cl1 => k_is)
    (case mk1 => k_is)
    (case kC1 => k_is)
    (case lDE1 => k_is)
    (case cDE1 => k_is)
    (case kDE1 => k_is)
    (case i1 => k_is)
    (case fi1 => k_is)
    (case lDI1 => k_is)
    (case cDI1 => k_is)
    (case kDI1 => k_is)
    (case n1_0 => k_is)
    (case n1_1 => k_is)
    (case a2 => k_is)
    (case l2 => k_is)
    (case pg2 => k_is)
    (case hx2 => k_is)
    (case po2 => k_is)
    (case sa2 => k_is)
    (case eq2 => k_is)
    (case fe2 => k_is)
    (case ne2 => k_is)
    (case iC2 => k_is)
    (case tC2 => k_is)
    (case cl2 => k_is)
    (case mk2 => k_is)
    (case kC2 => k_is)
    (case lDE2 => k_is)
    (case cDE2 => k_is)
    (case kDE2 => k_is)
    (case i2 => k_is)
    (case fi2 => k_is)
    (case lDI2 => k_is)
    (case cDI2 => k_is)
    (case kDI2 => k_is)
    (case n2_0 => k_is)
    (case a3 => k_is)
    (case l3 => k_is)
    (case pg3 => k_is)
    (case hx3 => k_is)
    (case po3 => k_is)
    (case sa3 => k_is)
    (case eq3 => k_is)
    (case fe3 => k_is)
    (case ne3 => k_is)
    (case iC3 => k_is)
    (case tC3 => k_is)
    (case cl3 => k_is)
    (case mk3 => k_is)
    (case kC3 => k_is)
    (case lDE3 => k_is)
    (case cDE3 => k_is)
    (case kDE3 => k_is)
    (case i3 => k_is)
    (case fi3 => k_is)
    (case lDI3 => k_is)
    (case cDI3 => k_is)
    (case kDI3 => k_is)
    (case n3_0 => k_is)
    (case aDD => k_is)
    (case lDD => k_is)
    (case cDD => k_is)
    (case kDD => k_is)
    (case aDP => k_is)
    (case lDP => k_is)
    (case cDP => k_is)
    (case kDP => k_is)
    (case aDT => k_is)
    (case lDT => k_is)
    (case cDT => k_is)
    (case kDT => k_is)
    (case aDO => k_is)
    (case lDO => k_is)
    (case cDO => k_is)
    (case kDO => k_is)
    (case aDM => k_is)
    (case lDM => k_is)
    (case cDM => k_is)
    (case kDM => k_is)
    (case aDG => k_is)
    (case lDG => k_is)
    (case cDG => k_is)
    (case kDG => k_is)
    (case aDF => k_is)
    (case lDF => k_is)
    (case cDF => k_is)
    (case kDF => k_is)
    (case aDA => k_is)
    (case lDA => k_is)
    (case cDA => k_is)
    (case kDA => k_is)
    (case aDL => k_is)
    (case lDL => k_is)
    (case cDL => k_is)
    (case kDL => k_is)
    (case z_int => k_is)
    (case z_len => k_is)
    (case z_range => k_is)
    (case z_tuple => k_is)
    (case z_isinstance => k_is)
    (case z_list => k_is)
    (case z_dict => k_is)
    (case z_zip => k_is)
    (case z_all => k_is)
    (case sp => k_is)
    (case tk => k_is)
    (case nd => decide)
  case S =>
    intro K H a ns hl _ hS
    exact ⟨a, ns, rfl, hS, hl, fun _ => rfl⟩
#print axioms PySem.Challenge.cw_treequill_k06_values_compared_holds
