import PyProof.Rows.All
import Wide.All
import OpenK.AllK
import Wide.FinOn
import HandS.ForMost
import HandS.IsInst
import HandS.Codes
import PyProof.ListStr
import PyProof.EqAt
import PyProof.P3Eq
import HandS.Strs
import HandS.Walk
import PyProof.Rows.SetFrom
import PyProof.StrWalks
import PySem.Challenge.RW_shiftrow_k09_whole_cut_and_joined
set_option Elab.async false
set_option linter.all false
set_option maxRecDepth 100000
set_option maxHeartbeats 4000000
namespace Sh
open PySem PySem.Spec PyProof.Rows L2
open SX (S S_inj S_len S_cat S_beq_eq)


/-! ### lists of values -/
abbrev Ints (ns : List Int) : List V := ns.map V.int
def sg (c : Nat) : V := .str (S [c])
abbrev Sgs (cs : List Nat) : List V := cs.map sg

/-! ### heaps -/
/-- all but d stands -/
def Keep (d : Addr) (H H' : Hp) : Prop := ∀ b o, b ≠ d → H b = some o → H' b = some o
theorem Keep.refl (d : Addr) (H : Hp) : Keep d H H := fun _ _ _ h => h
theorem Keep.trans {d : Addr} {H H1 H2 : Hp} (a : Keep d H H1) (b : Keep d H1 H2) : Keep d H H2 := fun x o n h => b x o n (a x o n h)
theorem Keep.same {d : Addr} {H H1 : Hp} (a : Same H H1) : Keep d H H1 := fun x o _ h => a x o h
theorem Keep.upd {d : Addr} {H : Hp} {o : HO} : Keep d H (upd H d o) := fun x u n h => by
  rw [upd_ne n]
  exact h
theorem Same.new {H : Hp} {p : Addr} {o : HO} (h : H p = none) : Same H (upd H p o) := fun b x e => by
  rw [upd_ne (ne_of_none e h)]
  exact e
/-- what was not known ahead may change -/
theorem Same.mut {H H' : Hp} {p : Addr} {o : HO} (e : Same H H') (h : H p = none) : Same H (L2.upd H' p o) := fun a u ha => by
  rw [upd_ne (ne_of_none ha h)]
  exact e a u ha
theorem Keep.mut {d : Addr} {H H' : Hp} {p : Addr} {o : HO} (e : Keep d H H') (h : H p = none) : Keep d H (L2.upd H' p o) := fun a u n ha => by
  rw [upd_ne (ne_of_none ha h)]
  exact e a u n ha
theorem Keep.free {d : Addr} {H H' : Hp} (e : Keep d H H') {o : HO} (hd : H' d = some o) {l : Addr} (h : H' l = none) : H l = none := by
  cases q : H l with
  | none => rfl
  | some u =>
    by_cases n : l = d
    · subst n
      rw [hd] at h
      cases h
    · rw [e l u n q] at h
      cases h
theorem upd_self {H : Hp} {p : Addr} {o : HO} (h : H p = some o) : L2.upd H p o = H := by
  funext b
  by_cases e : b = p
  · subst e
    rw [upd_same, h]
  · rw [upd_ne e]
theorem Same.at {H H' : Hp} (e : Same H H') {p : Addr} {o : HO} (h : H p = some o) : H' p = some o := e p o h

theorem small_le {n : Nat} (h : n ≤ 1000) : n ≤ sizeLine := Nat.le_of_lt (small1000 h)
theorem ixn {n j : Nat} (h : j < n) : ixN n (j : Int) = some j := by
  unfold ixN
  rw [if_pos (by omega), if_pos (by omega)]
  simp
/-! ### the dice -/
def Dice (ds : List Int) : Prop := ∃ f r bs, ds = f :: r :: bs ∧ 0 ≤ f ∧ f < 2147483647 ∧ 0 ≤ r ∧ (∀ b ∈ bs, 0 ≤ b) ∧ bs.length ≤ 63

/-! ### list of a text -/
theorem vals_of : ∀ {xs : List V} {us : List Value}, xs.length = us.length → (∀ (j : Nat) x u, xs[j]? = some x → us[j]? = some u → RelV x u) → Vals xs us
  | [], [], _, _ => .nil
  | [], _ :: _, h, _ => by simp at h
  | _ :: _, [], h, _ => by simp at h
  | x :: xs, u :: us, h, k => .cons (k 0 x u rfl rfl) (vals_of (by simpa using h) fun j x' u' h1 h2 => k (j + 1) x' u' (by simpa using h1) (by simpa using h2))
section
variable {X : Cx}
theorem vals_signs {x : Str} {its : Array Value} (h : ItemsOf (SignAt x) its x.cps.size) : Vals (Sgs x.cps.toList) its.toList := by
  refine vals_of ?_ fun j y u h1 h2 => ?_
  · simp [h.1]
  · obtain ⟨c, t, e1, e2⟩ := h.2 j u (by simpa using h2)
    rw [List.getElem?_map, Array.getElem?_toList, e1] at h1
    cases h1
    exact ⟨t, e2⟩
/-- list(text) -/
theorem call_list_text (hc : X.calm = true) : CallR X (.type "list") (fun xs H Q => ∃ cs : List Nat, xs = [.str (S cs)] ∧ cs.length ≤ sizeLine ∧ ∀ l, H l = none → Q (.ref l) (upd H l (.lst (Sgs cs)))) := by
  intro pins s σ H xs us Q I r h
  obtain ⟨cs, rfl, hz, q⟩ := h
  obtain ⟨u, rfl, rx⟩ := vals1 r
  obtain ⟨t, rfl⟩ := rx
  refine call_list_str (I.ok.hd hc) (S cs) t (fun h' tk acc' c' kp e its => ?_) (by simpa using hz)
  have v := vals_signs its
  exact ⟨.ref s.heap.objs.size, _, I.laid (t' := tk) kp (Nat.le_refl _) (show ObjOk X.prog X.w _ h' _ (.lst (Sgs cs)) from ⟨by simpa using hz, acc'.toList, c', by simpa using v, by simpa using e⟩), rfl, q _ (I.hok.fresh (Nat.le_refl _))⟩
end

/-! ### tables of signs -/
/-- two sets of signs -/
structure Sets (one two : List Nat) : Prop where
  pos : 1 ≤ one.length
  top : one.length ≤ 10
  same : two.length = one.length
  nd1 : one.Nodup
  nd2 : two.Nodup
  pl1 : ∀ c ∈ one, c < 127
  pl2 : ∀ c ∈ two, c < 127
/-- a tape over sets of n signs -/
def Tape (n : Nat) (tp : List Int) : Prop := tp.length ≤ 200 ∧ ∀ c ∈ tp, 0 ≤ c ∧ c < (n : Int) + 2
/-- the sign of a code in a state -/
def sgn (one two : List Nat) (st c : Int) : Nat := (if st = 0 then one else two).getD c.toNat 0
/-- what is read, the state behind -/
def rdT (one two : List Nat) : Int → List Int → List Nat
  | _, [] => []
  | st, c :: r => if c < (one.length : Int) then sgn one two st c :: rdT one two st r else rdT one two (c - one.length) r
def rdS (one : List Nat) : Int → List Int → Int
  | st, [] => st
  | st, c :: r => if c < (one.length : Int) then rdS one st r else rdS one (c - one.length) r
/-- the sets as an object -/
def SetsAt (H : Hp) (a : Addr) (one two : List Nat) : Prop := H a = some (.tup [.str (S one), .str (S two)])


/-! ### data, for == and != -/
def flatD : PyData → Bool
  | .none => true
  | .bool _ => true
  | .int _ => true
  | .str x => PyData.strOk x
  | _ => false
theorem flat_lay : ∀ {ds : List PyData}, ds.all flatD = true → PyData.canLayAll0 ds = true ∧ PyData.depthAll ds = 0
  | [], _ => ⟨by simp [PyData.canLayAll0], by simp [PyData.depthAll]⟩
  | d :: ds, h => by
    rw [List.all_cons, Bool.and_eq_true] at h
    obtain ⟨h1, h2⟩ := flat_lay h.2
    have h0 := h.1
    cases d <;> simp [flatD, PyData.canLayAll0, PyData.depthAll, PyData.canLay0, PyData.depth, h1, h2] at h0 ⊢ <;> exact h0
theorem shaped_list {ds : List PyData} (h : ds.all flatD = true) : SeqAt.shaped (.list ds) = true := by
  obtain ⟨h1, h2⟩ := flat_lay h
  simp [SeqAt.shaped, PyData.canLay0, PyData.depth, h1, h2]
theorem shaped_tuple {ds : List PyData} (h : ds.all flatD = true) : SeqAt.shaped (.tuple ds) = true := by
  obtain ⟨h1, h2⟩ := flat_lay h
  simp [SeqAt.shaped, PyData.canLay0, PyData.depth, h1, h2]
abbrev dInts (ns : List Int) : PyData := .list (ns.map .int)
abbrev dSgs (cs : List Nat) : PyData := .list (cs.map fun c => .str (S [c]))
theorem flat_ints (ns : List Int) : (ns.map PyData.int).all flatD = true := by
  induction ns with
  | nil => rfl
  | cons n ns ih => simp [flatD, ih]
theorem shaped_ints (ns : List Int) : SeqAt.shaped (dInts ns) = true := shaped_list (flat_ints ns)
theorem flat_sgs {cs : List Nat} (h : ∀ c ∈ cs, c < 1114112) : (cs.map fun c => PyData.str (S [c])).all flatD = true := by
  induction cs with
  | nil => rfl
  | cons n ns ih =>
    have h1 := h n (by simp)
    have h2 := ih fun c hc => h c (by simp [hc])
    simp only [List.map_cons, List.all_cons, h2, Bool.and_true]
    simp [flatD, PyData.strOk, h1]
theorem shaped_sgs {cs : List Nat} (h : ∀ c ∈ cs, c < 1114112) : SeqAt.shaped (dSgs cs) = true := shaped_list (flat_sgs h)
theorem eqv_ints : ∀ xs ys : List Int, PyData.eqv (dInts xs) (dInts ys) = decide (xs = ys)
  | [], [] => by simp [PyData.eqv, PyData.eqvAll]
  | [], _ :: _ => by simp [PyData.eqv, PyData.eqvAll]
  | _ :: _, [] => by simp [PyData.eqv, PyData.eqvAll]
  | x :: xs, y :: ys => by
    have ih := eqv_ints xs ys
    simp only [PyData.eqv] at ih
    simp only [dInts, List.map_cons, PyData.eqv, PyData.eqvAll, ih]
    by_cases h : x = y <;> simp [h]
theorem eqv_nil (ds : List PyData) : PyData.eqv (.list ds) (.list []) = ds.isEmpty := by
  cases ds <;> simp [PyData.eqv, PyData.eqvAll]
theorem dp_ints {K : PySem.W.Frag} {H : Hp} (ns : List Int) : DpAll K H (Ints ns) (ns.map .int) := by
  induction ns with
  | nil => exact .nil
  | cons n ns ih => exact .cons (.int n) ih
theorem dp_sgs {K : PySem.W.Frag} {H : Hp} (cs : List Nat) : DpAll K H (Sgs cs) (cs.map fun c => .str (S [c])) := by
  induction cs with
  | nil => exact .nil
  | cons n ns ih => exact .cons (.str _) ih
theorem Dp.ints {K : PySem.W.Frag} {H : Hp} {a : Addr} {ns : List Int} (h : H a = some (.lst (Ints ns))) : Dp K H (.ref a) (dInts ns) := .lst (SqL.of h) (dp_ints ns)
theorem Dp.sgs {K : PySem.W.Frag} {H : Hp} {a : Addr} {cs : List Nat} (h : H a = some (.lst (Sgs cs))) : Dp K H (.ref a) (dSgs cs) := .lst (SqL.of h) (dp_sgs cs)
/-! ### lists of one-sign texts -/
theorem joinL_one : ∀ cs : List Nat, TL.joinL [] (cs.map fun c => [c]) = cs
  | [] => rfl
  | [c] => rfl
  | c :: d :: ds => by
    have ih := joinL_one (d :: ds)
    simp only [List.map_cons, TL.joinL] at ih ⊢
    rw [ih]
    rfl
theorem join_sgs (cs : List Nat) : Txt.join (S []) ((cs.map fun c => S [c])) = S cs := by
  have e : (cs.map fun c => S [c]) = (cs.map fun c => [c]).map S := by
    rw [List.map_map]
    rfl
  rw [e, SX.join_S, joinL_one]
theorem Sgs_eq (cs : List Nat) : Sgs cs = (cs.map fun c => S [c]).map V.str := by
  rw [List.map_map]
  rfl
theorem len_sgs (cs : List Nat) : ((cs.map fun c => S [c]).map (·.length)).sum = cs.length := by
  induction cs with
  | nil => rfl
  | cons c cs ih =>
    rw [List.map_cons, List.map_cons, List.sum_cons, ih, S_len, List.length_cons]
    simp
    omega


/-! ### reading -/
theorem rdS_snoc (one : List Nat) (c : Int) : ∀ (st : Int) (l : List Int), rdS one st (l ++ [c]) = if c < (one.length : Int) then rdS one st l else c - one.length
  | st, [] => by simp [rdS]
  | st, d :: l => by
    simp only [List.cons_append, rdS]
    split <;> exact rdS_snoc one c _ l
theorem rdT_snoc (one two : List Nat) (c : Int) : ∀ (st : Int) (l : List Int), rdT one two st (l ++ [c]) = rdT one two st l ++ (if c < (one.length : Int) then [sgn one two (rdS one st l) c] else [])
  | st, [] => by
    simp only [List.nil_append, rdT, rdS]
  | st, d :: l => by
    simp only [List.cons_append, rdT, rdS]
    split
    · rw [rdT_snoc one two c st l]
      rfl
    · rw [rdT_snoc one two c _ l]
theorem rdT_append (one two : List Nat) : ∀ (st : Int) (l m : List Int), rdT one two st (l ++ m) = rdT one two st l ++ rdT one two (rdS one st l) m
  | st, [], m => rfl
  | st, d :: l, m => by
    simp only [List.cons_append, rdT, rdS]
    split
    · rw [rdT_append one two st l m]
      rfl
    · rw [rdT_append one two _ l m]
theorem rdS_append (one : List Nat) : ∀ (st : Int) (l m : List Int), rdS one st (l ++ m) = rdS one (rdS one st l) m
  | st, [], m => rfl
  | st, d :: l, m => by
    simp only [List.cons_append, rdS]
    split <;> exact rdS_append one _ l m
def Bit (st : Int) : Prop := st = 0 ∨ st = 1
def Codes (n : Nat) (tp : List Int) : Prop := ∀ c ∈ tp, 0 ≤ c ∧ c < (n : Int) + 2
theorem rdS_bit {one : List Nat} : ∀ {st : Int} {l : List Int}, Bit st → Codes one.length l → Bit (rdS one st l)
  | st, [], h, _ => h
  | st, d :: l, h, hc => by
    have h1 := hc d (by simp)
    have h2 : Codes one.length l := fun c m => hc c (by simp [m])
    simp only [rdS]
    split
    · exact rdS_bit h h2
    · refine rdS_bit ?_ h2
      unfold Bit
      omega
theorem Codes.take {n : Nat} {tp : List Int} (h : Codes n tp) (i : Nat) : Codes n (tp.take i) := fun c m => h c (List.mem_of_mem_take m)
theorem Codes.drop {n : Nat} {tp : List Int} (h : Codes n tp) (i : Nat) : Codes n (tp.drop i) := fun c m => h c (List.mem_of_mem_drop m)
theorem Codes.append {n : Nat} {l m : List Int} (h : Codes n l) (k : Codes n m) : Codes n (l ++ m) := fun c hm => (List.mem_append.mp hm).elim (h c) (k c)
theorem rdT_len (one two : List Nat) : ∀ (st : Int) (l : List Int), (rdT one two st l).length ≤ l.length
  | _, [] => Nat.le_refl _
  | st, d :: l => by
    simp only [rdT]
    split
    · simpa using rdT_len one two st l
    · exact Nat.le_trans (rdT_len one two _ l) (by simp)
theorem take_snoc {α : Type} {l : List α} {i : Nat} {x : α} (h : l[i]? = some x) : l.take (i + 1) = l.take i ++ [x] := by
  rw [List.take_add_one, h]
  rfl
theorem at_two {a b : V} {st : Int} (h : Bit st) : atI [a, b] st = some (if st = 0 then a else b) := by
  rcases h with rfl | rfl
  · exact atI_nat (j := 0) rfl
  · exact atI_nat (j := 1) rfl
theorem at_sets {one two : List Nat} {st : Int} (h : Bit st) : atI [V.str (S one), V.str (S two)] st = some (.str (S (if st = 0 then one else two))) := by
  rw [at_two h]
  rcases h with rfl | rfl <;> rfl
theorem at_sign {l : List Nat} {c : Int} (h0 : 0 ≤ c) (h1 : c < (l.length : Int)) : atI (S l).cps.toList c = some (l.getD c.toNat 0) := by
  have e : c = ((c.toNat : Nat) : Int) := by omega
  have hl : c.toNat < l.length := by omega
  rw [e]
  refine atI_nat ?_
  simp only [SX.S]
  rw [Int.toNat_natCast, List.getD_eq_getElem?_getD, List.getElem?_eq_getElem hl]
  rfl
theorem Sets.pick {one two : List Nat} (h : Sets one two) (st : Int) : (if st = 0 then one else two).length = one.length := by
  split
  · rfl
  · exact h.same


/-! ### set(text): how many signs of a text are unlike -/
/-- the signs met, each once -/
def uniq (cs : List Nat) : List Nat := cs.foldl (fun l c => if l.contains c then l else l ++ [c]) []
theorem uniq_snoc (cs : List Nat) (c : Nat) : uniq (cs ++ [c]) = if (uniq cs).contains c then uniq cs else uniq cs ++ [c] := by
  unfold uniq
  rw [List.foldl_append]
  rfl
theorem text_no_set : isSubtype (.type "str") (.type "set") = pure false := (isSubtype_type _ _).trans (by kernel_rfl)
theorem text_no_frozenset : isSubtype (.type "str") (.type "frozenset") = pure false := (isSubtype_type _ _).trans (by kernel_rfl)
theorem one_inj {c d : Nat} : (S [c] = S [d]) ↔ c = d := ⟨fun e => by simpa using S_inj e, fun e => by rw [e]⟩
theorem one_beq {c d : Nat} : (S [c] == S [d]) = (c == d) := by
  rw [S_beq_eq]
  by_cases h : c = d <;> simp [h]

section
variable {prog : Program} {w : World} {A : Around} {R : Result → Shared → Prop} {I : Addr} {fp wr : List Addr} {G : Array GenState → Array GenState → Prop} {n : Nat} {P : Nat → Value → Prop} {St : Nat → Shared → Prop}
/-- which texts are met -/
def met (l : List Nat) (k : Str) : Bool := l.any fun c => S [c] == k
theorem uniq_len (cs : List Nat) : (uniq cs).length ≤ cs.length := by
  have h : ∀ (cs l : List Nat), (cs.foldl (fun l c => if l.contains c then l else l ++ [c]) l).length ≤ l.length + cs.length := by
    intro cs
    induction cs with
    | nil => intro l; exact Nat.le_refl _
    | cons c cs ih =>
      intro l
      rw [List.foldl_cons]
      refine Nat.le_trans (ih _) ?_
      rw [List.length_cons]
      split
      · omega
      · rw [List.length_append, List.length_singleton]
        omega
  simpa [uniq] using h cs []
theorem met_snoc (l : List Nat) (c : Nat) (k : Str) : met (if l.contains c then l else l ++ [c]) k = (met l k || decide (k = S [c])) := by
  unfold met
  split
  · rename_i h
    by_cases e : k = S [c]
    · subst e
      have : (l.any fun d => S [d] == S [c]) = true := by
        rw [List.any_eq_true]
        exact ⟨c, by simpa using h, by simp⟩
      rw [this]
      simp
    · simp [e]
  · rw [List.any_append]
    by_cases e : k = S [c]
    · subst e
      simp
    · have hb : (S [c] == k) = false := by simpa [beq_iff_eq] using (fun h' : S [c] = k => e h'.symm)
      simp [hb, e]
/-- the loop of set.update over the signs that are left: pre is what it has met -/
theorem signs_in (W : WalksS prog w A.in1 I fp wr G n P St) (p : Addr) (out : p ∉ fp) (cs : List Nat) (hn : cs.length = n) (room : n + 1 < scanBound)
    (sign : ∀ j u, P j u → ∃ c t, cs[j]? = some c ∧ u = .str (S [c]) t) : ∀ (r pre : List Nat) (s : Shared), pre ++ r = cs → St pre.length s →
      s.heap.SetOf (PySem.strKind prog w) p (met (uniq pre)) (uniq pre).length →
      (∀ z, Moved (p :: wr) G s z → z.heap.SetOf (PySem.strKind prog w) p (met (uniq cs)) (uniq cs).length → R (.ok (.ret .none)) z) →
      codeAny (model prog w) A (.builtin "set.update.loop" ⟨[.ref p, .ref I], []⟩) R s := by
  have pw : p ∉ wr := fun q => out (W.sub _ q)
  have up : ∀ c ∈ wr, c ∈ p :: wr := fun c q => List.mem_cons_of_mem _ q
  have stays : ∀ {s z : Shared} {F : Str → Bool} {m : Nat}, Moved wr G s z → s.heap.SetOf (PySem.strKind prog w) p F m → z.heap.SetOf (PySem.strKind prog w) p F m :=
    fun mv ⟨o, es, ep, tb, at_, more⟩ => ⟨o, es, ep, tb, mv.heap p _ pw at_, more⟩
  intro r
  induction r with
  | nil =>
    intro pre s e st so fin
    rw [List.append_nil] at e
    subst e
    refine codeAny_builtin F.entry_set_update_loop ((Around.under_plainId F.plain_set_update_loop _).symm ▸ ?_)
    refine wpAny_bind (m := pyNext (.ref I)) (W.done s _ _ (hn ▸ st) fun z mv => ?_)
    exact wpAny_pure (fin z (mv.mono up) (stays mv so))
  | cons c0 r ih =>
    intro pre s e st so fin
    have lt : pre.length < n := by
      rw [← hn, ← e, List.length_append, List.length_cons]
      omega
    refine codeAny_builtin F.entry_set_update_loop ((Around.under_plainId F.plain_set_update_loop _).symm ▸ ?_)
    refine wpAny_bind (m := pyNext (.ref I)) (W.item pre.length s _ _ lt st fun u z pu st2 mv => ?_)
    obtain ⟨c, t, hc, rfl⟩ := sign _ _ pu
    have ec : c = c0 := by
      rw [← e, List.getElem?_append_right (Nat.le_refl _), Nat.sub_self] at hc
      exact (Option.some.inj hc).symm
    subst ec
    have small := uniq_len pre
    have so1 := stays mv so
    show wpAny _ A.in1 (holding [Value.str (S [c]) t] (setAdd p (.str (S [c]) t)) >>= _) _ _ z
    refine wpAny_bind (wpAny_holding (wpAny_holding (wpAny_bind ((PySem.strKind prog w).pyHash (k := S [c]) (strKind_is _ _ _ _) ?_))))
    refine wpAny_setAddHashed_of (knd := PySem.strKind prog w) (s := { z with toks := z.toks + 1 }) (strKind_is _ _ _ _) rfl so1 (by omega) fun h2 but so2 => ?_
    have so3 : h2.SetOf (PySem.strKind prog w) p (met (uniq (pre ++ [c]))) (uniq (pre ++ [c])).length := by
      rw [uniq_snoc]
      refine SetOf_congr so2 (fun k => (met_snoc _ _ _).symm) ?_
      have e : met (uniq pre) (S [c]) = (uniq pre).contains c := by
        unfold met
        rw [Bool.eq_iff_iff, List.any_eq_true, List.contains_iff_mem]
        exact ⟨fun ⟨d, hd, q⟩ => one_inj.mp (beq_iff_eq.mp q) ▸ hd, fun q => ⟨c, q, beq_self_eq_true _⟩⟩
      rw [e]
      split <;> simp
    have far : ∀ b, b ≠ p → ∀ o, z.heap.get? b = some o → h2.get? b = some o := fun b ne o q => (but.2 b ne).trans q
    refine wpAny_pure ⟨plainId_quiet F.plain_set_update_loop _, ih (pre ++ [c]) _ (by rw [List.append_assoc]; exact e) ?_ so3 fun z2 mv2 so4 => ?_⟩
    · rw [List.length_append]
      exact W.frame _ z _ _ st2 (Nat.le_succ _) fun b q o g => far b (fun k => out (k ▸ q)) o g
    · exact fin z2 (Moved.trans W.gtrans ((mv.mono up).then_heap (Nat.le_succ _) fun b o q g => far b (fun k => q (k ▸ List.mem_cons_self)) o g) mv2) so4
end
section
variable {prog : Program} {w : World} {A : Around} {E : Value → Shared → Prop} {s : Shared}
/-- an empty set object -/
abbrev set0 (b : Bool) : Obj := { cls := .type "set", dict := none, data := .set #[] 0 (.fresh 0 0 b) }
/-- set.__init__ of a text -/
theorem init_text {cs : List Nat} {t : Tok} {b : Bool} {R : Result → Shared → Prop} (calm : A.handled = none) (room : cs.length + 1 < scanBound)
    (fin : ∀ (h2 : Heap) (k : Nat), h2.SetOf (PySem.strKind prog w) s.heap.objs.size (met (uniq cs)) (uniq cs).length →
      (∀ c o, c < s.heap.objs.size → s.heap.get? c = some o → h2.get? c = some o) → R (.ok (.ret .none)) { s with heap := h2, toks := k }) :
    wpAny (model prog w) A.in1 (Builtin.«set.__init__» ⟨[.ref s.heap.objs.size, .str (S cs) t], []⟩)
      (fun f z => match f with | .done r => R (.ok r) z | .again c => c.quiet = true ∧ codeAny (model prog w) A c R z) (fun e z => R (.error e) z) { s with heap := s.heap.push (set0 b) } := by
  have at0 : (s.heap.push (set0 b)).get? s.heap.objs.size = some (set0 b) := Heap.get?_push_size _ rfl
  have n1 := text_no_set
  have n2 := text_no_frozenset
  have n3 : (Value.type "str" == Value.type "dict") = false := by decide
  unfold Builtin.«set.__init__» noKeywords
  unfold Builtin.Frozenset.updateFrom
  generalize hP : pyIter = PI
  wp_walk
  subst hP
  refine wpAny_pyIter_str fun o St W st => wpAny_bind (wpAny_runValue ?_)
  have calm2 : A.in1.in1.handled = none := by simp [calm]
  have sz := Heap.size_push s.heap (set0 b)
  refine signs_in (W _ calm2).toS s.heap.objs.size (fun q => ?_) cs (by simp) room (fun j u ⟨c, k, e1, e2⟩ => ⟨c, k, by simpa using e1, e2⟩) cs [] { s with heap := (s.heap.push (set0 b)).push o } rfl st ?_ fun z mv so => ?_
  · have := List.mem_singleton.mp q
    rw [sz] at this
    exact absurd this (Nat.ne_of_lt (Nat.lt_succ_self _))
  · exact SetOf_congr ((setObjOf_fresh (knd := PySem.strKind prog w) b).setOf (Heap.get?_push_of_some o at0) (by unfold scanBound; omega)) (fun _ => rfl) rfl
  · have ez := Moved.eq_with mv
    rw [ez]
    refine wpAny_pure (wpAny_pure (fin z.heap z.toks so fun c o lt g => ?_))
    refine mv.heap c o (fun q => ?_) (Heap.get?_push_of_some _ (Heap.get?_push_of_some _ g))
    rcases List.mem_cons.mp q with q | q
    · exact absurd q (Nat.ne_of_lt lt)
    · have := List.mem_singleton.mp q
      rw [sz] at this
      exact absurd this (Nat.ne_of_lt (Nat.lt_succ_of_lt lt))
set_option maxHeartbeats 8000000 in
theorem call_set_text {cs : List Nat} {t : Tok} {Q : Value → Shared → Prop} (calm : A.handled = none) (room : cs.length + 1 < scanBound)
    (fin : ∀ (h2 : Heap) (k : Nat), h2.SetOf (PySem.strKind prog w) s.heap.objs.size (met (uniq cs)) (uniq cs).length →
      (∀ c o, c < s.heap.objs.size → s.heap.get? c = some o → h2.get? c = some o) → Q (.ref s.heap.objs.size) { s with heap := h2, toks := k }) :
    wpAny (model prog w) A (call (.type "set") [.str (S cs) t]) Q E s := by
  obtain ⟨c, tl, mro⟩ := F.called_set.mro
  have f1 := F.called_set.made
  have f2 := F.called_set.sub
  have f3 := F.called_set.notType
  have f4 := F.called_set.canCreate
  have f5 := PySem.F.typeCall_set_1 (.str (S cs) t)
  have f6 := F.called_set.init.lookup
  have f7 := F.called_set.init.bind (.ref s.heap.objs.size)
  refine wpAny_call (codeAny_of_tree (show wpAny _ _ (callAny (.type "set") _) _ _ _ from wpAny_pure ⟨Code.quiet_builtin _ (by decide +kernel), codeAny_builtin F.entry_type_call ?_⟩))
  rw [Around.under_plain (weight_type_call_type "set" [.str (S cs) t] []) rfl]
  repeat (any_goals (first | assumption | wp_step))
  refine codeAny_mono (code_set_new_1 (.str (S cs) t) (E := E) (Q₁ := fun v z => ∃ b : Bool, v = .ref s.heap.objs.size ∧ z = { s with heap := s.heap.push (set0 b) }) fun b => ⟨b, rfl, rfl⟩) fun r z hr => ?_
  match r, hr with
  | .error e, hr => exact hr
  | .ok (.ret v), hr =>
    obtain ⟨b, rfl, rfl⟩ := hr
    have ty : Shared.TypeIs { s with heap := s.heap.push (set0 b) } (.ref s.heap.objs.size) "set" := ⟨_, Heap.get?_push_size _ rfl, rfl⟩
    repeat (any_goals (first | assumption | wp_step))
    refine codeAny_mono (codeAny_call_builtin (R := wants (fun u z => u = .none ∧ ∃ h2 k, z = { s with heap := h2, toks := k } ∧ h2.SetOf (PySem.strKind prog w) s.heap.objs.size (met (uniq cs)) (uniq cs).length ∧
        (∀ c o, c < s.heap.objs.size → s.heap.get? c = some o → h2.get? c = some o)) E) F.called_set.init.plain F.entry_set_init
      (check_set_init_1 ty (init_text (by simpa using calm) room fun h2 k so kp => ⟨rfl, h2, k, rfl, so, kp⟩))) fun r z hr => ?_
    match r, hr with
    | .error e, hr => exact hr
    | .ok (.ret u), hr =>
      obtain ⟨rfl, h2, k, rfl, so, kp⟩ := hr
      repeat (any_goals (first | assumption | wp_step))
      exact fin _ _ so kp
end
section
variable {X : Cx}
def tLenSetTxt (ta : TE) : TE := fun σ H Q => ta σ H fun x H1 => ∃ cs : List Nat, x = .str (S cs) ∧ cs.length ≤ 1000 ∧ Q (.int (uniq cs).length) H1
theorem pe_lenSetTxt {a : Expr} {ta : TE} {p p2 q pos : Pos} (hc : X.calm = true) (hg : Gl X "len") (hm : X.mg "len" = none) (hg2 : Gl X "set") (hm2 : X.mg "set" = none) (ha : PE X a ta)
    (na : starEach [a] X.env = (false, eval a X.env) :: starEach [] X.env := by rfl) : PE X (.Call (.Name "len" p) [.Call (.Name "set" p2) [a] [] q] [] pos) (tLenSetTxt ta) := by
  refine ⟨fun pins s σ H Q I h => ?_⟩
  refine Call_ (ld_blt I hg hm boot_len (callWith_builtin1 (args_cons (Call_ (ld_blt I hg2 hm2 boot_set ?_)) rfl) rfl rfl))
  refine callWith_type1 (args_cons (thn (ha.run pins s σ H _ I h) fun v s1 ⟨x, H1, I1, r1, q1⟩ => args_nil ?_) na) na rfl
  obtain ⟨cs, rfl, hl, q1⟩ := q1
  obtain ⟨t, rfl⟩ := r1
  refine call_set_text (I1.ok.hd hc) (by unfold scanBound; omega) fun h2 k so kp => args_nil ?_
  have hu := uniq_len cs
  obtain ⟨o, es, ep, t, ho, hex, hd, _, _, _, hf, hn⟩ := so
  have I2 : Inv X pins σ H1 { s1 with heap := h2, toks := k } := I1.kept fun b o e => kp b o (Heap.lt_size e) e
  exact call_len_set ho hex hd hf (by rw [hn]; omega) ⟨.int (uniq cs).length, H1, I2.tok _, ⟨_, by rw [hn]⟩, q1⟩
end


theorem ints_at {ns : List Int} {i : Nat} {x : V} (h : (Ints ns)[i]? = some x) : ∃ c, ns[i]? = some c ∧ x = .int c := by
  rw [List.getElem?_map] at h
  obtain ⟨c, hc, rfl⟩ := Option.map_eq_some_iff.mp h
  exact ⟨c, hc, rfl⟩
theorem sgs_at {ns : List Nat} {i : Nat} {x : V} (h : (Sgs ns)[i]? = some x) : ∃ c, ns[i]? = some c ∧ x = sg c := by
  rw [List.getElem?_map] at h
  obtain ⟨c, hc, rfl⟩ := Option.map_eq_some_iff.mp h
  exact ⟨c, hc, rfl⟩
theorem ints_snoc (ns : List Int) (c : Int) : Ints (ns ++ [c]) = Ints ns ++ [.int c] := List.map_append
theorem sgs_snoc (cs : List Nat) (c : Nat) : Sgs (cs ++ [c]) = Sgs cs ++ [sg c] := List.map_append
theorem len_ints (ns : List Int) : (Ints ns).length = ns.length := List.length_map _
theorem len_sg (ns : List Nat) : (Sgs ns).length = ns.length := List.length_map _
/-! ### tests: both answers shown once -/
def tCutT (t : TT) : TT := fun σ H Q => ∃ P1 P2 : Hp → Prop, t σ H (fun b H1 => if b = true then P1 H1 else P2 H1) ∧ (∀ H1, P1 H1 → Q true H1) ∧ (∀ H1, P2 H1 → Q false H1)
theorem pt_cut {X : Cx} {c : Expr} {t : TT} (h : PT X c t) : PT X c (tCutT t) := by
  refine ⟨fun pins s σ H Q I ⟨P1, P2, h1, h2, h3⟩ => ?_⟩
  refine thn (h.run pins s σ H _ I h1) fun b s1 ⟨H1, I1, q⟩ => ?_
  cases b with
  | true => exact ⟨H1, I1, h2 H1 (by simpa using q)⟩
  | false => exact ⟨H1, I1, h3 H1 (by simpa using q)⟩
/-! ### slices -/
theorem cut_from {cs : List Nat} {i : Int} (h : 0 ≤ i) : cutS (S cs) (some i) none = S (cs.drop i.toNat) := by
  rw [C8.cutS_slice]
  exact SX.slice_from h
theorem cut_to {cs : List Nat} {i : Int} (h : 0 ≤ i) : cutS (S cs) none (some i) = S (cs.take i.toNat) := by
  rw [C8.cutS_slice]
  exact SX.slice_to h
theorem cutV_to {xs : List V} {i : Int} (h : 0 ≤ i) : cutV xs none (some i) = xs.take i.toNat := by
  have e : i = ((i.toNat : Nat) : Int) := by omega
  unfold cutV
  rw [HT.sIx_none]
  conv => lhs; rw [e]
  rw [HT.sIx_nat, List.drop_zero, Nat.sub_zero]
  by_cases hl : i.toNat ≤ xs.length
  · rw [Nat.min_eq_left hl]
  · rw [Nat.min_eq_right (by omega), List.take_of_length_le (Nat.le_refl _), List.take_of_length_le (by omega)]
theorem cutV_from {xs : List V} {i : Int} (h : 0 ≤ i) : cutV xs (some i) none = xs.drop i.toNat := by
  have e : i = ((i.toNat : Nat) : Int) := by omega
  unfold cutV
  rw [HT.sIx_none]
  conv => lhs; rw [e]
  rw [HT.sIx_nat]
  by_cases hl : i.toNat ≤ xs.length
  · rw [Nat.min_eq_left hl, List.take_of_length_le (by rw [List.length_drop]; omega)]
  · rw [Nat.min_eq_right (by omega), List.drop_eq_nil_of_le (Nat.le_refl _), List.drop_eq_nil_of_le (by omega), List.take_nil]
/-! ### counting -/
theorem nodup_le : ∀ {l m : List Nat}, l.Nodup → (∀ c ∈ l, c ∈ m) → l.length ≤ m.length
  | [], _, _, _ => Nat.zero_le _
  | x :: l, m, hn, hs => by
    obtain ⟨h1, h2⟩ := List.nodup_cons.mp hn
    have hx : x ∈ m := hs x (by simp)
    have := nodup_le (m := m.erase x) h2 fun c hc => by
      have hne : c ≠ x := fun e => h1 (e ▸ hc)
      exact (List.mem_erase_of_ne hne).mpr (hs c (by simp [hc]))
    rw [List.length_erase_of_mem hx] at this
    have := List.length_pos_of_mem hx
    rw [List.length_cons]
    omega
/-- signs of a list that stand in no other -/
def off2 (l m : List Nat) : List Nat := l.filter fun c => !decide (c ∈ m)
theorem off2_ne {l m : List Nat} (hn : l.Nodup) (h : m.length < l.length) : ∃ c r, off2 l m = c :: r ∧ c ∈ l ∧ c ∉ m := by
  cases e : off2 l m with
  | nil =>
    have := nodup_le hn fun c hc => by
      have h2 : c ∉ off2 l m := by
        rw [e]
        exact List.not_mem_nil
      unfold off2 at h2
      rw [List.mem_filter] at h2
      by_cases hm : c ∈ m
      · exact hm
      · exact absurd ⟨hc, by simp [hm]⟩ h2
    omega
  | cons c r =>
    have hm : c ∈ off2 l m := by
      rw [e]
      exact List.mem_cons_self
    unfold off2 at hm
    rw [List.mem_filter] at hm
    exact ⟨c, r, rfl, hm.1, by simpa using hm.2⟩
theorem off2_snoc (l m : List Nat) (c : Nat) : off2 (l ++ [c]) m = if c ∈ m then off2 l m else off2 l m ++ [c] := by
  unfold off2
  rw [List.filter_append]
  by_cases h : c ∈ m <;> simp [h]
/-! ### rules by the written part's name (for use within comprehensions) -/
section
variable {X : Cx}
def rLenQ (K : PySem.W.Frag) : List V → Hp → VK → Prop := fun xs H Q => ∃ p ys, xs = [.ref p] ∧ (SqL K H p ys ∨ SqT K H p ys) ∧ Q (.int ys.length) H
theorem call_lenQ : CallR X (.builtin "len") (rLenQ X.K) := call_len_seq
def rListQ (K : PySem.W.Frag) : List V → Hp → VK → Prop := fun xs H Q => ∃ p ys, xs = [.ref p] ∧ (SqL K H p ys ∨ SqT K H p ys) ∧ ∀ l, H l = none → Q (.ref l) (upd H l (.lst ys))
theorem call_listQ : CallR X (.type "list") (rListQ X.K) := call_list_of
end


theorem dec_sg (a b : Nat) : decide (V.str ⟨#[a]⟩ = V.str ⟨#[b]⟩) = decide (a = b) := by
  by_cases h : a = b
  · subst h
    simp
  · have h2 : ¬ V.str ⟨#[a]⟩ = V.str ⟨#[b]⟩ := fun z => h (by
      have e := congrArg (fun s : Str => s.cps.toList) (V.str.inj z)
      simpa using e)
    rw [decide_eq_false h, decide_eq_false h2]
theorem dec_int (a b : Int) : decide (V.int a = V.int b) = decide (a = b) := by
  by_cases h : a = b
  · subst h
    simp
  · have h2 : ¬ V.int a = V.int b := fun z => h (V.int.inj z)
    rw [decide_eq_false h, decide_eq_false h2]
theorem dec_str (a b : List Nat) : decide (V.str (S a) = V.str (S b)) = decide (a = b) := by
  by_cases h : a = b
  · subst h
    simp
  · have h2 : ¬ V.str (S a) = V.str (S b) := fun z => h (S_inj (V.str.inj z))
    rw [decide_eq_false h, decide_eq_false h2]
theorem ints_app (a b : List Int) : Ints (a ++ b) = Ints a ++ Ints b := List.map_append
theorem lay_ints (ns : List Int) : PyData.canLay0 (dInts ns) = true ∧ (dInts ns).depth = 1 := by
  obtain ⟨h1, h2⟩ := flat_lay (flat_ints ns)
  exact ⟨by simp [PyData.canLay0, h1], by simp [PyData.depth, h2]⟩
theorem lay_two (a b : List Int) : PyData.canLay0 (.list [dInts a, dInts b]) = true ∧ SeqAt.shaped (.list [dInts a, dInts b]) = true := by
  obtain ⟨h1, h2⟩ := flat_lay (flat_ints a)
  obtain ⟨h3, h4⟩ := flat_lay (flat_ints b)
  constructor
  · simp [PyData.canLay0, PyData.canLayAll0, h1, h3]
  · simp [SeqAt.shaped, PyData.canLay0, PyData.canLayAll0, PyData.depth, PyData.depthAll, h1, h2, h3, h4]
theorem rep_one (x : V) (b : Bool) : (List.replicate (if b = true then (1 : Int) else 0).toNat [x]).flatten = if b = true then [x] else [] := by
  cases b <;> rfl
theorem flat_all_ints (ns : List Int) : (Ints ns).all flatV = true := by
  induction ns with
  | nil => rfl
  | cons n ns ih =>
    show (V.int n :: Ints ns).all flatV = true
    rw [List.all_cons, ih]
    rfl
theorem idx_at {ns : List Int} {m : Int} (hm : m ∈ ns) : (Ints ns)[ns.idxOf m]? = some (.int m) := by
  have hlt : ns.idxOf m < ns.length := List.idxOf_lt_length_of_mem hm
  rw [List.getElem?_map, List.getElem?_eq_getElem hlt, List.getElem_idxOf hlt]
  rfl
theorem eqV_int (m : Int) : eqV (.int m) (.int m) = true := by simp [eqV]
theorem idx_no {ns : List Int} {m : Int} : ∀ (j : Nat) (z : V), j < ns.idxOf m → (Ints ns)[j]? = some z → eqV z (.int m) = false := by
  intro j z hj hz
  obtain ⟨c, hc, rfl⟩ := ints_at hz
  obtain ⟨h1, rfl⟩ := List.getElem?_eq_some_iff.mp hc
  have h3 := List.not_of_lt_findIdx (p := (· == m)) (xs := ns) (i := j) hj
  simpa [eqV] using h3
/-! ### values: all that follows shown once -/
def tCutE (t : TE) : TE := fun σ H Q => ∃ P1 : V → Hp → Prop, t σ H P1 ∧ ∀ v H1, P1 v H1 → Q v H1
theorem pe_cut {X : Cx} {c : Expr} {t : TE} (h : PE X c t) : PE X c (tCutE t) := by
  refine ⟨fun pins s σ H Q I ⟨P1, h1, h2⟩ => ?_⟩
  exact thn (h.run pins s σ H _ I h1) fun v s1 ⟨x, H1, I1, r, q⟩ => ⟨x, H1, I1, r, h2 _ H1 q⟩
theorem range_snoc (f : Nat → Int) (i : Nat) : Ints ((List.range (i + 1)).map f) = Ints ((List.range i).map f) ++ [.int (f i)] := by
  rw [List.range_succ, List.map_append]
  exact List.map_append
def mxL (ns : List Int) : Int := ns.max?.getD 0
theorem mx_unique {ns : List Int} {m : Int} (h : m ∈ ns) (h2 : ∀ y ∈ ns, y ≤ m) : m = mxL ns := by
  have e : ns.max? = some m := List.max?_eq_some_iff.mpr ⟨h, h2⟩
  unfold mxL
  rw [e]
  rfl
theorem mx_mem {ns : List Int} (h : ns ≠ []) : mxL ns ∈ ns ∧ ∀ y ∈ ns, y ≤ mxL ns := by
  cases e : ns.max? with
  | none =>
    rw [List.max?_eq_none_iff] at e
    exact absurd e h
  | some m =>
    have e2 : mxL ns = m := by
      unfold mxL
      rw [e]
      rfl
    rw [e2]
    exact List.max?_eq_some_iff.mp e


/-! ### what is spoilt -/
def comm (one two : List Nat) (c : Int) : Bool := decide (one.getD c.toNat 0 = two.getD c.toNat 0)
/-- signs read otherwise, begun in the other state -/
def spo (one two : List Nat) : List Int → Nat
  | [] => 0
  | c :: r => if (one.length : Int) ≤ c then 0 else (if comm one two c = true then 0 else 1) + spo one two r
theorem spo_len (one two : List Nat) : ∀ l : List Int, spo one two l ≤ l.length
  | [] => Nat.le_refl _
  | c :: r => by
    have := spo_len one two r
    simp only [spo, List.length_cons]
    split
    · omega
    · split <;> omega
/-- no shift among them -/
def noSh (n : Nat) (l : List Int) : Prop := ∀ c ∈ l, c < (n : Int)
theorem noSh.snoc {n : Nat} {l : List Int} {c : Int} (h : noSh n l) (hc : c < (n : Int)) : noSh n (l ++ [c]) := fun x hx => (List.mem_append.mp hx).elim (h x) fun hx => by
  rw [List.mem_singleton.mp hx]
  exact hc
theorem spo_app {one two : List Nat} : ∀ {l : List Int} (r : List Int), noSh one.length l → spo one two (l ++ r) = spo one two l + spo one two r
  | [], r, _ => by simp [spo]
  | c :: l, r, h => by
    have h1 := h c (by simp)
    have ih := spo_app (one := one) (two := two) (l := l) r fun x hx => h x (by simp [hx])
    have hn : ¬ (one.length : Int) ≤ c := by omega
    simp only [List.cons_append, spo, if_neg hn, ih]
    omega
theorem spo_shift {one two : List Nat} {c : Int} (r : List Int) (h : (one.length : Int) ≤ c) : spo one two (c :: r) = 0 := by
  simp only [spo, if_pos h]
/-- places below i that differ -/
def difN (l w : List Nat) : Nat → Nat
  | 0 => 0
  | i + 1 => difN l w i + (if l.getD i 0 = w.getD i 0 then 0 else 1)
theorem difN_self (l : List Nat) : ∀ i, difN l l i = 0
  | 0 => rfl
  | i + 1 => by simp [difN, difN_self l i]
theorem difN_cons (a b : Nat) (x y : List Nat) : ∀ m, difN (a :: x) (b :: y) (m + 1) = (if a = b then 0 else 1) + difN x y m
  | 0 => by simp [difN]
  | m + 1 => by
    rw [difN, difN_cons a b x y m, difN]
    simp only [List.getD_cons_succ]
    omega
theorem difN_app (p x y : List Nat) (m : Nat) : difN (p ++ x) (p ++ y) (p.length + m) = difN x y m := by
  induction p with
  | nil => simp
  | cons a p ih =>
    have e : (a :: p).length + m = (p.length + m) + 1 := by
      rw [List.length_cons]
      omega
    rw [e, List.cons_append, List.cons_append, difN_cons, ih]
    simp
theorem difN_pos {l w : List Nat} : ∀ {n : Nat}, 0 < difN l w n → l ≠ w := by
  rintro n h rfl
  rw [difN_self] at h
  omega
theorem difN_eq {l w : List Nat} (hl : l.length = w.length) : ∀ {n : Nat}, n = w.length → difN l w n = 0 → l = w := by
  intro n hn h
  have key : ∀ i, difN l w i = 0 → ∀ j, j < i → l.getD j 0 = w.getD j 0 := by
    intro i
    induction i with
    | zero => intro _ j hj; omega
    | succ i ih =>
      intro h j hj
      rw [difN] at h
      by_cases hji : j = i
      · subst hji
        by_cases e : l.getD j 0 = w.getD j 0
        · exact e
        · rw [if_neg e] at h
          omega
      · exact ih (by omega) j (by omega)
  refine List.ext_getElem hl fun j h1 h2 => ?_
  have := key n h j (by omega)
  rw [List.getD_eq_getElem?_getD, List.getD_eq_getElem?_getD, List.getElem?_eq_getElem h1, List.getElem?_eq_getElem h2] at this
  exact this
theorem sgn_eq {one two : List Nat} {a b c : Int} (ha : Bit a) (hb : Bit b) (hab : a ≠ b) : (sgn one two a c = sgn one two b c) ↔ comm one two c = true := by
  unfold comm sgn
  rcases ha with rfl | rfl <;> rcases hb with rfl | rfl
  · exact absurd rfl hab
  · simp
  · simp only [decide_eq_true_eq]
    exact eq_comm
  · exact absurd rfl hab
theorem rdT_len_eq (one two : List Nat) (a b : Int) : ∀ l : List Int, (rdT one two a l).length = (rdT one two b l).length
  | [] => rfl
  | c :: r => by
    simp only [rdT]
    split
    · rw [List.length_cons, List.length_cons, rdT_len_eq one two a b r]
    · rfl
theorem difN_rd {one two : List Nat} {a b : Int} (ha : Bit a) (hb : Bit b) (hab : a ≠ b) : ∀ l : List Int, difN (rdT one two a l) (rdT one two b l) (rdT one two b l).length = spo one two l
  | [] => rfl
  | c :: r => by
    have ih := difN_rd (one := one) (two := two) ha hb hab r
    by_cases h : c < (one.length : Int)
    · have hn : ¬ (one.length : Int) ≤ c := by omega
      simp only [rdT, spo, if_pos h, if_neg hn, List.length_cons]
      rw [difN_cons, ih]
      by_cases e : comm one two c = true
      · rw [if_pos e, if_pos ((sgn_eq ha hb hab).mpr e)]
      · rw [if_neg e, if_neg fun z => e ((sgn_eq ha hb hab).mp z)]
    · have hn : (one.length : Int) ≤ c := by omega
      simp only [rdT, spo, if_neg h, if_pos hn, difN_self]
/-- how many signs the loss of a code spoils: the state ahead, the code, what is behind -/
def los1 (one two : List Nat) (s c : Int) (r : List Int) : Int := if (one.length : Int) ≤ c then (if c - one.length = s then 0 else (spo one two r : Int)) else 0
def los (one two : List Nat) (st : Int) (tp : List Int) (j : Nat) : Int := los1 one two (rdS one st (tp.take j)) (tp.getD j 0) (tp.drop (j + 1))
def losL (one two : List Nat) (st : Int) (tp : List Int) : List Int := (List.range tp.length).map (los one two st tp)
/-- the text of what is left -/
theorem lost_at {one two : List Nat} {st : Int} {tp : List Int} (hs : Bit st) (hc : Codes one.length tp) {j : Nat} (hj : j < tp.length) (hsh : (one.length : Int) ≤ tp.getD j 0) :
    (rdT one two st (tp.take j ++ tp.drop (j + 1))).length = (rdT one two st tp).length ∧
    (difN (rdT one two st (tp.take j ++ tp.drop (j + 1))) (rdT one two st tp) (rdT one two st tp).length : Int) = los one two st tp j := by
  have e : tp = tp.take j ++ (tp.getD j 0 :: tp.drop (j + 1)) := by
    rw [List.getD_eq_getElem?_getD, List.getElem?_eq_getElem hj, Option.getD_some, List.getElem_cons_drop, List.take_append_drop]
  have hcj : Codes one.length [tp.getD j 0] := fun x hx => by
    rw [List.mem_singleton.mp hx, List.getD_eq_getElem?_getD, List.getElem?_eq_getElem hj]
    exact hc _ (List.getElem_mem hj)
  have hb1 : Bit (rdS one st (tp.take j)) := rdS_bit hs (hc.take j)
  have h0 := hcj _ (List.mem_singleton.mpr rfl)
  have hb2 : Bit (tp.getD j 0 - one.length) := by
    unfold Bit
    omega
  have hn : ¬ tp.getD j 0 < (one.length : Int) := by omega
  unfold los los1
  rw [if_pos hsh]
  generalize tp.getD j 0 = c at *
  generalize tp.take j = l at *
  generalize tp.drop (j + 1) = r at *
  subst e
  rw [rdT_append, rdT_append]
  simp only [rdT, if_neg hn]
  refine ⟨?_, ?_⟩
  · rw [List.length_append, List.length_append, rdT_len_eq one two _ (c - one.length) r]
  · rw [List.length_append, difN_app]
    by_cases h : c - one.length = rdS one st l
    · rw [if_pos h, h, difN_self]
      rfl
    · rw [if_neg h, difN_rd hb1 hb2 (Ne.symm h)]
theorem los_sign {one two : List Nat} {st : Int} {tp : List Int} {j : Nat} (h : ¬ (one.length : Int) ≤ tp.getD j 0) : los one two st tp j = 0 := by
  unfold los los1
  rw [if_neg h]
theorem los_nonneg (one two : List Nat) (st : Int) (tp : List Int) (j : Nat) : 0 ≤ los one two st tp j := by
  unfold los los1
  split
  · split <;> omega
  · omega


/-! ### joined and cut -/
/-- whether codes behind others are read otherwise than alone -/
def iro (one two : List Nat) (a b : List Int) : Bool := decide (rdS one 0 a = 1) && decide (0 < (spo one two b : Int))
def joinL (one two : List Nat) (a b : List Int) : List Int := a ++ (if iro one two a b = true then [(one.length : Int)] else []) ++ b
def cutR (one two : List Nat) (tp : List Int) (k : Nat) : List Int := (if iro one two (tp.take k) (tp.drop k) = true then [(one.length : Int) + 1] else []) ++ tp.drop k
theorem rd_alike {one two : List Nat} {a b : Int} (ha : Bit a) (hb : Bit b) {l : List Int} : rdT one two a l = rdT one two b l ↔ (a = b ∨ spo one two l = 0) := by
  by_cases hab : a = b
  · subst hab
    simp
  · have h := difN_rd (one := one) (two := two) ha hb hab l
    constructor
    · intro e
      right
      rw [e, difN_self] at h
      exact h.symm
    · rintro (e | e)
      · exact absurd e hab
      · exact difN_eq (rdT_len_eq one two a b l) rfl (by rw [h, e])
theorem iro_iff {one two : List Nat} {a b : List Int} (ha : Codes one.length a) : iro one two a b = true ↔ rdT one two (rdS one 0 a) b ≠ rdT one two 0 b := by
  have hb : Bit (rdS one 0 a) := rdS_bit (.inl rfl) ha
  have h := rd_alike (one := one) (two := two) (l := b) hb (.inl rfl)
  unfold iro
  rw [Bool.and_eq_true, decide_eq_true_eq, decide_eq_true_eq]
  constructor
  · rintro ⟨h1, h2⟩ e
    rcases h.mp e with e | e
    · omega
    · omega
  · intro hn
    have h3 : ¬ (rdS one 0 a = 0 ∨ spo one two b = 0) := fun e => hn (h.mpr e)
    have h4 : rdS one 0 a ≠ 0 := fun e => h3 (.inl e)
    have h5 : spo one two b ≠ 0 := fun e => h3 (.inr e)
    unfold Bit at hb
    omega
theorem join_read {one two : List Nat} {a b : List Int} (ha : Codes one.length a) : rdT one two 0 (joinL one two a b) = rdT one two 0 a ++ rdT one two 0 b := by
  unfold joinL
  by_cases h : iro one two a b = true
  · rw [if_pos h, List.append_assoc, rdT_append]
    have e : ¬ (one.length : Int) < one.length := by omega
    simp only [List.cons_append, List.nil_append, rdT, if_neg e, Int.sub_self]
  · rw [if_neg h, List.append_nil, rdT_append]
    congr 1
    by_cases e : rdT one two (rdS one 0 a) b = rdT one two 0 b
    · exact e
    · exact absurd ((iro_iff ha).mpr e) h
theorem cut_read {one two : List Nat} {tp : List Int} {k : Nat} (ht : Codes one.length tp) : rdT one two 0 (tp.take k) ++ rdT one two 0 (cutR one two tp k) = rdT one two 0 tp := by
  have e0 : rdT one two 0 tp = rdT one two 0 (tp.take k) ++ rdT one two (rdS one 0 (tp.take k)) (tp.drop k) := by
    rw [← rdT_append, List.take_append_drop]
  rw [e0]
  congr 1
  unfold cutR
  by_cases h : iro one two (tp.take k) (tp.drop k) = true
  · rw [if_pos h]
    have e : ¬ (one.length : Int) + 1 < one.length := by omega
    have e1 : rdS one 0 (tp.take k) = 1 := by
      unfold iro at h
      rw [Bool.and_eq_true, decide_eq_true_eq] at h
      exact h.1
    have e2 : (one.length : Int) + 1 - one.length = 1 := by omega
    simp only [List.cons_append, List.nil_append, rdT, if_neg e, e2, e1]
  · rw [if_neg h, List.nil_append]
    by_cases e : rdT one two (rdS one 0 (tp.take k)) (tp.drop k) = rdT one two 0 (tp.drop k)
    · exact e.symm
    · exact absurd ((iro_iff (ht.take k)).mpr e) h
theorem cut_codes {one two : List Nat} {tp : List Int} {k : Nat} (ht : Codes one.length tp) : Codes one.length (cutR one two tp k) := by
  unfold cutR
  refine Codes.append (fun c hc => ?_) (ht.drop k)
  split at hc
  · rw [List.mem_singleton.mp hc]
    omega
  · simp at hc
theorem join_codes {one two : List Nat} {a b : List Int} (ha : Codes one.length a) (hb : Codes one.length b) : Codes one.length (joinL one two a b) := by
  unfold joinL
  refine Codes.append (Codes.append ha fun c hc => ?_) hb
  split at hc
  · rw [List.mem_singleton.mp hc]
    omega
  · simp at hc
theorem join_len (one two : List Nat) (a b : List Int) : (joinL one two a b).length ≤ a.length + b.length + 1 := by
  unfold joinL
  rw [List.length_append, List.length_append]
  split
  · rw [List.length_singleton]
    omega
  · rw [List.length_nil]
    omega
theorem cut_len (one two : List Nat) (tp : List Int) (k : Nat) : (cutR one two tp k).length ≤ tp.length + 1 := by
  unfold cutR
  rw [List.length_append, List.length_drop]
  split
  · rw [List.length_singleton]
    omega
  · rw [List.length_nil]
    omega
theorem back_len {one two : List Nat} {tp : List Int} {k : Nat} (hk : k ≤ tp.length) : (joinL one two (tp.take k) (cutR one two tp k)).length ≤ tp.length + 1 := by
  by_cases h : iro one two (tp.take k) (tp.drop k) = true
  · have e : cutR one two tp k = ((one.length : Int) + 1) :: tp.drop k := by
      unfold cutR
      rw [if_pos h]
      rfl
    have e2 : iro one two (tp.take k) (cutR one two tp k) = false := by
      unfold iro
      rw [e, spo_shift _ (by omega)]
      simp
    have e3 : ¬ iro one two (tp.take k) (cutR one two tp k) = true := by rw [e2]; simp
    unfold joinL
    rw [if_neg e3, e]
    simp
    omega
  · have e : cutR one two tp k = tp.drop k := by
      unfold cutR
      rw [if_neg h]
      rfl
    have := join_len one two (tp.take k) (tp.drop k)
    rw [e]
    rw [List.length_take, List.length_drop] at this
    omega
theorem back_read {one two : List Nat} {tp : List Int} {k : Nat} (ht : Codes one.length tp) : rdT one two 0 (joinL one two (tp.take k) (cutR one two tp k)) = rdT one two 0 tp := by
  rw [join_read (ht.take k), cut_read ht]

/-! ### the text by places -/
def topS (i : Nat) : Stmt := PySem.Challenge.pw_shiftrow_k09_whole_cut_and_joined.main.body.getD i (.Pass ⟨0, 0, 0, 0⟩)
abbrev s_p_can_be_set : Stmt := topS 8
abbrev n_p_can_be_set : List Str := ["text"]
theorem sc_p_can_be_set : FnScope ["text"] ["text"] (defScope s_p_can_be_set) := ⟨rfl, rfl, rfl, by decide +kernel, rfl, by decide +kernel, by decide +kernel⟩
abbrev s_p_check_sets : Stmt := topS 9
abbrev n_p_check_sets : List Str := ["sets", "first", "second"]
theorem sc_p_check_sets : FnScope ["sets", "first", "second"] ["sets"] (defScope s_p_check_sets) := ⟨rfl, rfl, rfl, by decide +kernel, rfl, by decide +kernel, by decide +kernel⟩
abbrev s_p_check_tape : Stmt := topS 10
abbrev n_p_check_tape : List Str := ["sets", "tape", "last", "at", "code"]
theorem sc_p_check_tape : FnScope ["sets", "tape", "last", "at", "code"] ["sets", "tape"] (defScope s_p_check_tape) := ⟨rfl, rfl, rfl, by decide +kernel, rfl, by decide +kernel, by decide +kernel⟩
abbrev s_p_check_state : Stmt := topS 11
abbrev n_p_check_state : List Str := ["state"]
theorem sc_p_check_state : FnScope ["state"] ["state"] (defScope s_p_check_state) := ⟨rfl, rfl, rfl, by decide +kernel, rfl, by decide +kernel, by decide +kernel⟩
abbrev s_p_is_common : Stmt := topS 12
abbrev n_p_is_common : List Str := ["sets", "code"]
theorem sc_p_is_common : FnScope ["sets", "code"] ["sets", "code"] (defScope s_p_is_common) := ⟨rfl, rfl, rfl, by decide +kernel, rfl, by decide +kernel, by decide +kernel⟩
abbrev s_p_read : Stmt := topS 13
abbrev n_p_read : List Str := ["sets", "tape", "state", "many", "signs", "now", "code"]
theorem sc_p_read : FnScope ["sets", "tape", "state", "many", "signs", "now", "code"] ["sets", "tape", "state"] (defScope s_p_read) := ⟨rfl, rfl, rfl, by decide +kernel, rfl, by decide +kernel, by decide +kernel⟩
abbrev s_p_spoilt : Stmt := topS 15
abbrev n_p_spoilt : List Str := ["sets", "codes", "many", "signs", "code"]
theorem sc_p_spoilt : FnScope ["sets", "codes", "many", "signs", "code"] ["sets", "codes"] (defScope s_p_spoilt) := ⟨rfl, rfl, rfl, by decide +kernel, rfl, by decide +kernel, by decide +kernel⟩
abbrev s_p_is_read_otherwise : Stmt := topS 17
abbrev n_p_is_read_otherwise : List Str := ["sets", "ahead", "behind", "_", "state"]
theorem sc_p_is_read_otherwise : FnScope ["sets", "ahead", "behind", "_", "state"] ["sets", "ahead", "behind"] (defScope s_p_is_read_otherwise) := ⟨rfl, rfl, rfl, by decide +kernel, rfl, by decide +kernel, by decide +kernel⟩
abbrev s_p_joined : Stmt := topS 18
abbrev n_p_joined : List Str := ["sets", "one", "other"]
theorem sc_p_joined : FnScope ["sets", "one", "other"] ["sets", "one", "other"] (defScope s_p_joined) := ⟨rfl, rfl, rfl, by decide +kernel, rfl, by decide +kernel, by decide +kernel⟩
abbrev s_p_cut : Stmt := topS 19
abbrev n_p_cut : List Str := ["sets", "tape", "at", "ahead", "behind"]
theorem sc_p_cut : FnScope ["sets", "tape", "at", "ahead", "behind"] ["sets", "tape", "at"] (defScope s_p_cut) := ⟨rfl, rfl, rfl, by decide +kernel, rfl, by decide +kernel, by decide +kernel⟩
abbrev s_l_dice : Stmt := topS 21
abbrev n_l_dice : List Str := ["_law_script", "_law_k", "_law_found", "_law_cell"]
theorem sc_l_dice : FnScope ["_law_script", "_law_k", "_law_found", "_law_cell"] ["_law_script", "_law_k"] (defScope s_l_dice) := ⟨rfl, rfl, rfl, by decide +kernel, rfl, by decide +kernel, by decide +kernel⟩
abbrev s_l_off : Stmt := topS 22
abbrev n_l_off : List Str := ["_law_d", "_law_most", "_law_found"]
theorem sc_l_off : FnScope ["_law_d", "_law_most", "_law_found"] ["_law_d", "_law_most"] (defScope s_l_off) := ⟨rfl, rfl, rfl, by decide +kernel, rfl, by decide +kernel, by decide +kernel⟩
abbrev s_l_alike : Stmt := topS 23
abbrev n_l_alike : List Str := ["_law_found", "_law_due", "_law_k"]
theorem sc_l_alike : FnScope ["_law_found", "_law_due", "_law_k"] ["_law_found", "_law_due"] (defScope s_l_alike) := ⟨rfl, rfl, rfl, by decide +kernel, rfl, by decide +kernel, by decide +kernel⟩
abbrev s_l_mixed : Stmt := topS 24
abbrev n_l_mixed : List Str := ["_law_d", "_law_row", "_law_left", "_law_found"]
theorem sc_l_mixed : FnScope ["_law_d", "_law_row", "_law_left", "_law_found"] ["_law_d", "_law_row"] (defScope s_l_mixed) := ⟨rfl, rfl, rfl, by decide +kernel, rfl, by decide +kernel, by decide +kernel⟩
abbrev s_l_sets : Stmt := topS 25
abbrev n_l_sets : List Str := ["_law_d", "_law_many", "_law_signs", "_law_every", "_law_turn", "_law_one", "_law_often", "_law_other", "_law_left", "_law_k", "_law_some", "_law_sign"]
theorem sc_l_sets : FnScope ["_law_d", "_law_many", "_law_signs", "_law_every", "_law_turn", "_law_one", "_law_often", "_law_other", "_law_left", "_law_k", "_law_some", "_law_sign"] ["_law_d"] (defScope s_l_sets) := ⟨rfl, rfl, rfl, by decide +kernel, rfl, by decide +kernel, by decide +kernel⟩
abbrev s_l_tape : Stmt := topS 26
abbrev n_l_tape : List Str := ["_law_d", "_law_sets_here", "_law_most", "_law_often", "_law_found", "_law_k", "_law_code"]
theorem sc_l_tape : FnScope ["_law_d", "_law_sets_here", "_law_most", "_law_often", "_law_found", "_law_k", "_law_code"] ["_law_d", "_law_sets_here", "_law_most"] (defScope s_l_tape) := ⟨rfl, rfl, rfl, by decide +kernel, rfl, by decide +kernel, by decide +kernel⟩
abbrev s_l_gone : Stmt := topS 27
abbrev n_l_gone : List Str := ["_law_sets_here", "_law_tape_here", "_law_state", "_law_text", "_law_code"]
theorem sc_l_gone : FnScope ["_law_sets_here", "_law_tape_here", "_law_state", "_law_text", "_law_code"] ["_law_sets_here", "_law_tape_here", "_law_state"] (defScope s_l_gone) := ⟨rfl, rfl, rfl, by decide +kernel, rfl, by decide +kernel, by decide +kernel⟩
abbrev s_law : Stmt := topS 28
abbrev n_law : List Str := ["_law_script", "_law_d", "_law_sets_here", "_law_many", "_law_turn", "_law_one", "_law_other", "_law_handed", "_law_found", "_law_last", "_law_need", "_law_at", "_law_pieces", "_law_here", "_law_due", "_law_back"]
theorem sc_law : FnScope ["_law_script", "_law_d", "_law_sets_here", "_law_many", "_law_turn", "_law_one", "_law_other", "_law_handed", "_law_found", "_law_last", "_law_need", "_law_at", "_law_pieces", "_law_here", "_law_due", "_law_back"] ["_law_script"] (defScope s_law) := ⟨rfl, rfl, rfl, by decide +kernel, rfl, by decide +kernel, by decide +kernel⟩
/-- what the top has left -/
structure Txt (K : PySem.W.Frag) (mg : Str → Option Value) where
  a_p_can_be_set : Addr
  d_p_can_be_set : FuncData
  F_p_can_be_set : Fun K "can_be_set" "can_be_set" s_p_can_be_set a_p_can_be_set d_p_can_be_set
  g_p_can_be_set : mg "can_be_set" = some (.ref a_p_can_be_set)
  b_p_can_be_set : Binds K d_p_can_be_set ["text"] []
  a_p_check_sets : Addr
  d_p_check_sets : FuncData
  F_p_check_sets : Fun K "check_sets" "check_sets" s_p_check_sets a_p_check_sets d_p_check_sets
  g_p_check_sets : mg "check_sets" = some (.ref a_p_check_sets)
  b_p_check_sets : Binds K d_p_check_sets ["sets"] []
  a_p_check_tape : Addr
  d_p_check_tape : FuncData
  F_p_check_tape : Fun K "check_tape" "check_tape" s_p_check_tape a_p_check_tape d_p_check_tape
  g_p_check_tape : mg "check_tape" = some (.ref a_p_check_tape)
  b_p_check_tape : Binds K d_p_check_tape ["sets", "tape"] []
  a_p_check_state : Addr
  d_p_check_state : FuncData
  F_p_check_state : Fun K "check_state" "check_state" s_p_check_state a_p_check_state d_p_check_state
  g_p_check_state : mg "check_state" = some (.ref a_p_check_state)
  b_p_check_state : Binds K d_p_check_state ["state"] []
  a_p_is_common : Addr
  d_p_is_common : FuncData
  F_p_is_common : Fun K "is_common" "is_common" s_p_is_common a_p_is_common d_p_is_common
  g_p_is_common : mg "is_common" = some (.ref a_p_is_common)
  b_p_is_common : Binds K d_p_is_common ["sets", "code"] []
  a_p_read : Addr
  d_p_read : FuncData
  F_p_read : Fun K "read" "read" s_p_read a_p_read d_p_read
  g_p_read : mg "read" = some (.ref a_p_read)
  b_p_read : Binds K d_p_read ["sets", "tape", "state"] []
  a_p_spoilt : Addr
  d_p_spoilt : FuncData
  F_p_spoilt : Fun K "spoilt" "spoilt" s_p_spoilt a_p_spoilt d_p_spoilt
  g_p_spoilt : mg "spoilt" = some (.ref a_p_spoilt)
  b_p_spoilt : Binds K d_p_spoilt ["sets", "codes"] []
  a_p_is_read_otherwise : Addr
  d_p_is_read_otherwise : FuncData
  F_p_is_read_otherwise : Fun K "is_read_otherwise" "is_read_otherwise" s_p_is_read_otherwise a_p_is_read_otherwise d_p_is_read_otherwise
  g_p_is_read_otherwise : mg "is_read_otherwise" = some (.ref a_p_is_read_otherwise)
  b_p_is_read_otherwise : Binds K d_p_is_read_otherwise ["sets", "ahead", "behind"] []
  a_p_joined : Addr
  d_p_joined : FuncData
  F_p_joined : Fun K "joined" "joined" s_p_joined a_p_joined d_p_joined
  g_p_joined : mg "joined" = some (.ref a_p_joined)
  b_p_joined : Binds K d_p_joined ["sets", "one", "other"] []
  a_p_cut : Addr
  d_p_cut : FuncData
  F_p_cut : Fun K "cut" "cut" s_p_cut a_p_cut d_p_cut
  g_p_cut : mg "cut" = some (.ref a_p_cut)
  b_p_cut : Binds K d_p_cut ["sets", "tape", "at"] []
  a_l_dice : Addr
  d_l_dice : FuncData
  F_l_dice : Fun K "_law_dice" "_law_dice" s_l_dice a_l_dice d_l_dice
  g_l_dice : mg "_law_dice" = some (.ref a_l_dice)
  b_l_dice : Binds K d_l_dice ["_law_script", "_law_k"] []
  a_l_off : Addr
  d_l_off : FuncData
  F_l_off : Fun K "_law_off" "_law_off" s_l_off a_l_off d_l_off
  g_l_off : mg "_law_off" = some (.ref a_l_off)
  b_l_off : Binds K d_l_off ["_law_d", "_law_most"] []
  a_l_alike : Addr
  d_l_alike : FuncData
  F_l_alike : Fun K "_law_alike" "_law_alike" s_l_alike a_l_alike d_l_alike
  g_l_alike : mg "_law_alike" = some (.ref a_l_alike)
  b_l_alike : Binds K d_l_alike ["_law_found", "_law_due"] []
  a_l_mixed : Addr
  d_l_mixed : FuncData
  F_l_mixed : Fun K "_law_mixed" "_law_mixed" s_l_mixed a_l_mixed d_l_mixed
  g_l_mixed : mg "_law_mixed" = some (.ref a_l_mixed)
  b_l_mixed : Binds K d_l_mixed ["_law_d", "_law_row"] []
  a_l_sets : Addr
  d_l_sets : FuncData
  F_l_sets : Fun K "_law_sets" "_law_sets" s_l_sets a_l_sets d_l_sets
  g_l_sets : mg "_law_sets" = some (.ref a_l_sets)
  b_l_sets : Binds K d_l_sets ["_law_d"] []
  a_l_tape : Addr
  d_l_tape : FuncData
  F_l_tape : Fun K "_law_tape" "_law_tape" s_l_tape a_l_tape d_l_tape
  g_l_tape : mg "_law_tape" = some (.ref a_l_tape)
  b_l_tape : Binds K d_l_tape ["_law_d", "_law_sets_here", "_law_most"] []
  a_l_gone : Addr
  d_l_gone : FuncData
  F_l_gone : Fun K "_law_gone" "_law_gone" s_l_gone a_l_gone d_l_gone
  g_l_gone : mg "_law_gone" = some (.ref a_l_gone)
  b_l_gone : Binds K d_l_gone ["_law_sets_here", "_law_tape_here", "_law_state"] []
  a_law : Addr
  d_law : FuncData
  F_law : Fun K "law" "law" s_law a_law d_law
  g_law : mg "law" = some (.ref a_law)
  b_law : Binds K d_law ["_law_script"] []
  m_ValueError : mg "ValueError" = none
  m_abs : mg "abs" = none
  m_all : mg "all" = none
  m_bool : mg "bool" = none
  m_enumerate : mg "enumerate" = none
  m_int : mg "int" = none
  m_isinstance : mg "isinstance" = none
  m_len : mg "len" = none
  m_list : mg "list" = none
  m_range : mg "range" = none
  m_set : mg "set" = none
  m_str : mg "str" = none
  m_tuple : mg "tuple" = none
  t_MOST_SIGNS : Tok
  c_MOST_SIGNS : mg "MOST_SIGNS" = some (.int 10 t_MOST_SIGNS)
  t_MOST_CODES : Tok
  c_MOST_CODES : mg "MOST_CODES" = some (.int 200 t_MOST_CODES)

section
variable {P : Program} {w : World} {K : PySem.W.Frag} {mg : Str → Option Value} {base : Heap}
def spOff : Sp := fun vs H Q _ => ∃ (d : Addr) (ds : List Int) (m : Int), vs = [.ref d, .int m] ∧ H d = some (.lst (Ints ds)) ∧ Dice ds ∧ 1 ≤ m ∧ m < 1000000 ∧
  ∀ k ds', 0 ≤ k → k < m → Dice ds' → Q (.int k) (upd H d (.lst (Ints ds')))
theorem ok_l_off (T : Txt K mg) : FnOk P w K mg base CX0 1 T.a_l_off T.d_l_off ["_law_d", "_law_most"] spOff := by
  refine T.F_l_off.ok sc_l_off (fun vs H Q E h => ?_) (fun cdv A outer s H vs Q E hr h => ?_)
  · obtain ⟨d, ds, m, rfl, _⟩ := h
    rfl
  · obtain ⟨d, ds, m, rfl, hd, ⟨f, r, bs, rfl, hf0, hf1, hr0, hb, hl⟩, hm1, hm2, q⟩ := h
    refine ⟨_,
    (C8.pss_cut (ps_if (PW.pt (pw_and (pt_cmpR op_eq (pe_ix ix_list (pv 0) pe_int (fun _ _ => rfl)) pe_int (nomark _)) (pw_and1 (pt_cmpR op_gt (pe_callB call_len_seq (by rfl) T.m_len PySem.boot_len (pa_cons (pv 0) pa_nil)) pe_int (nomark _))))) 
      (pss_one (ps_asg (pe_bm PySem.F.plainAttrs_list PySem.F.slot_list_pop PySem.F.type_list_pop mt_popAt (pv 0) (pa_cons pe_int pa_nil)) (pg_sub (pv 0) pe_int set_list))) pss_nil) 
    (pss_cons (ps_if (pt_cmpR op_gt (pe_ix ix_list (pv 0) pe_int (fun _ _ => rfl)) pe_int (nomark _)) 
      (pss_cons (ps_set (i := 2) sc_l_off.nd rfl (Or.inl rfl) (pe_op op_mod (pe_ix ix_list (pv 0) pe_int (fun _ _ => rfl)) (pv 1))) 
      (pss_cons (ps_asg (pe_op op_fdiv (pe_ix ix_list (pv 0) pe_int (fun _ _ => rfl)) (pv 1)) (pg_sub (pv 0) pe_int set_list)) 
      (pss_one (ps_ret (pv 2))))) pss_nil) 
    (pss_cons (ps_asg (pe_op op_mod (pe_op op_add (pe_op op_mul (pe_ix ix_list (pv 0) pe_int (fun _ _ => rfl)) pe_int) pe_int) pe_int) (pg_sub (pv 0) pe_int set_list)) 
    (pss_one (ps_ret (pe_op op_mod (pe_op op_fdiv (pe_ix ix_list (pv 0) pe_int (fun _ _ => rfl)) pe_int) (pv 1))))))), ?_⟩
    refine ⟨fun σ' H' => ∃ r bs, σ' = [some (.ref d), some (.int m), none] ∧ 0 ≤ r ∧ (∀ b ∈ bs, 0 ≤ b) ∧ bs.length ≤ 63 ∧ H' = upd H d (.lst (Ints (f :: r :: bs))), ?_, ?_⟩
    · -- the second number, taken from behind when it is 0
      refine ⟨.ref d, rfl, d, _, 1, .int r, rfl, rfl, SqL.of hd, atI_nat (j := 1) rfl, rfl, _, rfl, ite2 (fun h0 => ?_) (fun h0 => ?_)⟩
      · have e0 : r = 0 := V.int.inj (of_decide_eq_true h0)
        subst e0
        refine ⟨.ref d, rfl, d, _, rfl, .inl (SqL.of hd), _, _, rfl, rfl, _, rfl, ite2 (fun h2 => ?_) (fun h2 => ?_)⟩
        · cases bs with
          | nil =>
            have := of_decide_eq_true h2
            simp at this
          | cons b bs =>
            refine ⟨.ref d, rfl, .inl ⟨rfl, _, SqL.of hd⟩, d, _, 2, 2, .int b, rfl, rfl, hd, by decide, by decide, ?_, rfl, ?_⟩
            · simp [seqIndex?]
              omega
            · refine ⟨.ref d, rfl, d, _, 1, 1, rfl, rfl, upd_same, ?_, b, bs, rfl, hb b (by simp), fun c hc => hb c (by simp [hc]), by simp at hl; omega, ?_⟩
              · exact ixn (j := 1) (by simp)
              · rw [upd_upd]
                rfl
        · exact ⟨0, bs, rfl, hr0, hb, hl, (upd_self hd).symm⟩
      · refine iteF ?_
        exact ⟨r, bs, rfl, hr0, hb, hl, (upd_self hd).symm⟩
    · rintro σ' H' ⟨r, bs, rfl, hr0, hb, hl, rfl⟩
      have hd1 : (upd H d (.lst (Ints (f :: r :: bs)))) d = some (.lst (Ints (f :: r :: bs))) := upd_same
      refine ⟨.ref d, rfl, d, _, 1, .int r, rfl, rfl, SqL.of hd1, atI_nat (j := 1) rfl, _, _, rfl, rfl, _, rfl, ite2 (fun h2 => ?_) (fun h2 => ?_)⟩
      · have hm : 0 < m := by omega
        refine ⟨.ref d, rfl, d, _, 1, .int r, rfl, rfl, SqL.of hd1, atI_nat (j := 1) rfl, .int m, rfl, _, _, rfl, rfl, hm, ?_⟩
        refine ⟨.ref d, rfl, d, _, 1, .int r, rfl, rfl, SqL.of hd1, atI_nat (j := 1) rfl, .int m, rfl, _, _, rfl, rfl, ⟨hm, by omega⟩, ?_⟩
        refine ⟨.ref d, rfl, d, _, 1, 1, rfl, rfl, upd_same, ixn (j := 1) (by simp), .int (r % m), rfl, ?_⟩
        rw [upd_upd]
        exact q _ (f :: (r / m) :: bs) (Int.emod_nonneg _ (by omega)) (Int.emod_lt_of_pos _ hm) ⟨f, r / m, bs, rfl, hf0, hf1, Int.ediv_nonneg hr0 (by omega), hb, hl⟩
      · refine ⟨.ref d, rfl, d, _, 0, .int f, rfl, rfl, SqL.of hd1, atI_nat (j := 0) rfl, _, _, rfl, rfl, .inl ⟨by omega, by omega⟩, _, _, rfl, rfl, _, _, rfl, rfl, (by show (0 : Int) < 2147483647; decide), ?_⟩
        refine ⟨.ref d, rfl, d, _, 0, 0, rfl, rfl, upd_same, ixn (j := 0) (by simp), ?_⟩
        rw [upd_upd]
        have g0 := Int.emod_nonneg (f * 48271 + 11) (show (2147483647 : Int) ≠ 0 by decide)
        have g1 := Int.emod_lt_of_pos (f * 48271 + 11) (show (0 : Int) < 2147483647 by decide)
        refine ⟨.ref d, rfl, d, _, 0, .int ((f * 48271 + 11) % 2147483647), rfl, rfl, SqL.of upd_same, atI_nat (j := 0) rfl, _, _, rfl, rfl, ⟨by decide, by decide⟩, .int m, rfl, _, _, rfl, rfl, (by show 0 < m; omega), ?_⟩
        exact q _ (_ :: r :: bs) (Int.emod_nonneg _ (by omega)) (Int.emod_lt_of_pos _ (by omega)) ⟨_, r, bs, rfl, g0, g1, hr0, hb, hl⟩
/-- .. by what is kept -/
def spOffK : Sp := fun vs H Q _ => ∃ (d : Addr) (ds : List Int) (m : Int), vs = [.ref d, .int m] ∧ H d = some (.lst (Ints ds)) ∧ Dice ds ∧ 1 ≤ m ∧ m < 1000000 ∧
  ∀ k ds' H', 0 ≤ k → k < m → Dice ds' → Keep d H H' → H' d = some (.lst (Ints ds')) → Q (.int k) H'
theorem ok_l_offK (T : Txt K mg) : FnOk P w K mg base CX0 1 T.a_l_off T.d_l_off ["_law_d", "_law_most"] spOffK :=
  (ok_l_off T).imp fun vs H Q E h => by
    obtain ⟨d, ds, m, rfl, hd, hD, h1, h2, q⟩ := h
    exact ⟨d, ds, m, rfl, hd, hD, h1, h2, fun k ds' h3 h4 h5 => q k ds' _ h3 h4 h5 Keep.upd upd_same⟩

def spDice (K : PySem.W.Frag) : Sp := fun vs H Q _ => ∃ (a : Addr) (ns : List Int), vs = [.ref a, .int 0] ∧ SqL K H a (Ints ns) ∧ ns.length ≤ 63 ∧
  ∀ H' p ds, Same H H' → H p = none → H' p = some (.lst (Ints ds)) → Dice ds → Q (.ref p) H'
theorem ok_l_dice (T : Txt K mg) : FnOk P w K mg base CX0 1 T.a_l_dice T.d_l_dice ["_law_script", "_law_k"] (spDice K) := by
  refine T.F_l_dice.ok sc_l_dice (fun vs H Q E h => ?_) (fun cdv A outer s H vs Q E hr h => ?_)
  · obtain ⟨a, ns, rfl, _⟩ := h
    rfl
  · obtain ⟨a, ns, rfl, hS, hn, q⟩ := h
    refine ⟨_,
    (pss_cons (ps_set (i := 2) sc_l_dice.nd rfl (Or.inl rfl) (pv 1)) 
    (pss_cons (ps_for PassesOwn.never rfl (pi_list (pv 0)) (pg_name (i := 3) sc_l_dice.nd rfl (Or.inl rfl)) 
      (pss_one (ps_set (i := 2) sc_l_dice.nd rfl (Or.inl rfl) (pe_op op_mod (pe_op op_add (pe_op op_mul (pv 2) pe_int) (pe_callB call_abs (by rfl) T.m_abs (by decide +kernel) (pa_cons (pv 3) pa_nil))) pe_int)))) 
    (pss_one (ps_ret (pe_op op_cat (pe_lst (pa_cons (pv 2) (pa_cons pe_int pa_nil))) (pe_lc (own := [("_law_cell", 3)]) (g := gName 3) rfl sc_l_dice.nd (pi_list (pv 0)) (blkOk_by (own := [("_law_cell", 3)]) (N := n_l_dice) (sc := (defScope s_l_dice)) (by decide +kernel)) (fun _ _ _ _ _ => (pg_name (i := 3) sc_l_dice.nd rfl (Or.inl rfl))) (fun _ _ _ _ _ => (pts_one (pt_cmpR op_ge (pv 3) (pe_op op_pow pe_int pe_int) (nomark _)))) (fun _ _ _ _ _ => (pv 3)))))))), ?_⟩
    refine ⟨.int 0, rfl, .ref a, rfl, a, rfl, ⟨_, hS⟩, for_list (xs := Ints ns) (fun i σ H' => ∃ y3 f, σ = [some (.ref a), some (.int 0), some (.int f), y3] ∧ 0 ≤ f ∧ f < 2147483647 ∧ H = H') ⟨none, 0, rfl, by decide, by decide, rfl⟩ ?_ ?_ ?_⟩
    · rintro i σ H' _ ⟨y3, f, rfl, h0, h1, rfl⟩
      exact hS
    · rintro i x σ H' hx ⟨y3, f, rfl, h0, h1, rfl⟩
      rw [List.getElem?_map] at hx
      obtain ⟨c, hc, rfl⟩ := Option.map_eq_some_iff.mp hx
      refine ⟨_, rfl, _, _, rfl, rfl, .inl ⟨by omega, by omega⟩, _, rfl, c, rfl, _, _, rfl, rfl, _, _, rfl, rfl, (by show (0 : Int) < 2147483647; decide), ?_⟩
      exact ⟨_, _, rfl, Int.emod_nonneg _ (by decide), Int.emod_lt_of_pos _ (by decide), rfl⟩
    · rintro σ H' ⟨y3, f, rfl, h0, h1, rfl⟩
      refine ⟨_, rfl, (by show 2 ≤ sizeLine; decide), fun l hl => ?_⟩
      have hS' := (Same.new (o := .lst [.int f, .int 0]) hl).seq hS
      refine ⟨_, rfl, a, rfl, ⟨_, hS'⟩, fun D hD => lc_list (xs := Ints ns) (fun i H' => ∃ bs, H' D = some (.lst (Ints bs)) ∧ (∀ b ∈ bs, 0 ≤ b) ∧ bs.length ≤ i ∧ H' l = some (.lst [.int f, .int 0]) ∧ Same H H') ?_ ?_ ?_ ?_⟩
      · have hlD : l ≠ D := ne_of_none upd_same hD
        exact ⟨[], upd_same, by simp, Nat.le_refl _, by rw [upd_ne hlD, upd_same], (Same.new hl).trans (Same.new hD)⟩
      · rintro i H' _ ⟨bs, _, _, _, _, sm⟩
        exact sm.seq hS
      · rintro i x H' hx ⟨bs, eD, hb, hbl, el, sm⟩
        rw [List.getElem?_map] at hx
        obtain ⟨c, hc, rfl⟩ := Option.map_eq_some_iff.mp hx
        have hi : i < ns.length := (List.getElem?_eq_some_iff.mp hc).1
        refine ⟨rfl, _, rfl, _, _, rfl, rfl, ⟨by decide, by decide, by decide⟩, _, _, rfl, rfl, _, rfl, ?_⟩
        refine ite2 (fun h => ?_) (fun h => ?_)
        · have hc : (10 : Int) ^ 18 ≤ c := of_decide_eq_true h
          refine ⟨_, rfl, _, eD, (by rw [List.length_map]; exact small1000 (by omega)), bs ++ [c], ?_, ?_, ?_, ?_, ?_⟩
          · rw [upd_same]
            simp
          · intro b hm
            rcases List.mem_append.mp hm with hm | hm
            · exact hb b hm
            · rw [List.mem_singleton.mp hm]
              have : (0 : Int) ≤ (10 : Int) ^ 18 := by decide
              omega
          · rw [List.length_append]
            simp
            omega
          · have hlD : l ≠ D := ne_of_none upd_same hD
            rw [upd_ne hlD]
            exact el
          · exact Same.mut sm (Same.free (Same.new hl) hD)
        · exact ⟨bs, eD, hb, by omega, el, sm⟩
      · rintro H' ⟨bs, eD, hb, hbl, el, sm⟩
        rw [List.length_map] at hbl
        refine ⟨l, D, _, _, rfl, rfl, el, eD, ?_, fun p hp => ?_⟩
        · simp only [List.length_map, List.length_cons, List.length_nil]
          exact Nat.le_of_lt (small1000 (by omega))
        · exact q _ p (f :: 0 :: bs) (sm.trans (Same.new hp)) (sm.free hp) (by rw [upd_same]; rfl) ⟨f, 0, bs, rfl, h0, h1, by decide, hb, by omega⟩

/-- a def that draws: the dice at d turns, all else stands -/
def spMixed : Sp := fun vs H Q _ => ∃ (d r : Addr) (ds : List Int) (cs : List Nat), vs = [.ref d, .ref r] ∧ H d = some (.lst (Ints ds)) ∧ Dice ds ∧ H r = some (.lst (Sgs cs)) ∧ cs.length ≤ 1000 ∧ (∀ c ∈ cs, c < 1114112) ∧
  ∀ H' p ds' ps, Keep d H H' → H p = none → H' d = some (.lst (Ints ds')) → Dice ds' → H' p = some (.lst (Sgs ps)) → ps.Perm cs → Q (.ref p) H'
def MixInv (d r l o : Addr) (H : Hp) (cs ls : List Nat) (σ : L2.St) (H' : Hp) : Prop :=
  ∃ ps ds', σ = [some (.ref d), some (.ref r), some (.ref l), some (.ref o)] ∧ Keep d H H' ∧ H' d = some (.lst (Ints ds')) ∧ Dice ds' ∧ H' l = some (.lst (Sgs ls)) ∧ H' o = some (.lst (Sgs ps)) ∧ (ps ++ ls).Perm cs
theorem erase_map {α β : Type} (f : α → β) (l : List α) (k : Nat) : (l.map f).eraseIdx k = (l.eraseIdx k).map f := by
  rw [List.eraseIdx_eq_take_drop_succ, List.eraseIdx_eq_take_drop_succ, List.map_append, List.map_take, List.map_drop]
theorem perm_take {ps ls : List Nat} {k : Nat} (h : k < ls.length) : ((ps ++ [ls[k]]) ++ ls.eraseIdx k).Perm (ps ++ ls) := by
  rw [List.append_assoc]
  refine List.Perm.append_left ps ?_
  show (ls[k] :: ls.eraseIdx k).Perm ls
  have e := List.eraseIdx_eq_take_drop_succ ls k
  rw [e]
  have e2 : ls = ls.take k ++ ls[k] :: ls.drop (k + 1) := by
    rw [List.getElem_cons_drop, List.take_append_drop]
  conv => rhs; rw [e2]
  exact List.perm_middle.symm
theorem ok_l_mixed (T : Txt K mg) : FnOk P w K mg base CX0 2 T.a_l_mixed T.d_l_mixed ["_law_d", "_law_row"] spMixed := by
  refine T.F_l_mixed.ok sc_l_mixed (fun vs H Q E h => ?_) (fun cdv A outer s H vs Q E hr h => ?_)
  · obtain ⟨d, r, ds, cs, rfl, _⟩ := h
    rfl
  · obtain ⟨d, r, ds, cs, rfl, hd, hD, hR, hlen, hcs, q⟩ := h
    refine ⟨_,
    (pss_cons (ps_set (i := 2) sc_l_mixed.nd rfl (Or.inl rfl) (pe_callTy call_list_of (by rfl) T.m_list (by decide +kernel) (pa_cons (pv 1) pa_nil))) 
    (pss_cons (ps_set (i := 3) sc_l_mixed.nd rfl (Or.inl rfl) (pe_lst pa_nil)) 
    (pss_cons (ps_while PassesOwn.never (pt_cmpR (op_neD hr.units) (pv 2) (pe_lst pa_nil) (nomark _)) 
      (pss_one (ps_expr (pe_bm PySem.F.plainAttrs_list PySem.F.slot_list_append PySem.F.type_list_append mt_append (pv 3) (pa_cons (pe_bm PySem.F.plainAttrs_list PySem.F.slot_list_pop PySem.F.type_list_pop mt_popAt (pv 2) (pa_cons (pe_call (ok_l_off T) (hr.mono (by decide)) (by rfl) T.g_l_off T.F_l_off.kp T.b_l_off .nil pass0 (pa_cons (pv 0) (pa_cons (pe_callB call_len_seq (by rfl) T.m_len PySem.boot_len (pa_cons (pv 2) pa_nil)) pa_nil))) pa_nil)) pa_nil))))) 
    (pss_one (ps_ret (pv 3)))))), ?_⟩
    refine ⟨.ref r, rfl, r, _, rfl, .inl (SqL.of hR), fun l hl => ⟨Nat.zero_le _, fun o ho => ?_⟩⟩
    have hlo : l ≠ o := ne_of_none upd_same ho
    have hdl : d ≠ l := ne_of_none hd hl
    have hdo : d ≠ o := ne_of_none (by rw [upd_ne hdl]; exact hd) ho
    have hoN : H o = none := Same.free (Same.new hl) ho
    refine ⟨fun m σ H' => ∃ ls, m = ls.length ∧ MixInv d r l o H cs ls σ H', ⟨_, cs, rfl, [], ds, rfl, Keep.same ((Same.new hl).trans (Same.new ho)), ?_, hD, ?_, upd_same, List.Perm.refl _⟩, ?_⟩
    · rw [upd_ne hdo, upd_ne hdl]
      exact hd
    · rw [upd_ne hlo, upd_same]
    · rintro m σ H' ⟨ls, rfl, ps, ds', rfl, kp, ed, hD', el, eo, pm⟩
      have hls : ∀ c ∈ ls, c < 1114112 := fun c hc => hcs c (pm.mem_iff.mp (List.mem_append_right _ hc))
      have hll : ps.length + ls.length = cs.length := by
        rw [← List.length_append]
        exact pm.length_eq
      refine ⟨_, rfl, Nat.zero_le _, fun t ht => ?_⟩
      have st : Same H' (upd H' t (.lst [])) := Same.new ht
      have kt : Keep d H (upd H' t (.lst [])) := kp.trans (Keep.same st)
      refine ⟨dSgs ls, .list [], Dp.sgs (st _ _ el), .lst (SqL.of upd_same) .nil, shaped_sgs hls, rfl, _, rfl, ite2 (fun h => ?_) (fun h => ?_)⟩
      · have hne : ls ≠ [] := by
          rintro rfl
          simp [eqv_nil] at h
        have hpos : 0 < ls.length := List.length_pos_iff.mpr hne
        refine ⟨fun σ' H' => ∃ ls', ls'.length < ls.length ∧ MixInv d r l o H cs ls' σ' H', fun σ' H' hN => ?_, ?_⟩
        · obtain ⟨ls', h1, h2⟩ := hN
          exact ⟨ls'.length, h1, ls', rfl, h2⟩
        · refine ⟨_, rfl, .inl ⟨rfl, _, SqL.of (st _ _ eo)⟩, _, rfl, .inl ⟨rfl, _, SqL.of (st _ _ el)⟩, _, rfl, _, rfl, l, _, rfl, .inl (SqL.of (st _ _ el)), ?_⟩
          refine ⟨d, ds', _, rfl, st _ _ ed, hD', by simp; omega, by simp; omega, fun k ds2 hk0 hk1 hD2 => ?_⟩
          have hlk : k.toNat < ls.length := by
            simp at hk1
            omega
          have el2 : (upd (upd H' t (.lst [])) d (.lst (Ints ds2))) l = some (.lst (Sgs ls)) := by
            rw [upd_ne hdl.symm]
            exact st _ _ el
          have eo2 : (upd (upd H' t (.lst [])) d (.lst (Ints ds2))) o = some (.lst (Sgs ps)) := by
            rw [upd_ne hdo.symm]
            exact st _ _ eo
          refine ⟨l, _, k, k.toNat, sg ls[k.toNat], rfl, rfl, el2, by omega, by omega, ?_, ?_, ?_⟩
          · simp [seqIndex?]
            simp at hk1
            omega
          · rw [List.getElem?_map, List.getElem?_eq_getElem hlk]
            rfl
          · refine ⟨o, _, _, rfl, rfl, (by rw [upd_ne hlo.symm]; exact eo2), ?_, ls.eraseIdx k.toNat, ?_, ps ++ [ls[k.toNat]], ds2, rfl, ?_, ?_, hD2, ?_, ?_, ?_⟩
            · rw [List.length_map]
              exact small1000 (by omega)
            · rw [List.length_eraseIdx_of_lt hlk]
              omega
            · exact ((kt.trans Keep.upd).mut hl).mut hoN
            · rw [upd_ne hdo, upd_ne hdl, upd_same]
            · rw [upd_ne hlo, upd_same, erase_map]
            · rw [upd_same]
              simp
            · exact (perm_take hlk).trans pm
      · have e : ls = [] := by
          have : PyData.eqv (dSgs ls) (.list []) = true := by
            cases hh : PyData.eqv (dSgs ls) (.list []) with
            | true => rfl
            | false =>
              rw [hh] at h
              exact absurd rfl h
          rw [eqv_nil] at this
          cases ls with
          | nil => rfl
          | cons _ _ => cases this
        subst e
        rw [List.append_nil] at pm
        exact ⟨_, rfl, q _ o ds' ps kt hoN (st _ _ ed) hD' (st _ _ eo) pm⟩

/-! ### the drawn sets -/
def sg0 : List Nat := (List.range 10).map (· + 97) ++ [32] ++ (List.range 7).map (· + 48) ++ [46, 44, 45, 120]
def sg1 : List Nat := (List.range 127).filter fun c => decide (32 ≤ c) && !decide (c = 34) && !decide (c = 37) && !decide (c = 92)
theorem sg0_ok : sg0.length = 22 ∧ sg0.Nodup ∧ ∀ c ∈ sg0, c < 127 := by decide +kernel
theorem sg1_ok : sg1.length = 92 ∧ sg1.Nodup ∧ ∀ c ∈ sg1, c < 127 := by decide +kernel
/-- 22 signs -/
def Signs (cs : List Nat) : Prop := cs.length = 22 ∧ cs.Nodup ∧ ∀ c ∈ cs, c < 127
theorem Signs.turn {cs : List Nat} (h : Signs cs) (n : Nat) : Signs (cs.drop n ++ cs.take n) := by
  have pm : (cs.drop n ++ cs.take n).Perm cs := by
    have := List.perm_append_comm (l₁ := cs.drop n) (l₂ := cs.take n)
    rw [List.take_append_drop] at this
    exact this
  exact ⟨by rw [pm.length_eq]; exact h.1, pm.nodup_iff.mpr h.2.1, fun c hc => h.2.2 c (pm.mem_iff.mp hc)⟩
theorem join_cut (ps : List Nat) (n : Int) (h : 0 ≤ n) : cutV (Sgs ps) none (some n) = ((ps.take n.toNat).map fun c => S [c]).map V.str := by
  rw [cutV_to h, ← Sgs_eq]
  exact List.map_take.symm
theorem at_many {k0 k1 : Int} (h0 : 0 ≤ k0) (h1 : k0 < 10) (h2 : 0 ≤ k1) (h3 : k1 < 4) : ∃ m : Int, atI [V.int 3, V.int 4, V.int 6, V.int (1 + k0)] k1 = some (.int m) ∧ 1 ≤ m ∧ m ≤ 10 := by
  have : k1 = 0 ∨ k1 = 1 ∨ k1 = 2 ∨ k1 = 3 := by omega
  rcases this with rfl | rfl | rfl | rfl
  · exact ⟨3, atI_nat (j := 0) rfl, by decide, by decide⟩
  · exact ⟨4, atI_nat (j := 1) rfl, by decide, by decide⟩
  · exact ⟨6, atI_nat (j := 2) rfl, by decide, by decide⟩
  · exact ⟨1 + k0, atI_nat (j := 3) rfl, by omega, by omega⟩
def spSets : Sp := fun vs H Q _ => ∃ (d : Addr) (ds : List Int), vs = [.ref d] ∧ H d = some (.lst (Ints ds)) ∧ Dice ds ∧
  ∀ H' p ds' one two, Keep d H H' → H p = none → H' d = some (.lst (Ints ds')) → Dice ds' → SetsAt H' p one two → Sets one two → Q (.ref p) H'
theorem ok_l_sets (T : Txt K mg) : FnOk P w K mg base CX0 3 T.a_l_sets T.d_l_sets ["_law_d"] spSets := by
  refine T.F_l_sets.ok sc_l_sets (fun vs H Q E h => ?_) (fun cdv A outer s H vs Q E hr h => ?_)
  · obtain ⟨d, ds, rfl, _⟩ := h
    rfl
  · obtain ⟨d, ds, rfl, hd, hD, q⟩ := h
    refine ⟨_,
    (pss_cons (ps_set (i := 1) sc_l_sets.nd rfl (Or.inl rfl) (pe_ix ix_list (pe_lst (pa_cons pe_int (pa_cons pe_int (pa_cons pe_int (pa_cons (pe_op op_add pe_int (pe_call (ok_l_offK T) (hr.mono (by decide)) (by rfl) T.g_l_off T.F_l_off.kp T.b_l_off .nil pass0 (pa_cons (pv 0) (pa_cons pe_int pa_nil)))) pa_nil))))) (pe_call (ok_l_offK T) (hr.mono (by decide)) (by rfl) T.g_l_off T.F_l_off.kp T.b_l_off .nil pass0 (pa_cons (pv 0) (pa_cons pe_int pa_nil))) (fun _ _ => rfl))) 
    (pss_cons (ps_set (i := 2) sc_l_sets.nd rfl (Or.inl rfl) pe_str) 
    (C8.pss_cut (ps_if (pt_cmpR op_eq (pe_call (ok_l_offK T) (hr.mono (by decide)) (by rfl) T.g_l_off T.F_l_off.kp T.b_l_off .nil pass0 (pa_cons (pv 0) (pa_cons pe_int pa_nil))) pe_int (nomark _)) 
      (pss_cons (ps_set (i := 3) sc_l_sets.nd rfl (Or.inl rfl) pe_str) 
      (pss_one (ps_set (i := 2) sc_l_sets.nd rfl (Or.inl rfl) (pe_join pe_str (pe_slice sl_list (pe_call (ok_l_mixed T) (hr.mono (by decide)) (by rfl) T.g_l_mixed T.F_l_mixed.kp T.b_l_mixed .nil pass0 (pa_cons (pv 0) (pa_cons (pe_callTy (call_list_text rfl) (by rfl) T.m_list (by decide +kernel) (pa_cons (pv 3) pa_nil)) pa_nil))) po_none (po_some pe_int)))))) pss_nil) 
    (pss_cons (ps_set (i := 4) sc_l_sets.nd rfl (Or.inl rfl) (pe_call (ok_l_offK T) (hr.mono (by decide)) (by rfl) T.g_l_off T.F_l_off.kp T.b_l_off .nil pass0 (pa_cons (pv 0) (pa_cons pe_int pa_nil)))) 
    (pss_cons (ps_set (i := 2) sc_l_sets.nd rfl (Or.inl rfl) (pe_op op_add_str (pe_slice sl_str (pv 2) (po_some (pv 4)) po_none) (pe_slice sl_str (pv 2) po_none (po_some (pv 4))))) 
    (pss_cons (ps_set (i := 5) sc_l_sets.nd rfl (Or.inl rfl) (pe_join pe_str (pe_slice sl_list (pe_call (ok_l_mixed T) (hr.mono (by decide)) (by rfl) T.g_l_mixed T.F_l_mixed.kp T.b_l_mixed .nil pass0 (pa_cons (pv 0) (pa_cons (pe_callTy (call_list_text rfl) (by rfl) T.m_list (by decide +kernel) (pa_cons (pe_slice sl_str (pv 2) po_none (po_some (pe_op op_add (pv 1) (pe_call (ok_l_offK T) (hr.mono (by decide)) (by rfl) T.g_l_off T.F_l_off.kp T.b_l_off .nil pass0 (pa_cons (pv 0) (pa_cons pe_int pa_nil)))))) pa_nil)) pa_nil))) po_none (po_some (pv 1))))) 
    (pss_cons (ps_set (i := 6) sc_l_sets.nd rfl (Or.inl rfl) (pe_op op_add pe_int (pe_call (ok_l_offK T) (hr.mono (by decide)) (by rfl) T.g_l_off T.F_l_off.kp T.b_l_off .nil pass0 (pa_cons (pv 0) (pa_cons pe_int pa_nil))))) 
    (pss_cons (ps_set (i := 7) sc_l_sets.nd rfl (Or.inr rfl) pe_str) 
    (pss_cons (ps_set (i := 8) sc_l_sets.nd rfl (Or.inl rfl) (pe_call (ok_l_mixed T) (hr.mono (by decide)) (by rfl) T.g_l_mixed T.F_l_mixed.kp T.b_l_mixed .nil pass0 (pa_cons (pv 0) (pa_cons (pe_callTy (call_list_text rfl) (by rfl) T.m_list (by decide +kernel) (pa_cons (pv 2) pa_nil)) pa_nil)))) 
    (pss_cons (ps_for PassesOwn.never rfl (pi_range1 (by rfl) T.m_range (pa_cons (pv 1) pa_nil)) (pg_name (i := 9) sc_l_sets.nd rfl (Or.inl rfl)) 
      (pss_one (ps_if (pt_cut (PW.pt (pw_and (pt_cmpR op_eq (pe_call (ok_l_offK T) (hr.mono (by decide)) (by rfl) T.g_l_off T.F_l_off.kp T.b_l_off .nil pass0 (pa_cons (pv 0) (pa_cons (pv 6) pa_nil))) pe_int (nomark _)) (pw_and1 (pt_cmpR op_notIn_sign (pe_ix ix_str (pv 5) (pv 9) (fun _ _ => rfl)) (pv 7) (by rfl)))))) 
        (pss_one (ps_set (i := 7) sc_l_sets.nd rfl (Or.inr rfl) (pe_op op_add_str (pv 7) (pe_ix ix_str (pv 5) (pv 9) (fun _ _ => rfl))))) 
        (pss_cons (ps_setLc (i := 10) (own := [("_law_sign", 11)]) (g := gName 11) rfl sc_l_sets.nd rfl rfl (sw_true rfl rfl rfl (by decide +kernel)) (pi_list (pv 8)) (blkOk_by (own := [("_law_sign", 11)]) (N := n_l_sets) (sc := (defScope s_l_sets)) (by decide +kernel)) (fun _ _ _ _ _ => (pg_name (i := 11) sc_l_sets.nd rfl (Or.inl rfl))) (fun _ _ _ _ _ => (pts_one (pt_cmpR op_notIn_sign (pv 11) (pv 7) (by rfl)))) (fun _ _ _ _ _ => (pv 11))) 
        (pss_one (ps_set (i := 7) sc_l_sets.nd rfl (Or.inr rfl) (pe_op op_add_str (pv 7) (pe_ix ix_list (pv 10) pe_int (fun _ _ => rfl))))))))) 
    (pss_one (ps_ret (pe_tup (pa_cons (pv 5) (pa_cons (pv 7) pa_nil))))))))))))))), ?_⟩
    -- how many signs
    refine ⟨_, rfl, d, ds, 10, rfl, hd, hD, by decide, by decide, fun k0 ds0 H0 hk0 hk0' hD0 kp0 e0 => ?_⟩
    refine ⟨_, _, rfl, rfl, (by show 4 ≤ sizeLine; decide), fun l hl => ?_⟩
    have hdl : d ≠ l := ne_of_none e0 hl
    refine ⟨_, rfl, d, ds0, 4, rfl, (by rw [upd_ne hdl]; exact e0), hD0, by decide, by decide, fun k1 ds1 H1 hk1 hk1' hD1 kp1 e1 => ?_⟩
    obtain ⟨m, hm, hm1, hm2⟩ := at_many hk0 hk0' hk1 hk1'
    refine ⟨l, _, k1, .int m, rfl, rfl, SqL.of (kp1 l _ hdl.symm upd_same), hm, ?_⟩
    have kpA : Keep d H H1 := kp0.trans ((Keep.same (Same.new hl)).trans kp1)
    -- which signs
    refine ⟨fun σ' H' => ∃ cs y3 ds', σ' = [some (.ref d), some (.int m), some (.str (S cs)), y3, none, none, none, none, none, none, none, none] ∧ Keep d H H' ∧ H' d = some (.lst (Ints ds')) ∧ Dice ds' ∧ Signs cs, ?_, ?_⟩
    · refine ⟨_, rfl, d, ds1, 4, rfl, e1, hD1, by decide, by decide, fun k2 ds2 H2 hk2 hk2' hD2 kp2 e2 => ?_⟩
      refine ⟨rfl, _, rfl, ite2 (fun h => ?_) (fun h => ?_)⟩
      · refine ⟨⟨_, rfl⟩, _, rfl, _, rfl, sg1, by rfl, small_le (by rw [sg1_ok.1]; decide), fun r hr => ?_⟩
        have hdr : d ≠ r := ne_of_none e2 hr
        refine ⟨d, r, ds2, sg1, rfl, (by rw [upd_ne hdr]; exact e2), hD2, upd_same, (by rw [sg1_ok.1]; decide), fun c hc => Nat.lt_trans (sg1_ok.2.2 c hc) (by decide), fun H3 p ds3 ps kp3 hp e3 hD3 ep pm => ?_⟩
        refine ⟨22, rfl, p, _, rfl, SqL.of ep, fun z hz => ?_⟩
        have hdz : d ≠ z := ne_of_none e3 hz
        have hl3 : ps.length = 92 := by rw [pm.length_eq, sg1_ok.1]
        refine ⟨S [], z, (ps.take 22).map (fun c => S [c]), rfl, rfl, .inl (SqL.of (by rw [upd_same, join_cut ps 22 (by decide)]; rfl)), ?_, ?_⟩
        · rw [len_sgs, List.length_map, List.length_take, S_len]
          simp
          omega
        · rw [join_sgs]
          refine ⟨_, _, ds3, rfl, (kpA.trans (kp2.trans ((Keep.same (Same.new hr)).trans kp3))).trans (Keep.same (Same.new hz)), by rw [upd_ne hdz]; exact e3, hD3, ?_, ?_, ?_⟩
          · rw [List.length_take, hl3]
            rfl
          · exact (List.take_sublist 22 ps).nodup (pm.nodup_iff.mpr sg1_ok.2.1)
          · exact fun c hc => sg1_ok.2.2 c (pm.mem_iff.mp (List.mem_of_mem_take hc))
      · exact ⟨sg0, none, ds2, by rfl, kpA.trans kp2, e2, hD2, sg0_ok⟩
    · rintro σ' H2 ⟨cs0, y3, ds2, rfl, kp2, e2, hD2, hs0⟩
      -- turned
      refine ⟨_, rfl, d, ds2, 20, rfl, e2, hD2, by decide, by decide, fun k3 ds3 H3 hk3 hk3' hD3 kp3 e3 => ?_⟩
      refine ⟨_, rfl, _, rfl, k3, rfl, S cs0, rfl, small_le (by rw [S_len, hs0.1]; decide), ?_⟩
      refine ⟨_, rfl, _, rfl, k3, rfl, S cs0, rfl, small_le (by rw [S_len, hs0.1]; decide), ?_⟩
      rw [cut_from hk3, cut_to hk3]
      have hs1 := hs0.turn k3.toNat
      refine ⟨_, _, rfl, rfl, small_le ?_, ?_⟩
      · rw [S_len, S_len, ← List.length_append, hs1.1]
        decide
      rw [S_cat]
      generalize cs0.drop k3.toNat ++ cs0.take k3.toNat = cs at hs1 ⊢
      have kpB : Keep d H H3 := kp2.trans kp3
      -- the first set
      refine ⟨⟨_, rfl⟩, _, rfl, _, rfl, _, rfl, _, rfl, d, ds3, 3, rfl, e3, hD3, by decide, by decide, fun k4 ds4 H4 hk4 hk4' hD4 kp4 e4 => ?_⟩
      refine ⟨_, _, rfl, rfl, m + k4, rfl, S cs, rfl, small_le (by rw [S_len, hs1.1]; decide), ?_⟩
      rw [cut_to (by omega)]
      refine ⟨_, rfl, small_le (by rw [List.length_take, hs1.1]; omega), fun r hr => ?_⟩
      have hdr : d ≠ r := ne_of_none e4 hr
      refine ⟨d, r, ds4, _, rfl, (by rw [upd_ne hdr]; exact e4), hD4, upd_same, (by rw [List.length_take, hs1.1]; omega), fun c hc => Nat.lt_trans (hs1.2.2 c (List.mem_of_mem_take hc)) (by decide), fun H5 p ds5 ps kp5 hp e5 hD5 ep pm => ?_⟩
      refine ⟨_, rfl, m, rfl, p, _, rfl, SqL.of ep, fun z hz => ?_⟩
      have hdz : d ≠ z := ne_of_none e5 hz
      have hl5 : ps.length = min (m + k4).toNat 22 := by rw [pm.length_eq, List.length_take, hs1.1]
      refine ⟨S [], z, (ps.take m.toNat).map (fun c => S [c]), rfl, rfl, .inl (SqL.of (by rw [upd_same, join_cut ps m (by omega)])), ?_, ?_⟩
      · rw [len_sgs, List.length_map, List.length_take, S_len]
        simp
        omega
      rw [join_sgs]
      have hone : (ps.take m.toNat).length = m.toNat ∧ (ps.take m.toNat).Nodup ∧ ∀ c ∈ ps.take m.toNat, c < 127 := by
        refine ⟨by rw [List.length_take, hl5]; omega, ?_, fun c hc => hs1.2.2 c (List.mem_of_mem_take (pm.mem_iff.mp (List.mem_of_mem_take hc)))⟩
        exact (List.take_sublist _ _).nodup (pm.nodup_iff.mpr ((List.take_sublist _ _).nodup hs1.2.1))
      generalize ps.take m.toNat = one at hone ⊢
      have kpC : Keep d H (upd H5 z (.lst (cutV (Sgs ps) none (some m)))) := (kpB.trans (kp4.trans ((Keep.same (Same.new hr)).trans kp5))).trans (Keep.same (Same.new hz))
      have eC : (upd H5 z (.lst (cutV (Sgs ps) none (some m)))) d = some (.lst (Ints ds5)) := by
        rw [upd_ne hdz]
        exact e5
      generalize upd H5 z (.lst (cutV (Sgs ps) none (some m))) = H6 at kpC eC ⊢
      -- the second one
      refine ⟨_, rfl, d, ds5, 4, rfl, eC, hD5, by decide, by decide, fun k6 ds6 H7 hk6 hk6' hD6 kp6 e6 => ?_⟩
      refine ⟨_, _, rfl, rfl, ?_⟩
      refine ⟨_, rfl, _, rfl, cs, rfl, small_le (by rw [hs1.1]; decide), fun r2 hr2 => ?_⟩
      have hdr2 : d ≠ r2 := ne_of_none e6 hr2
      refine ⟨d, r2, ds6, cs, rfl, (by rw [upd_ne hdr2]; exact e6), hD6, upd_same, (by rw [hs1.1]; decide), fun c hc => Nat.lt_trans (hs1.2.2 c hc) (by decide), fun H8 lf ds8 ls kp8 hlf e8 hD8 elf pm2 => ?_⟩
      have kpD : Keep d H H8 := kpC.trans (kp6.trans ((Keep.same (Same.new hr2)).trans kp8))
      have hln : ls.Nodup := pm2.nodup_iff.mpr hs1.2.1
      have hll : ls.length = 22 := by rw [pm2.length_eq, hs1.1]
      have hlc : ∀ c ∈ ls, c < 127 := fun c hc => hs1.2.2 c (pm2.mem_iff.mp hc)
      have hdlf : d ≠ lf := ne_of_none (by rw [upd_ne hdr2]; exact e6) hlf
      have hoff : 1 ≤ 1 + k6 ∧ 1 + k6 < 1000000 := by omega
      refine ⟨_, rfl, m, rfl, by omega, by omega, for_range (n := m.toNat) (fun i σ H' => ∃ ot y9 y10 y11 ds', σ = [some (.ref d), some (.int m), some (.str (S cs)), y3, some (.int k3), some (.str (S one)), some (.int (1 + k6)), some (.str (S ot)), some (.ref lf), y9, y10, y11] ∧
        Keep d H H' ∧ H' d = some (.lst (Ints ds')) ∧ Dice ds' ∧ H' lf = some (.lst (Sgs ls)) ∧ ot.length = i ∧ ot.Nodup ∧ ∀ c ∈ ot, c < 127) ⟨[], none, none, none, ds8, rfl, kpD, e8, hD8, elf, rfl, List.nodup_nil, by simp⟩ ?_ ?_⟩
      · rintro i σ H' hi ⟨ot, y9, y10, y11, ds', rfl, kp, ed, hD', ef, hol, hon, hoc⟩
        have hio : i < one.length := by omega
        have hiz : (0 : Int) ≤ 0 + (i : Nat) ∧ (0 : Int) + (i : Nat) < (one.length : Int) := by omega
        have hic : one.getD ((0 : Int) + (i : Nat)).toNat 0 ∈ one := by
          rw [show ((0 : Int) + (i : Nat)).toNat = i by omega, List.getD_eq_getElem?_getD, List.getElem?_eq_getElem hio]
          exact List.getElem_mem hio
        have hat := at_sign hiz.1 hiz.2
        generalize one.getD ((0 : Int) + (i : Nat)).toNat 0 = c at hic hat
        refine ⟨fun H1 => ∃ ds', Keep d H H1 ∧ H1 d = some (.lst (Ints ds')) ∧ Dice ds' ∧ H1 lf = some (.lst (Sgs ls)) ∧ c ∉ ot, fun H1 => ∃ ds', Keep d H H1 ∧ H1 d = some (.lst (Ints ds')) ∧ Dice ds' ∧ H1 lf = some (.lst (Sgs ls)), ?_, ?_, ?_⟩
        · refine ⟨_, rfl, _, rfl, d, ds', 1 + k6, rfl, ed, hD', hoff.1, hoff.2, fun k9 ds9 H9 hk9 hk9' hD9 kp9 e9 => ?_⟩
          have kp2 := kp.trans kp9
          have ef2 := kp9 _ _ hdlf.symm ef
          refine ⟨rfl, _, rfl, ite2 (fun h => ?_) (fun h => ?_)⟩
          · refine ⟨_, rfl, _, rfl, S one, _, c, rfl, rfl, small_le (by rw [S_len]; omega), hat, _, rfl, c, S ot, rfl, rfl, _, rfl, ?_⟩
            by_cases hc : c ∈ ot
            · rw [decide_eq_true (show c ∈ (S ot).cps.toList from hc)]
              exact ⟨ds9, kp2, e9, hD9, ef2⟩
            · rw [decide_eq_false (show ¬ c ∈ (S ot).cps.toList from hc)]
              exact ⟨ds9, kp2, e9, hD9, ef2, hc⟩
          · exact iteF ⟨ds9, kp2, e9, hD9, ef2⟩
        · rintro H1 ⟨ds1, kp1, e1, hD1, ef1, hc⟩
          refine ⟨_, rfl, _, rfl, _, rfl, S one, _, c, rfl, rfl, small_le (by rw [S_len]; omega), hat, S ot, S [c], rfl, rfl, small_le (by rw [S_len, S_len]; simp; omega), ?_⟩
          refine ⟨ot ++ [c], _, _, _, ds1, by rw [← S_cat]; rfl, kp1, e1, hD1, ef1, by simp [hol], ?_, ?_⟩
          · rw [List.nodup_append]
            exact ⟨hon, by simp, fun a ha b hb e => by
              rw [List.mem_singleton.mp hb] at e
              exact hc (e ▸ ha)⟩
          · intro x hx
            rcases List.mem_append.mp hx with hx | hx
            · exact hoc x hx
            · rw [List.mem_singleton.mp hx]
              exact hone.2.2 c hic
        · rintro H1 ⟨ds1, kp1, e1, hD1, ef1⟩
          have elf1 : SqL K H1 lf (Sgs ls) := SqL.of ef1
          refine ⟨_, rfl, lf, rfl, ⟨_, elf1⟩, fun D hD => lc_list (xs := Sgs ls) (fun j H' => H' D = some (.lst (Sgs (off2 (ls.take j) ot))) ∧ Same H1 H') ⟨upd_same, Same.new hD⟩ ?_ ?_ ?_⟩
          · rintro j H' _ ⟨_, sm⟩
            exact SqL.of (sm _ _ ef1)
          · rintro j x H' hx ⟨eD, sm⟩
            obtain ⟨e, hex, rfl⟩ := sgs_at hx
            have hj : j < ls.length := (List.getElem?_eq_some_iff.mp hex).1
            refine ⟨rfl, _, rfl, _, rfl, e, S ot, rfl, rfl, _, rfl, ?_⟩
            rw [take_snoc hex, off2_snoc]
            by_cases hc : e ∈ ot
            · rw [decide_eq_true (show e ∈ (S ot).cps.toList from hc), if_pos hc]
              exact ⟨eD, sm⟩
            · rw [decide_eq_false (show ¬ e ∈ (S ot).cps.toList from hc), if_neg hc]
              refine ⟨_, rfl, _, eD, ?_, ?_, Same.mut sm hD⟩
              · rw [len_sg]
                have := List.length_filter_le (fun c => !decide (c ∈ ot)) (ls.take j)
                rw [List.length_take] at this
                exact small1000 (by unfold off2; omega)
              · rw [upd_same, sgs_snoc]
          · rintro H' ⟨eD, sm⟩
            rw [len_sg, List.take_of_length_le (Nat.le_refl _)] at eD
            obtain ⟨e, r, e1', hel, heo⟩ := off2_ne hln (show ot.length < ls.length by omega)
            rw [e1'] at eD
            refine ⟨_, rfl, _, rfl, D, _, 0, sg e, rfl, rfl, SqL.of eD, atI_nat (j := 0) rfl, S ot, S [e], rfl, rfl, small_le (by rw [S_len, S_len]; simp; omega), ?_⟩
            refine ⟨ot ++ [e], _, _, _, ds1, by rw [← S_cat]; rfl, kp1.trans (Keep.same sm), sm _ _ e1, hD1, sm _ _ ef1, by simp [hol], ?_, ?_⟩
            · rw [List.nodup_append]
              exact ⟨hon, by simp, fun a ha b hb e => by
                rw [List.mem_singleton.mp hb] at e
                exact heo (e ▸ ha)⟩
            · intro x hx
              rcases List.mem_append.mp hx with hx | hx
              · exact hoc x hx
              · rw [List.mem_singleton.mp hx]
                exact hlc e hel
      · rintro σ H' ⟨ot, y9, y10, y11, ds', rfl, kp, ed, hD', ef, hol, hon, hoc⟩
        refine ⟨_, rfl, _, rfl, (by show 2 ≤ sizeLine; decide), fun p hp => ?_⟩
        have hdp : d ≠ p := ne_of_none ed hp
        refine q _ p ds' one ot (kp.trans (Keep.same (Same.new hp))) (kp.free ed hp) (by rw [upd_ne hdp]; exact ed) hD' upd_same ⟨by omega, by omega, by omega, hone.2.1, hon, hone.2.2, hoc⟩

def spTape : Sp := fun vs H Q _ => ∃ (d t : Addr) (ds : List Int) (one two : List Nat) (m : Int), vs = [.ref d, .ref t, .int m] ∧ H d = some (.lst (Ints ds)) ∧ Dice ds ∧ SetsAt H t one two ∧ Sets one two ∧ 0 ≤ m ∧ m ≤ 200 ∧
  ∀ H' p ds' tp, Keep d H H' → H p = none → H' d = some (.lst (Ints ds')) → Dice ds' → H' p = some (.lst (Ints tp)) → Tape one.length tp → (tp.length : Int) ≤ m → Q (.ref p) H'
theorem ok_l_tape (T : Txt K mg) : FnOk P w K mg base CX0 2 T.a_l_tape T.d_l_tape ["_law_d", "_law_sets_here", "_law_most"] spTape := by
  refine T.F_l_tape.ok sc_l_tape (fun vs H Q E h => ?_) (fun cdv A outer s H vs Q E hr h => ?_)
  · obtain ⟨d, t, ds, one, two, m, rfl, _⟩ := h
    rfl
  · obtain ⟨d, t, ds, one, two, m, rfl, hd, hD, hT, hs, hm0, hm1, q⟩ := h
    have hp := hs.pos
    have ht := hs.top
    have htd : t ≠ d := ne_of hT hd (by intro z; cases z)
    refine ⟨_,
    (pss_cons (ps_set (i := 3) sc_l_tape.nd rfl (Or.inl rfl) (pe_op op_add pe_int (pe_call (ok_l_off T) (hr.mono (by decide)) (by rfl) T.g_l_off T.F_l_off.kp T.b_l_off .nil pass0 (pa_cons (pv 0) (pa_cons pe_int pa_nil))))) 
    (pss_cons (ps_set (i := 4) sc_l_tape.nd rfl (Or.inl rfl) (pe_lst pa_nil)) 
    (pss_cons (ps_for PassesOwn.never rfl (pi_range1 (by rfl) T.m_range (pa_cons (pe_call (ok_l_off T) (hr.mono (by decide)) (by rfl) T.g_l_off T.F_l_off.kp T.b_l_off .nil pass0 (pa_cons (pv 0) (pa_cons (pe_op op_add (pv 2) pe_int) pa_nil))) pa_nil)) (pg_name (i := 5) sc_l_tape.nd rfl (Or.inl rfl)) 
      (pss_cons (ps_set (i := 6) sc_l_tape.nd rfl (Or.inl rfl) (pe_call (ok_l_off T) (hr.mono (by decide)) (by rfl) T.g_l_off T.F_l_off.kp T.b_l_off .nil pass0 (pa_cons (pv 0) (pa_cons (pe_callB call_len_str (by rfl) T.m_len PySem.boot_len (pa_cons (pe_ix ix_tup (pv 1) pe_int (fun _ _ => rfl)) pa_nil)) pa_nil)))) 
      (C8.pss_cut (ps_if (pt_cmpR op_eq (pe_call (ok_l_off T) (hr.mono (by decide)) (by rfl) T.g_l_off T.F_l_off.kp T.b_l_off .nil pass0 (pa_cons (pv 0) (pa_cons (pv 3) pa_nil))) pe_int (nomark _)) 
        (pss_one (ps_set (i := 6) sc_l_tape.nd rfl (Or.inl rfl) (pe_op op_add (pe_callB call_len_str (by rfl) T.m_len PySem.boot_len (pa_cons (pe_ix ix_tup (pv 1) pe_int (fun _ _ => rfl)) pa_nil)) (pe_call (ok_l_off T) (hr.mono (by decide)) (by rfl) T.g_l_off T.F_l_off.kp T.b_l_off .nil pass0 (pa_cons (pv 0) (pa_cons pe_int pa_nil)))))) pss_nil) 
      (pss_one (ps_expr (pe_bm PySem.F.plainAttrs_list PySem.F.slot_list_append PySem.F.type_list_append mt_append (pv 4) (pa_cons (pv 6) pa_nil))))))) 
    (pss_one (ps_ret (pv 4)))))), ?_⟩
    refine ⟨_, rfl, d, ds, 5, rfl, hd, hD, by decide, by decide, fun k1 ds1 hk0 hk1 hD1 => ?_⟩
    refine ⟨_, _, rfl, rfl, Nat.zero_le _, fun o ho => ?_⟩
    have hdo : d ≠ o := ne_of_none upd_same ho
    have hoN : H o = none := Keep.free (Keep.upd (H := H) (d := d) (o := .lst (Ints ds1))) upd_same ho
    refine ⟨_, rfl, _, rfl, _, _, rfl, rfl, d, ds1, _, rfl, (by rw [upd_ne hdo, upd_same]), hD1, by omega, by omega, fun k2 ds2 hk2 hk3 hD2 => ?_⟩
    refine ⟨k2, rfl, by omega, by omega, for_range (n := k2.toNat) (fun i σ H' => ∃ y5 y6 tp ds', σ = [some (.ref d), some (.ref t), some (.int m), some (.int (2 + k1)), some (.ref o), y5, y6] ∧ Keep d H H' ∧ H' d = some (.lst (Ints ds')) ∧ Dice ds' ∧
      H' o = some (.lst (Ints tp)) ∧ tp.length = i ∧ ∀ c ∈ tp, 0 ≤ c ∧ c < (one.length : Int) + 2) ⟨none, none, [], ds2, rfl, ?_, upd_same, hD2, ?_, rfl, by simp⟩ ?_ ?_⟩
    · exact ((Keep.upd).trans (Keep.same (Same.new ho))).trans Keep.upd
    · rw [upd_ne hdo.symm, upd_same]
      rfl
    · rintro i σ H' hi ⟨y5, y6, tp, ds', rfl, kp, ed, hD', eo, hl, hc⟩
      have eT : H' t = some (.tup [.str (S one), .str (S two)]) := kp t _ htd hT
      refine ⟨_, rfl, _, rfl, t, _, 0, _, rfl, rfl, SqT.of eT, atI_nat (j := 0) rfl, _, rfl, small_le (by rw [S_len]; omega), ?_⟩
      refine ⟨d, ds', _, rfl, ed, hD', (by rw [S_len]; omega), (by rw [S_len]; omega), fun k3 ds3 hk4 hk5 hD3 => ?_⟩
      rw [S_len] at hk5
      refine ⟨fun σ H' => ∃ c ds', σ = [some (.ref d), some (.ref t), some (.int m), some (.int (2 + k1)), some (.ref o), some (.int (0 + (i : Int))), some (.int c)] ∧ Keep d H H' ∧ H' d = some (.lst (Ints ds')) ∧ Dice ds' ∧
        H' o = some (.lst (Ints tp)) ∧ 0 ≤ c ∧ c < (one.length : Int) + 2, ?_, ?_⟩
      · have e3 : (upd H' d (.lst (Ints ds3))) d = some (.lst (Ints ds3)) := upd_same
        have k3' : Keep d H (upd H' d (.lst (Ints ds3))) := kp.trans Keep.upd
        have eo3 : (upd H' d (.lst (Ints ds3))) o = some (.lst (Ints tp)) := by
          rw [upd_ne hdo.symm]
          exact eo
        refine ⟨_, rfl, _, rfl, d, ds3, _, rfl, e3, hD3, by omega, by omega, fun k4 ds4 hk6 hk7 hD4 => ?_⟩
        have eT4 : (upd (upd H' d (.lst (Ints ds3))) d (.lst (Ints ds4))) t = some (.tup [.str (S one), .str (S two)]) := by
          rw [upd_ne htd, upd_ne htd]
          exact eT
        have eo4 : (upd (upd H' d (.lst (Ints ds3))) d (.lst (Ints ds4))) o = some (.lst (Ints tp)) := by
          rw [upd_ne hdo.symm]
          exact eo3
        refine ⟨rfl, _, rfl, ite2 (fun h => ?_) (fun h => ?_)⟩
        · refine ⟨_, rfl, t, _, 0, _, rfl, rfl, SqT.of eT4, atI_nat (j := 0) rfl, _, rfl, small_le (by rw [S_len]; omega), ?_⟩
          refine ⟨_, rfl, d, ds4, 2, rfl, upd_same, hD4, by decide, by decide, fun k5 ds5 hk8 hk9 hD5 => ?_⟩
          refine ⟨_, _, rfl, rfl, _, ds5, rfl, (k3'.trans Keep.upd).trans Keep.upd, upd_same, hD5, ?_, ?_, ?_⟩
          · rw [upd_ne hdo.symm]
            exact eo4
          · rw [S_len]
            omega
          · rw [S_len]
            omega
        · exact ⟨k3, ds4, rfl, k3'.trans Keep.upd, upd_same, hD4, eo4, hk4, by omega⟩
      · rintro σ' H2 ⟨c, ds', rfl, kp, ed, hD', eo, hc0, hc1⟩
        refine ⟨_, rfl, .inl ⟨rfl, _, SqL.of eo⟩, _, rfl, o, _, _, rfl, rfl, eo, ?_, _, _, tp ++ [c], ds', rfl, kp.mut hoN, ?_, hD', ?_, ?_, ?_⟩
        · rw [List.length_map]
          exact small1000 (by omega)
        · rw [upd_ne hdo]
          exact ed
        · rw [upd_same]
          simp
        · simp [hl]
        · intro x hx
          rcases List.mem_append.mp hx with hx | hx
          · exact hc x hx
          · rw [List.mem_singleton.mp hx]
            exact ⟨hc0, hc1⟩
    · rintro σ H' ⟨y5, y6, tp, ds', rfl, kp, ed, hD', eo, hl, hc⟩
      exact ⟨_, rfl, q H' o ds' tp kp hoN ed hD' eo ⟨by omega, hc⟩ (by omega)⟩

/-- a def that reads a tape: a new tuple of the text and the state behind -/
def spGone : Sp := fun vs H Q _ => ∃ (t a : Addr) (one two : List Nat) (tp : List Int) (st : Int), vs = [.ref t, .ref a, .int st] ∧ SetsAt H t one two ∧ Sets one two ∧ H a = some (.lst (Ints tp)) ∧ Codes one.length tp ∧ tp.length ≤ 1000 ∧ Bit st ∧
  ∀ H' p, Same H H' → H p = none → H' p = some (.tup [.str (S (rdT one two st tp)), .int (rdS one st tp)]) → Q (.ref p) H'
theorem ok_l_gone (T : Txt K mg) : FnOk P w K mg base CX0 1 T.a_l_gone T.d_l_gone ["_law_sets_here", "_law_tape_here", "_law_state"] spGone := by
  refine T.F_l_gone.ok sc_l_gone (fun vs H Q E h => ?_) (fun cdv A outer s H vs Q E hr h => ?_)
  · obtain ⟨t, a, one, two, tp, st, rfl, _⟩ := h
    rfl
  · obtain ⟨t, a, one, two, tp, st, rfl, hT, hs, hA, hc, hl, hb, q⟩ := h
    have hp := hs.pos
    have htp := hs.top
    refine ⟨_,
    (pss_cons (ps_set (i := 3) sc_l_gone.nd rfl (Or.inl rfl) pe_str) 
    (pss_cons (ps_for PassesOwn.never rfl (pi_list (pv 1)) (pg_name (i := 4) sc_l_gone.nd rfl (Or.inl rfl)) 
      (pss_one (ps_if (pt_cmpR op_ge (pv 4) (pe_callB call_len_str (by rfl) T.m_len PySem.boot_len (pa_cons (pe_ix ix_tup (pv 0) pe_int (fun _ _ => rfl)) pa_nil)) (nomark _)) 
        (pss_one (ps_set (i := 2) sc_l_gone.nd rfl (Or.inl rfl) (pe_op op_sub (pv 4) (pe_callB call_len_str (by rfl) T.m_len PySem.boot_len (pa_cons (pe_ix ix_tup (pv 0) pe_int (fun _ _ => rfl)) pa_nil))))) 
        (pss_one (ps_set (i := 3) sc_l_gone.nd rfl (Or.inl rfl) (pe_op op_add_str (pv 3) (pe_ix ix_str (pe_ix ix_tup (pv 0) (pv 2) (fun _ _ => rfl)) (pv 4) (fun _ _ => rfl)))))))) 
    (pss_one (ps_ret (pe_tup (pa_cons (pv 3) (pa_cons (pv 2) pa_nil))))))), ?_⟩
    refine ⟨_, rfl, a, rfl, ⟨_, SqL.of hA⟩, for_list (xs := Ints tp) (fun i σ H' => ∃ y4, σ = [some (.ref t), some (.ref a), some (.int (rdS one st (tp.take i))), some (.str (S (rdT one two st (tp.take i)))), y4] ∧ H = H') ⟨none, rfl, rfl⟩ ?_ ?_ ?_⟩
    · rintro i σ H' _ ⟨y4, rfl, rfl⟩
      exact SqL.of hA
    · rintro i x σ H' hx ⟨y4, rfl, rfl⟩
      rw [List.getElem?_map] at hx
      obtain ⟨c, hcx, rfl⟩ := Option.map_eq_some_iff.mp hx
      have hm := hc c (List.mem_of_getElem? hcx)
      have hbi : Bit (rdS one st (tp.take i)) := rdS_bit hb (hc.take i)
      have e1 := rdT_snoc one two c st (tp.take i)
      have e2 := rdS_snoc one c st (tp.take i)
      rw [← take_snoc hcx] at e1 e2
      have hlen := rdT_len one two st (tp.take i)
      have hi : i < tp.length := (List.getElem?_eq_some_iff.mp hcx).1
      rw [List.length_take] at hlen
      refine ⟨_, rfl, _, rfl, t, _, 0, _, rfl, rfl, SqT.of hT, atI_nat (j := 0) rfl, _, rfl, small_le (by rw [S_len]; omega), _, _, rfl, rfl, _, rfl, ite2 (fun h => ?_) (fun h => ?_)⟩
      · have h' : ((S one).length : Int) ≤ c := of_decide_eq_true h
        rw [S_len] at h'
        refine ⟨_, rfl, _, rfl, t, _, 0, _, rfl, rfl, SqT.of hT, atI_nat (j := 0) rfl, _, rfl, small_le (by rw [S_len]; omega), _, _, rfl, rfl, some (.int c), ?_, rfl⟩
        have hn : ¬ c < (one.length : Int) := by omega
        rw [e1, e2, if_neg hn, if_neg hn, S_len, List.append_nil]
        rfl
      · have h' : ¬ ((S one).length : Int) ≤ c := of_decide_eq_false (by simpa using h)
        rw [S_len] at h'
        have hk := hs.pick (rdS one st (tp.take i))
        refine ⟨_, rfl, _, rfl, _, rfl, t, _, _, _, rfl, rfl, SqT.of hT, at_sets hbi, _, rfl, _, _, _, rfl, rfl, small_le (by rw [S_len, hk]; omega), at_sign hm.1 (by rw [hk]; omega), _, _, rfl, rfl, ?_, some (.int c), ?_, rfl⟩
        · refine small_le ?_
          show (S _).length + 1 ≤ 1000
          rw [S_len]
          omega
        · have hn : c < (one.length : Int) := by omega
          rw [e1, e2, if_pos hn, if_pos hn, ← S_cat]
          rfl
    · rintro σ H' ⟨y4, rfl, rfl⟩
      rw [List.length_map, List.take_of_length_le (Nat.le_refl _)]
      refine ⟨_, rfl, _, rfl, (by show 2 ≤ sizeLine; decide), fun p hp => q _ p (Same.new hp) hp upd_same⟩

/-! ### data in tracked objects -/
mutual
inductive Tk (H : Hp) : V → PyData → Prop
  | non : Tk H .non .none
  | bl (b : Bool) : Tk H (.bl b) (.bool b)
  | int (i : Int) : Tk H (.int i) (.int i)
  | str (x : Str) : Tk H (.str x) (.str x)
  | lst {a : Addr} {xs : List V} {ds : List PyData} : H a = some (.lst xs) → xs.length ≤ 1000 → TkAll H xs ds → Tk H (.ref a) (.list ds)
  | tup {a : Addr} {xs : List V} {ds : List PyData} : H a = some (.tup xs) → xs.length ≤ 1000 → TkAll H xs ds → Tk H (.ref a) (.tuple ds)
inductive TkAll (H : Hp) : List V → List PyData → Prop
  | nil : TkAll H [] []
  | cons {v : V} {vs : List V} {d : PyData} {ds : List PyData} : Tk H v d → TkAll H vs ds → TkAll H (v :: vs) (d :: ds)
end
mutual
theorem Tk.same {H H' : Hp} (s : Same H H') : ∀ {v : V} {d : PyData}, Tk H v d → Tk H' v d
  | _, _, .non => .non
  | _, _, .bl b => .bl b
  | _, _, .int i => .int i
  | _, _, .str x => .str x
  | _, _, .lst h z t => .lst (s _ _ h) z (TkAll.same s t)
  | _, _, .tup h z t => .tup (s _ _ h) z (TkAll.same s t)
theorem TkAll.same {H H' : Hp} (s : Same H H') : ∀ {vs : List V} {ds : List PyData}, TkAll H vs ds → TkAll H' vs ds
  | _, _, .nil => .nil
  | _, _, .cons a b => .cons (Tk.same s a) (TkAll.same s b)
end
theorem TkAll.len {H : Hp} : ∀ {vs : List V} {ds : List PyData}, TkAll H vs ds → vs.length = ds.length
  | _, _, .nil => rfl
  | _, _, .cons _ t => by rw [List.length_cons, List.length_cons, TkAll.len t]
theorem TkAll.at {H : Hp} : ∀ {vs : List V} {ds : List PyData} {i : Nat}, TkAll H vs ds → i < ds.length → ∃ v d, vs[i]? = some v ∧ ds[i]? = some d ∧ Tk H v d
  | _, _, _, .nil, h => by simp at h
  | _, _, 0, .cons (v := v) (d := d) a _, _ => ⟨v, d, rfl, rfl, a⟩
  | _, _, i + 1, .cons _ t, h => by
    obtain ⟨v, d, h1, h2, h3⟩ := TkAll.at (i := i) t (by simpa using h)
    exact ⟨v, d, by simpa using h1, by simpa using h2, h3⟩
theorem Tk.inv_list {H : Hp} {y : V} {ds : List PyData} (h : Tk H y (.list ds)) : ∃ b ys, y = .ref b ∧ H b = some (.lst ys) ∧ ys.length ≤ 1000 ∧ TkAll H ys ds := by
  cases h with
  | lst hb z tb => exact ⟨_, _, rfl, hb, z, tb⟩
theorem Tk.inv_tuple {H : Hp} {y : V} {ds : List PyData} (h : Tk H y (.tuple ds)) : ∃ b ys, y = .ref b ∧ H b = some (.tup ys) ∧ ys.length ≤ 1000 ∧ TkAll H ys ds := by
  cases h with
  | tup hb z tb => exact ⟨_, _, rfl, hb, z, tb⟩
def tyN : PyData → String
  | .none => "NoneType"
  | .bool _ => "bool"
  | .int _ => "int"
  | .str _ => "str"
  | .list _ => "list"
  | .tuple _ => "tuple"
  | .dict _ => "dict"
theorem Tk.ty {K : PySem.W.Frag} {H : Hp} {x : V} {d : PyData} (h : Tk H x d) : TyX K H x (.type (tyN d)) := by
  cases h with
  | non => exact .base .non
  | bl b => exact .base (.bl b)
  | int i => exact .base (.int i)
  | str s => exact .base (.str s)
  | lst h _ _ => exact .base (.lst h)
  | tup h _ _ => exact .base (.tup h)
theorem isi_step {K : PySem.W.Frag} {H : Hp} {x : V} {d : PyData} {c : String} {b : Bool} {Q : VK} (h : Tk H x d) (k : kitB (tyN d) c = some b) (q : Q (.bl b) H) : rIsi K [x, .ty c] H Q :=
  ⟨x, .ty c, _, _, b, rfl, .ty c, h.ty, kit_ty k, q⟩
theorem depth_at : ∀ {ds : List PyData} {i : Nat} {d : PyData}, ds[i]? = some d → d.depth ≤ PyData.depthAll ds
  | [], _, _, h => by simp at h
  | x :: xs, 0, d, h => by
    simp at h
    subst h
    simp only [PyData.depthAll]
    exact Nat.le_max_left _ _
  | x :: xs, i + 1, d, h => by
    have := depth_at (ds := xs) (i := i) (by simpa using h)
    simp only [PyData.depthAll]
    exact Nat.le_trans this (Nat.le_max_right _ _)
def spAlike (n : Nat) : Sp := fun vs H Q _ => ∃ (x y : V) (d : PyData), vs = [x, y] ∧ Tk H x d ∧ Tk H y d ∧ d.depth < n ∧ ∀ H', Same H H' → Q (.bl true) H'
theorem ok_l_alike (T : Txt K mg) : ∀ n, FnOk P w K mg base CX0 n T.a_l_alike T.d_l_alike ["_law_found", "_law_due"] (spAlike n)
  | 0 => ⟨fun vs H Q E h => by
      obtain ⟨x, y, d, rfl, _⟩ := h
      rfl, fun A outer s H args us vs Q E hr he hb hv h => by
      obtain ⟨x, y, d, _, _, _, h, _⟩ := h
      exact absurd h (Nat.not_lt_zero _)⟩
  | n + 1 => by
    have GA : FnOk P w K mg base CX0 n T.a_l_alike T.d_l_alike ["_law_found", "_law_due"] (spAlike n) := ok_l_alike T n
    refine T.F_l_alike.ok sc_l_alike (fun vs H Q E h => ?_) (fun cdv A outer s H vs Q E hr h => ?_)
    · obtain ⟨x, y, d, rfl, _⟩ := h
      rfl
    · obtain ⟨x, y, d, rfl, hx, hy, hdp, q⟩ := h
      refine ⟨_,
    (pss_cons (ps_if (pt_cmpR op_isN (pv 1) pe_non (nomark _)) 
      (pss_one (ps_ret (pe_cmpR op_isN (pv 0) pe_non (nomark _)))) pss_nil) 
    (pss_cons (ps_if (pt_val (pe_callB call_isi (by rfl) T.m_isinstance (by decide +kernel) (pa_cons (pv 1) (pa_cons (pe_bltn (v := .ty "bool") (by rfl) T.m_bool (by decide +kernel) rfl) pa_nil)))) 
      (pss_one (ps_ret (pe_and (pe_callB call_isi (by rfl) T.m_isinstance (by decide +kernel) (pa_cons (pv 0) (pa_cons (pe_bltn (v := .ty "bool") (by rfl) T.m_bool (by decide +kernel) rfl) pa_nil))) (pe_one (pe_cmpR op_eq (pv 0) (pv 1) (nomark _)))))) pss_nil) 
    (pss_cons (ps_if (pt_val (pe_callB call_isi (by rfl) T.m_isinstance (by decide +kernel) (pa_cons (pv 1) (pa_cons (pe_bltn (v := .ty "int") (by rfl) T.m_int (by decide +kernel) rfl) pa_nil)))) 
      (pss_one (ps_ret (pe_and (pe_callB call_isi (by rfl) T.m_isinstance (by decide +kernel) (pa_cons (pv 0) (pa_cons (pe_bltn (v := .ty "int") (by rfl) T.m_int (by decide +kernel) rfl) pa_nil))) (pe_and (pe_not (pe_callB call_isi (by rfl) T.m_isinstance (by decide +kernel) (pa_cons (pv 0) (pa_cons (pe_bltn (v := .ty "bool") (by rfl) T.m_bool (by decide +kernel) rfl) pa_nil)))) (pe_one (pe_cmpR op_eq (pv 0) (pv 1) (nomark _))))))) pss_nil) 
    (pss_cons (ps_if (pt_val (pe_callB call_isi (by rfl) T.m_isinstance (by decide +kernel) (pa_cons (pv 1) (pa_cons (pe_bltn (v := .ty "str") (by rfl) T.m_str (by decide +kernel) rfl) pa_nil)))) 
      (pss_one (ps_ret (pe_and (pe_callB call_isi (by rfl) T.m_isinstance (by decide +kernel) (pa_cons (pv 0) (pa_cons (pe_bltn (v := .ty "str") (by rfl) T.m_str (by decide +kernel) rfl) pa_nil))) (pe_one (pe_cmpR op_eq (pv 0) (pv 1) (nomark _)))))) pss_nil) 
    (pss_cons (ps_if (PW.pt (pw_or (pt_cmpR op_ne (pe_callB call_isi (by rfl) T.m_isinstance (by decide +kernel) (pa_cons (pv 1) (pa_cons (pe_bltn (v := .ty "tuple") (by rfl) T.m_tuple (by decide +kernel) rfl) pa_nil))) (pe_callB call_isi (by rfl) T.m_isinstance (by decide +kernel) (pa_cons (pv 0) (pa_cons (pe_bltn (v := .ty "tuple") (by rfl) T.m_tuple (by decide +kernel) rfl) pa_nil))) (nomark _)) (pw_or1 (pt_cmpR op_ne (pe_callB call_isi (by rfl) T.m_isinstance (by decide +kernel) (pa_cons (pv 1) (pa_cons (pe_bltn (v := .ty "list") (by rfl) T.m_list (by decide +kernel) rfl) pa_nil))) (pe_callB call_isi (by rfl) T.m_isinstance (by decide +kernel) (pa_cons (pv 0) (pa_cons (pe_bltn (v := .ty "list") (by rfl) T.m_list (by decide +kernel) rfl) pa_nil))) (nomark _))))) 
      (pss_one (ps_ret pe_bl)) pss_nil) 
    (pss_cons (ps_if (pt_cmpR op_ne (pe_callB call_len_seq (by rfl) T.m_len PySem.boot_len (pa_cons (pv 0) pa_nil)) (pe_callB call_len_seq (by rfl) T.m_len PySem.boot_len (pa_cons (pv 1) pa_nil)) (nomark _)) 
      (pss_one (ps_ret pe_bl)) pss_nil) 
    (pss_one (ps_ret (pe_callB (cr_all rfl) (by rfl) T.m_all (by decide +kernel) (pa_cons (pe_lc (own := [("_law_k", 2)]) (g := gName 2) (tt := tYes) rfl sc_l_alike.nd (pi_range1 (by rfl) T.m_range (pa_cons (pe_callB call_len_seq (by rfl) T.m_len PySem.boot_len (pa_cons (pv 1) pa_nil)) pa_nil)) (blkOk_by (own := [("_law_k", 2)]) (N := n_l_alike) (sc := (defScope s_l_alike)) (by decide +kernel)) (fun _ _ _ _ _ => (pg_name (i := 2) sc_l_alike.nd rfl (Or.inl rfl))) (fun _ _ _ _ _ => pts_nil) (fun _ _ _ _ _ => (pe_call GA hr (by rfl) T.g_l_alike T.F_l_alike.kp T.b_l_alike .nil pass0 (pa_cons (pe_ix (ix_seq : IxR _ (rIx K)) (pv 0) (pv 2) (fun _ _ => rfl)) (pa_cons (pe_ix (ix_seq : IxR _ (rIx K)) (pv 1) (pv 2) (fun _ _ => rfl)) pa_nil))))) pa_nil)))))))))), ?_⟩
      cases hx with
      | non =>
        cases hy
        exact ⟨_, rfl, rfl, _, rfl, iteT ⟨_, rfl, rfl, q _ (Same.refl _)⟩⟩
      | bl b =>
        have hy' := hy
        cases hy
        refine ⟨_, rfl, rfl, _, rfl, iteF ?_⟩
        refine ⟨_, rfl, _, _, _, _, true, rfl, .ty _, hy'.ty, kit_ty (by dsimp only [tyN]; decide +kernel), ⟨true, rfl, iteT ?_⟩⟩
        refine ⟨_, rfl, _, _, _, _, true, rfl, .ty _, hy'.ty, kit_ty (by dsimp only [tyN]; decide +kernel), ⟨true, rfl, iteT ?_⟩⟩
        exact ⟨_, rfl, _, rfl, rfl, by rw [decide_eq_true rfl]; exact q _ (Same.refl _)⟩
      | int i =>
        have hy' := hy
        cases hy
        refine ⟨_, rfl, rfl, _, rfl, iteF ?_⟩
        refine ⟨_, rfl, _, _, _, _, false, rfl, .ty _, hy'.ty, kit_ty (by dsimp only [tyN]; decide +kernel), ⟨false, rfl, iteF ?_⟩⟩
        refine ⟨_, rfl, _, _, _, _, true, rfl, .ty _, hy'.ty, kit_ty (by dsimp only [tyN]; decide +kernel), ⟨true, rfl, iteT ?_⟩⟩
        refine ⟨_, rfl, _, _, _, _, true, rfl, .ty _, hy'.ty, kit_ty (by dsimp only [tyN]; decide +kernel), ⟨true, rfl, iteT ?_⟩⟩
        refine ⟨_, rfl, _, _, _, _, false, rfl, .ty _, hy'.ty, kit_ty (by dsimp only [tyN]; decide +kernel), ⟨false, rfl, ?_⟩⟩
        refine ⟨true, rfl, iteT ?_⟩
        exact ⟨_, rfl, _, rfl, rfl, by rw [decide_eq_true rfl]; exact q _ (Same.refl _)⟩
      | str z =>
        have hy' := hy
        cases hy
        refine ⟨_, rfl, rfl, _, rfl, iteF ?_⟩
        refine ⟨_, rfl, _, _, _, _, false, rfl, .ty _, hy'.ty, kit_ty (by dsimp only [tyN]; decide +kernel), ⟨false, rfl, iteF ?_⟩⟩
        refine ⟨_, rfl, _, _, _, _, false, rfl, .ty _, hy'.ty, kit_ty (by dsimp only [tyN]; decide +kernel), ⟨false, rfl, iteF ?_⟩⟩
        refine ⟨_, rfl, _, _, _, _, true, rfl, .ty _, hy'.ty, kit_ty (by dsimp only [tyN]; decide +kernel), ⟨true, rfl, iteT ?_⟩⟩
        refine ⟨_, rfl, _, _, _, _, true, rfl, .ty _, hy'.ty, kit_ty (by dsimp only [tyN]; decide +kernel), ⟨true, rfl, iteT ?_⟩⟩
        exact ⟨_, rfl, _, rfl, rfl, by rw [decide_eq_true rfl]; exact q _ (Same.refl _)⟩
      | @lst a xs ds ha za ta =>
        have hx' : Tk H (.ref a) (.list _) := .lst ha za ta
        have hy' := hy
        obtain ⟨b, ys, rfl, hb, zb, tb⟩ := hy.inv_list
        have ea : SqL K H a xs ∨ SqT K H a xs := .inl (SqL.of ha)
        have eb : SqL K H b ys ∨ SqT K H b ys := .inl (SqL.of hb)
        refine ⟨_, rfl, rfl, _, rfl, iteF ?_⟩
        refine ⟨_, rfl, _, _, _, _, false, rfl, .ty _, hy'.ty, kit_ty (by dsimp only [tyN]; decide +kernel), ⟨false, rfl, iteF ?_⟩⟩
        refine ⟨_, rfl, _, _, _, _, false, rfl, .ty _, hy'.ty, kit_ty (by dsimp only [tyN]; decide +kernel), ⟨false, rfl, iteF ?_⟩⟩
        refine ⟨_, rfl, _, _, _, _, false, rfl, .ty _, hy'.ty, kit_ty (by dsimp only [tyN]; decide +kernel), ⟨false, rfl, iteF ?_⟩⟩
        refine ⟨_, rfl, _, _, _, _, false, rfl, .ty _, hy'.ty, kit_ty (by dsimp only [tyN]; decide +kernel), ?_⟩
        refine ⟨_, rfl, _, _, _, _, false, rfl, .ty _, hx'.ty, kit_ty (by dsimp only [tyN]; decide +kernel), rfl, _, rfl, iteF ?_⟩
        refine ⟨_, rfl, _, _, _, _, true, rfl, .ty _, hy'.ty, kit_ty (by dsimp only [tyN]; decide +kernel), ?_⟩
        refine ⟨_, rfl, _, _, _, _, true, rfl, .ty _, hx'.ty, kit_ty (by dsimp only [tyN]; decide +kernel), rfl, _, rfl, iteF ?_⟩
        have la := ta.len
        have lb := tb.len
        refine ⟨_, rfl, a, xs, rfl, ea, _, rfl, b, ys, rfl, eb, rfl, _, rfl, iteNS (by rw [la, lb]) ?_⟩
        simp only [PyData.depth] at hdp
        refine ⟨_, rfl, b, ys, rfl, eb, _, rfl, by omega, by omega, fun D hD => lc_range (lo := 0) (n := ((ys.length : Nat) : Int).toNat) (fun i H' => H' D = some (.lst ((List.replicate i true).map V.bl)) ∧ Same H H') ⟨upd_same, Same.new hD⟩ ?_ ?_⟩
        · rintro i H' hi ⟨eD, sm⟩
          have hi' : i < ds.length := by omega
          obtain ⟨v1, d1, e1, e2, t1⟩ := TkAll.at ta hi'
          obtain ⟨v2, d2, e3, e4, t2⟩ := TkAll.at tb hi'
          rw [e2] at e4
          cases e4
          have dd := depth_at e2
          have z0 : (0 : Int) + (i : Nat) = ((i : Nat) : Int) := Int.zero_add _
          have ix1 : atI xs ((0 : Int) + (i : Nat)) = some v1 := by
            rw [z0]
            exact atI_nat e1
          have ix2 : atI ys ((0 : Int) + (i : Nat)) = some v2 := by
            rw [z0]
            exact atI_nat e3
          refine ⟨rfl, _, rfl, _, rfl, .inl ⟨a, xs, _, v1, rfl, rfl, SqL.of (sm _ _ ha), ix1, _, rfl, _, rfl, .inl ⟨b, ys, _, v2, rfl, rfl, SqL.of (sm _ _ hb), ix2, ?_⟩⟩⟩
          refine ⟨v1, v2, d1, rfl, Tk.same sm t1, Tk.same sm t2, by omega, fun H2 s2 => ?_⟩
          have eD2 := s2 _ _ eD
          refine ⟨_, eD2, ?_, ?_, ?_⟩
          · rw [List.length_map, List.length_replicate]
            exact small1000 (by omega)
          · rw [upd_same]
            congr 2
            rw [List.replicate_succ', List.map_append]
            rfl
          · exact Same.mut (sm.trans s2) hD
        · rintro H' ⟨eD, sm⟩
          refine ⟨D, _, rfl, SqL.of eD, ?_⟩
          have e : (List.replicate ((ys.length : Nat) : Int).toNat true).all id = true := by
            rw [List.all_eq_true]
            intro z hz
            rw [List.eq_of_mem_replicate hz]
            rfl
          rw [e]
          exact q _ sm
      | @tup a xs ds ha za ta =>
        have hx' : Tk H (.ref a) (.tuple _) := .tup ha za ta
        have hy' := hy
        obtain ⟨b, ys, rfl, hb, zb, tb⟩ := hy.inv_tuple
        have ea : SqL K H a xs ∨ SqT K H a xs := .inr (SqT.of ha)
        have eb : SqL K H b ys ∨ SqT K H b ys := .inr (SqT.of hb)
        refine ⟨_, rfl, rfl, _, rfl, iteF ?_⟩
        refine ⟨_, rfl, _, _, _, _, false, rfl, .ty _, hy'.ty, kit_ty (by dsimp only [tyN]; decide +kernel), ⟨false, rfl, iteF ?_⟩⟩
        refine ⟨_, rfl, _, _, _, _, false, rfl, .ty _, hy'.ty, kit_ty (by dsimp only [tyN]; decide +kernel), ⟨false, rfl, iteF ?_⟩⟩
        refine ⟨_, rfl, _, _, _, _, false, rfl, .ty _, hy'.ty, kit_ty (by dsimp only [tyN]; decide +kernel), ⟨false, rfl, iteF ?_⟩⟩
        refine ⟨_, rfl, _, _, _, _, true, rfl, .ty _, hy'.ty, kit_ty (by dsimp only [tyN]; decide +kernel), ?_⟩
        refine ⟨_, rfl, _, _, _, _, true, rfl, .ty _, hx'.ty, kit_ty (by dsimp only [tyN]; decide +kernel), rfl, _, rfl, iteF ?_⟩
        refine ⟨_, rfl, _, _, _, _, false, rfl, .ty _, hy'.ty, kit_ty (by dsimp only [tyN]; decide +kernel), ?_⟩
        refine ⟨_, rfl, _, _, _, _, false, rfl, .ty _, hx'.ty, kit_ty (by dsimp only [tyN]; decide +kernel), rfl, _, rfl, iteF ?_⟩
        have la := ta.len
        have lb := tb.len
        refine ⟨_, rfl, a, xs, rfl, ea, _, rfl, b, ys, rfl, eb, rfl, _, rfl, iteNS (by rw [la, lb]) ?_⟩
        simp only [PyData.depth] at hdp
        refine ⟨_, rfl, b, ys, rfl, eb, _, rfl, by omega, by omega, fun D hD => lc_range (lo := 0) (n := ((ys.length : Nat) : Int).toNat) (fun i H' => H' D = some (.lst ((List.replicate i true).map V.bl)) ∧ Same H H') ⟨upd_same, Same.new hD⟩ ?_ ?_⟩
        · rintro i H' hi ⟨eD, sm⟩
          have hi' : i < ds.length := by omega
          obtain ⟨v1, d1, e1, e2, t1⟩ := TkAll.at ta hi'
          obtain ⟨v2, d2, e3, e4, t2⟩ := TkAll.at tb hi'
          rw [e2] at e4
          cases e4
          have dd := depth_at e2
          have z0 : (0 : Int) + (i : Nat) = ((i : Nat) : Int) := Int.zero_add _
          have ix1 : atI xs ((0 : Int) + (i : Nat)) = some v1 := by
            rw [z0]
            exact atI_nat e1
          have ix2 : atI ys ((0 : Int) + (i : Nat)) = some v2 := by
            rw [z0]
            exact atI_nat e3
          refine ⟨rfl, _, rfl, _, rfl, .inr (.inl ⟨a, xs, _, v1, rfl, rfl, SqT.of (sm _ _ ha), ix1, _, rfl, _, rfl, .inr (.inl ⟨b, ys, _, v2, rfl, rfl, SqT.of (sm _ _ hb), ix2, ?_⟩)⟩)⟩
          refine ⟨v1, v2, d1, rfl, Tk.same sm t1, Tk.same sm t2, by omega, fun H2 s2 => ?_⟩
          have eD2 := s2 _ _ eD
          refine ⟨_, eD2, ?_, ?_, ?_⟩
          · rw [List.length_map, List.length_replicate]
            exact small1000 (by omega)
          · rw [upd_same]
            congr 2
            rw [List.replicate_succ', List.map_append]
            rfl
          · exact Same.mut (sm.trans s2) hD
        · rintro H' ⟨eD, sm⟩
          refine ⟨D, _, rfl, SqL.of eD, ?_⟩
          have e : (List.replicate ((ys.length : Nat) : Int).toNat true).all id = true := by
            rw [List.all_eq_true]
            intro z hz
            rw [List.eq_of_mem_replicate hz]
            rfl
          rw [e]
          exact q _ sm

/-- whether a text can be a set -/
def canBe (cs : List Nat) : Bool := decide (1 ≤ cs.length) && decide (cs.length ≤ 10) && decide (cs.Nodup)
theorem uniq_iff (cs : List Nat) : (uniq cs).length = cs.length ↔ cs.Nodup := by
  have h : ∀ (cs l : List Nat), l.Nodup → ((cs.foldl (fun l c => if l.contains c then l else l ++ [c]) l).length ≤ l.length + cs.length) ∧ ((cs.foldl (fun l c => if l.contains c then l else l ++ [c]) l).length = l.length + cs.length ↔ (l ++ cs).Nodup) := by
    intro cs
    induction cs with
    | nil =>
      intro l hl
      simp [hl]
    | cons c cs ih =>
      intro l hl
      rw [List.foldl_cons]
      by_cases hc : l.contains c = true
      · rw [if_pos hc]
        obtain ⟨h1, h2⟩ := ih l hl
        have hm : c ∈ l := by simpa using hc
        rw [List.length_cons]
        refine ⟨by omega, fun e => ?_, fun e => ?_⟩
        · omega
        · rw [List.nodup_append] at e
          exact absurd rfl (e.2.2 c hm c (by simp))
      · rw [if_neg hc]
        have hm : c ∉ l := by simpa using hc
        have hl2 : (l ++ [c]).Nodup := by
          rw [List.nodup_append]
          exact ⟨hl, by simp, fun a ha b hb e => by
            rw [List.mem_singleton.mp hb] at e
            exact hm (e ▸ ha)⟩
        obtain ⟨h1, h2⟩ := ih (l ++ [c]) hl2
        rw [List.append_assoc] at h2
        rw [List.length_append, List.length_singleton] at h1 h2
        rw [List.length_cons]
        exact ⟨by omega, by rw [show l.length + (cs.length + 1) = l.length + 1 + cs.length by omega]; exact h2⟩
  have := (h cs [] List.nodup_nil).2
  simpa [uniq] using this
def spCan : Sp := fun vs H Q _ => ∃ cs : List Nat, vs = [.str (S cs)] ∧ cs.length ≤ 1000 ∧ Q (.bl (canBe cs)) H
theorem ok_p_can_be_set (T : Txt K mg) : FnOk P w K mg base CX0 1 T.a_p_can_be_set T.d_p_can_be_set ["text"] spCan := by
  refine T.F_p_can_be_set.ok sc_p_can_be_set (fun vs H Q E h => ?_) (fun cdv A outer s H vs Q E hr h => ?_)
  · obtain ⟨cs, rfl, _⟩ := h
    rfl
  · obtain ⟨cs, rfl, hl, q⟩ := h
    have hlen : ((S cs).length : Int) = (cs.length : Int) := by rw [S_len]
    refine ⟨_,
    (pss_one (ps_ret (pe_and (pe_chain op_le op_le pe_int (pe_callB call_len_str (by rfl) T.m_len PySem.boot_len (pa_cons (pv 0) pa_nil)) (pe_glob (v := .int 10) (by rfl) T.c_MOST_SIGNS ⟨_, rfl⟩)) (pe_one (pe_cmpR op_eq (pe_lenSetTxt rfl (by rfl) T.m_len (by rfl) T.m_set (pv 0)) (pe_callB call_len_str (by rfl) T.m_len PySem.boot_len (pa_cons (pv 0) pa_nil)) (nomark _)))))), ?_⟩
    refine ⟨_, rfl, _, rfl, small_le (by rw [S_len]; omega), _, _, rfl, rfl, _, rfl, ite2 (fun h1 => ?_) (fun h1 => ?_)⟩
    · have h1' : (1 : Int) ≤ ((S cs).length : Int) := of_decide_eq_true h1
      rw [hlen] at h1'
      refine ⟨_, _, rfl, rfl, _, rfl, ite2 (fun h2 => ?_) (fun h2 => ?_)⟩
      · have h2' : ((S cs).length : Int) ≤ 10 := of_decide_eq_true h2
        rw [hlen] at h2'
        refine ⟨_, rfl, _, rfl, hl, _, rfl, _, rfl, small_le (by rw [S_len]; omega), rfl, ?_⟩
        have e : canBe cs = decide (V.int ((uniq cs).length : Int) = V.int ((S cs).length : Int)) := by
          rw [hlen]
          unfold canBe
          rw [decide_eq_true (by omega), decide_eq_true (by omega)]
          simp only [Bool.true_and]
          rw [decide_eq_decide, ← uniq_iff]
          constructor
          · intro h
            rw [h]
          · intro h
            have := V.int.inj h
            omega
        rw [e] at q
        exact q
      · have h2' : ¬ ((S cs).length : Int) ≤ 10 := fun h => h2 (decide_eq_true h)
        rw [hlen] at h2'
        have e : canBe cs = false := by
          unfold canBe
          rw [decide_eq_false (p := cs.length ≤ 10) (by omega)]
          simp
        rw [e] at q
        exact q
    · have h1' : ¬ (1 : Int) ≤ ((S cs).length : Int) := fun h => h1 (decide_eq_true h)
      rw [hlen] at h1'
      have e : canBe cs = false := by
        unfold canBe
        rw [decide_eq_false (p := 1 ≤ cs.length) (by omega)]
        simp
      rw [e] at q
      exact ⟨false, rfl, iteF q⟩

theorem canBe_of {cs : List Nat} (h1 : 1 ≤ cs.length) (h2 : cs.length ≤ 10) (h3 : cs.Nodup) : canBe cs = true := by
  unfold canBe
  simp [h1, h2, h3]
def spCheckSets : Sp := fun vs H Q _ => ∃ (t : Addr) (one two : List Nat), vs = [.ref t] ∧ SetsAt H t one two ∧ Sets one two ∧ Q .non H
theorem ok_p_check_sets (T : Txt K mg) : FnOk P w K mg base CX0 2 T.a_p_check_sets T.d_p_check_sets ["sets"] spCheckSets := by
  refine T.F_p_check_sets.ok sc_p_check_sets (fun vs H Q E h => ?_) (fun cdv A outer s H vs Q E hr h => ?_)
  · obtain ⟨t, one, two, rfl, _⟩ := h
    rfl
  · obtain ⟨t, one, two, rfl, hT, hs, q⟩ := h
    have hp := hs.pos
    have ht := hs.top
    have hsm := hs.same
    refine ⟨_,
    (pss_cons (ps_asg (pv 0) (pg_tup rfl (pgs_cons (pg_name (i := 1) sc_p_check_sets.nd rfl (Or.inl rfl)) (pgs_cons (pg_name (i := 2) sc_p_check_sets.nd rfl (Or.inl rfl)) pgs_nil)))) 
    (pss_cons (ps_if (pt_not (pt_val (pe_call (ok_p_can_be_set T) (hr.mono (by decide)) (by rfl) T.g_p_can_be_set T.F_p_can_be_set.kp T.b_p_can_be_set .nil pass0 (pa_cons (pv 1) pa_nil)))) 
      (pss_one ps_never) pss_nil) 
    (pss_one (ps_if (PW.pt (pw_or (pt_cmpR op_ne (pe_callB call_len_str (by rfl) T.m_len PySem.boot_len (pa_cons (pv 2) pa_nil)) (pe_callB call_len_str (by rfl) T.m_len PySem.boot_len (pa_cons (pv 1) pa_nil)) (nomark _)) (pw_or1 (pt_not (pt_val (pe_call (ok_p_can_be_set T) (hr.mono (by decide)) (by rfl) T.g_p_can_be_set T.F_p_can_be_set.kp T.b_p_can_be_set .nil pass0 (pa_cons (pv 2) pa_nil))))))) 
      (pss_one ps_never) pss_nil)))), ?_⟩
    refine ⟨_, rfl, t, _, rfl, SqT.of hT, rfl, _, _, rfl, _, _, rfl, rfl, ?_⟩
    refine ⟨_, rfl, one, rfl, by omega, _, rfl, ?_⟩
    rw [canBe_of hp ht hs.nd1]
    refine iteF ?_
    refine ⟨_, rfl, _, rfl, small_le (by rw [S_len]; omega), _, rfl, _, rfl, small_le (by rw [S_len]; omega), rfl, _, rfl, ?_⟩
    have e : (V.int ((S two).length : Int)) = V.int ((S one).length : Int) := by
      rw [S_len, S_len, hsm]
    refine iteNS e ?_
    refine ⟨_, rfl, two, rfl, by omega, _, rfl, ?_⟩
    rw [canBe_of (by omega) (by omega) hs.nd2]
    exact iteF q
def spCheckTape : Sp := fun vs H Q _ => ∃ (t a : Addr) (one two : List Nat) (tp : List Int), vs = [.ref t, .ref a] ∧ SetsAt H t one two ∧ Sets one two ∧ H a = some (.lst (Ints tp)) ∧ Tape one.length tp ∧ ∀ H', Same H H' → Q .non H'
theorem ok_p_check_tape (T : Txt K mg) : FnOk P w K mg base CX0 1 T.a_p_check_tape T.d_p_check_tape ["sets", "tape"] spCheckTape := by
  refine T.F_p_check_tape.ok sc_p_check_tape (fun vs H Q E h => ?_) (fun cdv A outer s H vs Q E hr h => ?_)
  · obtain ⟨t, a, one, two, tp, rfl, _⟩ := h
    rfl
  · obtain ⟨t, a, one, two, tp, rfl, hT, hs, hA, ⟨hl, hc⟩, q⟩ := h
    have ht := hs.top
    refine ⟨_,
    (pss_cons (ps_set (i := 2) sc_p_check_tape.nd rfl (Or.inl rfl) (pe_op op_add (pe_callB call_len_str (by rfl) T.m_len PySem.boot_len (pa_cons (pe_ix ix_tup (pv 0) pe_int (fun _ _ => rfl)) pa_nil)) pe_int)) 
    (pss_one (ps_for PassesOwn.never rfl (pi_enum (by rfl) T.m_enumerate (pa_cons (pv 1) pa_nil)) (pg_tup rfl (pgs_cons (pg_name (i := 3) sc_p_check_tape.nd rfl (Or.inl rfl)) (pgs_cons (pg_name (i := 4) sc_p_check_tape.nd rfl (Or.inl rfl)) pgs_nil))) 
      (pss_one (ps_if (PW.pt (pw_or (pt_cmpR op_eq (pv 3) (pe_glob (v := .int 200) (by rfl) T.c_MOST_CODES ⟨_, rfl⟩) (nomark _)) (pw_or1 (pt_not (pt_chain op_le op_le pe_int (pv 4) (pv 2)))))) 
        (pss_one ps_never) pss_nil))))), ?_⟩
    refine ⟨_, rfl, t, _, 0, _, rfl, rfl, SqT.of hT, atI_nat (j := 0) rfl, _, rfl, small_le (by rw [S_len]; omega), _, _, rfl, rfl, ?_⟩
    refine ⟨_, rfl, a, _, rfl, SqL.of hA, for_it (walk_enum (xs := Ints tp)) (fun i σ H' => ∃ y3 y4, σ = [some (.ref t), some (.ref a), some (.int ((S one).length + 1)), y3, y4] ∧ Same H H') ⟨none, none, rfl, Same.refl _⟩ ?_ ?_ ?_⟩
    · rintro i σ H' _ ⟨y3, y4, rfl, sm⟩
      exact sm.seq (SqL.of hA)
    · rintro i x σ H' H2 hi ⟨y3, y4, rfl, sm⟩ ⟨p, x1, x2, rfl, hp, rfl, e1, e2⟩
      cases e1
      obtain ⟨c, hcx, rfl⟩ := ints_at e2
      have hm := hc c (List.mem_of_getElem? hcx)
      have hi' : i < tp.length := (List.getElem?_eq_some_iff.mp hcx).1
      have s2 : Same H (upd H' p (.tup [.int (i : Nat), .int c])) := sm.trans (Same.new hp)
      refine ⟨p, _, rfl, SqT.of upd_same, rfl, _, _, rfl, _, _, rfl, rfl, ?_⟩
      refine ⟨_, rfl, rfl, _, rfl, ?_⟩
      have e : ¬ V.int (i : Nat) = V.int 200 := fun z => by
        have := V.int.inj z
        omega
      rw [decide_eq_false e]
      refine iteF ?_
      refine ⟨_, rfl, _, _, rfl, rfl, _, rfl, ?_⟩
      rw [decide_eq_true hm.1]
      refine iteT ⟨_, rfl, _, _, rfl, rfl, _, rfl, ?_⟩
      have e3 : c ≤ ((S one).length : Int) + 1 := by
        rw [S_len]
        omega
      rw [decide_eq_true e3]
      exact iteF ⟨_, _, rfl, s2⟩
    · rintro σ H' ⟨y3, y4, rfl, sm⟩
      exact q _ sm
def spCheckState : Sp := fun vs H Q _ => ∃ st : Int, vs = [.int st] ∧ Bit st ∧ ∀ H', Same H H' → Q .non H'
theorem ok_p_check_state (T : Txt K mg) : FnOk P w K mg base CX0 1 T.a_p_check_state T.d_p_check_state ["state"] spCheckState := by
  refine T.F_p_check_state.ok sc_p_check_state (fun vs H Q E h => ?_) (fun cdv A outer s H vs Q E hr h => ?_)
  · obtain ⟨st, rfl, _⟩ := h
    rfl
  · obtain ⟨st, rfl, hb, q⟩ := h
    refine ⟨_,
    (pss_one (ps_if (pt_cmpR op_notIn_seq (pv 0) (pe_tup (pa_cons pe_int (pa_cons pe_int pa_nil))) (by rfl)) 
      (pss_one ps_never) pss_nil)), ?_⟩
    refine ⟨_, rfl, (by show 2 ≤ sizeLine; decide), fun p hp => ⟨p, _, rfl, .inr (SqT.of upd_same), rfl, rfl, _, rfl, ?_⟩⟩
    have e : inV (.int st) [.int 0, .int 1] = true := by
      rcases hb with rfl | rfl <;> rfl
    rw [e]
    exact iteF (q _ (Same.new hp))

/-- read(sets, tape, state) of what can be -/
def spRead : Sp := fun vs H Q _ => ∃ (t a : Addr) (one two : List Nat) (tp : List Int) (st : Int), vs = [.ref t, .ref a, .int st] ∧ SetsAt H t one two ∧ Sets one two ∧ H a = some (.lst (Ints tp)) ∧ Tape one.length tp ∧ Bit st ∧
  ∀ H' p, Same H H' → H p = none → H' p = some (.tup [.str (S (rdT one two st tp)), .int (rdS one st tp)]) → Q (.ref p) H'
theorem ok_p_read (T : Txt K mg) : FnOk P w K mg base CX0 3 T.a_p_read T.d_p_read ["sets", "tape", "state"] spRead := by
  refine T.F_p_read.ok sc_p_read (fun vs H Q E h => ?_) (fun cdv A outer s H vs Q E hr h => ?_)
  · obtain ⟨t, a, one, two, tp, st, rfl, _⟩ := h
    rfl
  · obtain ⟨t, a, one, two, tp, st, rfl, hT, hs, hA, hc, hb, q⟩ := h
    have hp := hs.pos
    have htp := hs.top
    refine ⟨_,
    (pss_cons (ps_expr (pe_call (ok_p_check_sets T) (hr.mono (by decide)) (by rfl) T.g_p_check_sets T.F_p_check_sets.kp T.b_p_check_sets .nil pass0 (pa_cons (pv 0) pa_nil))) 
    (pss_cons (ps_expr (pe_call (ok_p_check_tape T) (hr.mono (by decide)) (by rfl) T.g_p_check_tape T.F_p_check_tape.kp T.b_p_check_tape .nil pass0 (pa_cons (pv 0) (pa_cons (pv 1) pa_nil)))) 
    (pss_cons (ps_expr (pe_call (ok_p_check_state T) (hr.mono (by decide)) (by rfl) T.g_p_check_state T.F_p_check_state.kp T.b_p_check_state .nil pass0 (pa_cons (pv 2) pa_nil))) 
    (pss_cons (ps_set (i := 3) sc_p_read.nd rfl (Or.inl rfl) (pe_callB call_len_str (by rfl) T.m_len PySem.boot_len (pa_cons (pe_ix ix_tup (pv 0) pe_int (fun _ _ => rfl)) pa_nil))) 
    (pss_cons (ps_set (i := 4) sc_p_read.nd rfl (Or.inl rfl) (pe_lst pa_nil)) 
    (pss_cons (ps_set (i := 5) sc_p_read.nd rfl (Or.inl rfl) (pv 2)) 
    (pss_cons (ps_for PassesOwn.never rfl (pi_list (pv 1)) (pg_name (i := 6) sc_p_read.nd rfl (Or.inl rfl)) 
      (pss_one (ps_if (pt_cmpR op_lt (pv 6) (pv 3) (nomark _)) 
        (pss_one (ps_expr (pe_bm PySem.F.plainAttrs_list PySem.F.slot_list_append PySem.F.type_list_append mt_append (pv 4) (pa_cons (pe_ix ix_str (pe_ix ix_tup (pv 0) (pv 5) (fun _ _ => rfl)) (pv 6) (fun _ _ => rfl)) pa_nil)))) 
        (pss_one (ps_set (i := 5) sc_p_read.nd rfl (Or.inl rfl) (pe_op op_sub (pv 6) (pv 3))))))) 
    (pss_one (ps_ret (pe_tup (pa_cons (pe_join pe_str (pv 4)) (pa_cons (pv 5) pa_nil)))))))))))), ?_⟩
    refine ⟨_, rfl, t, one, two, rfl, hT, hs, ?_⟩
    refine ⟨_, rfl, _, rfl, t, a, one, two, tp, rfl, hT, hs, hA, hc, fun H1 s1 => ?_⟩
    refine ⟨_, rfl, st, rfl, hb, fun H2 s2 => ?_⟩
    have sm := s1.trans s2
    have hT2 := sm _ _ hT
    have hA2 := sm _ _ hA
    refine ⟨_, rfl, t, _, 0, _, rfl, rfl, SqT.of hT2, atI_nat (j := 0) rfl, _, rfl, small_le (by rw [S_len]; omega), Nat.zero_le _, fun o ho => ?_⟩
    have hat : a ≠ o := ne_of_none hA2 ho
    have s3 : Same H2 (upd H2 o (.lst [])) := Same.new ho
    have hoN : H o = none := Same.free sm ho
    refine ⟨_, rfl, _, rfl, a, rfl, ⟨_, SqL.of (s3 _ _ hA2)⟩, for_list (xs := Ints tp) (fun i σ H' => ∃ y6, σ = [some (.ref t), some (.ref a), some (.int st), some (.int (S one).length), some (.ref o), some (.int (rdS one st (tp.take i))), y6] ∧
      Same H H' ∧ H' o = some (.lst (Sgs (rdT one two st (tp.take i))))) ⟨none, rfl, sm.trans s3, upd_same⟩ ?_ ?_ ?_⟩
    · rintro i σ H' _ ⟨y6, rfl, sm', eo⟩
      exact SqL.of (sm' _ _ hA)
    · rintro i x σ H' hx ⟨y6, rfl, sm', eo⟩
      obtain ⟨c, hcx, rfl⟩ := ints_at hx
      have hi : i < tp.length := (List.getElem?_eq_some_iff.mp hcx).1
      have hm := hc.2 c (List.mem_of_getElem? hcx)
      have hl := hc.1
      have hbi : Bit (rdS one st (tp.take i)) := rdS_bit hb (Codes.take hc.2 i)
      have e1 := rdT_snoc one two c st (tp.take i)
      have e2 := rdS_snoc one c st (tp.take i)
      rw [← take_snoc hcx] at e1 e2
      have hlen := rdT_len one two st (tp.take i)
      rw [List.length_take] at hlen
      refine ⟨_, rfl, _, rfl, _, _, rfl, rfl, _, rfl, ite2 (fun h => ?_) (fun h => ?_)⟩
      · have h' : c < ((S one).length : Int) := of_decide_eq_true h
        rw [S_len] at h'
        have hk := hs.pick (rdS one st (tp.take i))
        refine ⟨_, rfl, .inl ⟨rfl, _, SqL.of eo⟩, _, rfl, _, rfl, t, _, _, _, rfl, rfl, SqT.of (sm' _ _ hT), at_sets hbi, _, rfl, _, _, _, rfl, rfl, small_le (by rw [S_len, hk]; omega), at_sign hm.1 (by rw [hk]; omega), ?_⟩
        refine ⟨o, _, _, rfl, rfl, eo, ?_, some (.int c), ?_, Same.mut sm' hoN, ?_⟩
        · rw [List.length_map]
          exact small1000 (by omega)
        · rw [e2, if_pos h']
          rfl
        · rw [upd_same, e1, if_pos h', sgs_snoc]
          rfl
      · have h' : ¬ c < ((S one).length : Int) := fun z => h (decide_eq_true z)
        rw [S_len] at h'
        refine ⟨_, rfl, _, rfl, _, _, rfl, rfl, some (.int c), ?_, sm', ?_⟩
        · rw [e2, if_neg h', S_len]
          rfl
        · rw [e1, if_neg h', List.append_nil]
          exact eo
    · rintro σ H' ⟨y6, rfl, sm', eo⟩
      rw [List.length_map, List.take_of_length_le (Nat.le_refl _)] at *
      refine ⟨⟨_, rfl⟩, _, rfl, S [], o, (rdT one two st tp).map (fun c => S [c]), rfl, rfl, .inl ?_, ?_, ?_⟩
      · rw [← Sgs_eq]
        exact SqL.of eo
      · rw [len_sgs]
        have := rdT_len one two st tp
        have := hc.1
        rw [S_len]
        simp
        omega
      · rw [join_sgs]
        exact ⟨_, rfl, (by show 2 ≤ sizeLine; decide), fun p hp => q _ p (sm'.trans (Same.new hp)) (sm'.free hp) upd_same⟩

def spCommon : Sp := fun vs H Q _ => ∃ (t : Addr) (one two : List Nat) (c : Int), vs = [.ref t, .int c] ∧ SetsAt H t one two ∧ Sets one two ∧ 0 ≤ c ∧ c < (one.length : Int) ∧ Q (.bl (comm one two c)) H
theorem ok_p_is_common (T : Txt K mg) : FnOk P w K mg base CX0 1 T.a_p_is_common T.d_p_is_common ["sets", "code"] spCommon := by
  refine T.F_p_is_common.ok sc_p_is_common (fun vs H Q E h => ?_) (fun cdv A outer s H vs Q E hr h => ?_)
  · obtain ⟨t, one, two, c, rfl, _⟩ := h
    rfl
  · obtain ⟨t, one, two, c, rfl, hT, hs, h0, h1, q⟩ := h
    have htp := hs.top
    have h2 := hs.same
    refine ⟨_,
    (pss_one (ps_ret (pe_cmpR op_eq (pe_ix ix_str (pe_ix ix_tup (pv 0) pe_int (fun _ _ => rfl)) (pv 1) (fun _ _ => rfl)) (pe_ix ix_str (pe_ix ix_tup (pv 0) pe_int (fun _ _ => rfl)) (pv 1) (fun _ _ => rfl)) (nomark _)))), ?_⟩
    refine ⟨_, rfl, t, _, 0, _, rfl, rfl, SqT.of hT, atI_nat (j := 0) rfl, _, rfl, _, _, _, rfl, rfl, small_le (by rw [S_len]; omega), at_sign h0 h1, ?_⟩
    refine ⟨_, rfl, t, _, 1, _, rfl, rfl, SqT.of hT, atI_nat (j := 1) rfl, _, rfl, _, _, _, rfl, rfl, small_le (by rw [S_len]; omega), at_sign h0 (by omega), ?_⟩
    refine ⟨rfl, ?_⟩
    rw [dec_sg]
    exact q

def spSpoilt (K : PySem.W.Frag) : Sp := fun vs H Q _ => ∃ (t a : Addr) (one two : List Nat) (l : List Int), vs = [.ref t, .ref a] ∧ SetsAt H t one two ∧ Sets one two ∧ SqL K H a (Ints l) ∧ Codes one.length l ∧ Q (.int (spo one two l)) H
theorem ok_p_spoilt (T : Txt K mg) : FnOk P w K mg base CX0 2 T.a_p_spoilt T.d_p_spoilt ["sets", "codes"] (spSpoilt K) := by
  refine T.F_p_spoilt.ok sc_p_spoilt (fun vs H Q E h => ?_) (fun cdv A outer s H vs Q E hr h => ?_)
  · obtain ⟨t, a, one, two, l, rfl, _⟩ := h
    rfl
  · obtain ⟨t, a, one, two, l, rfl, hT, hs, hA, hc, q⟩ := h
    have htp := hs.top
    refine ⟨_,
    (pss_cons (ps_set (i := 2) sc_p_spoilt.nd rfl (Or.inl rfl) (pe_callB call_len_str (by rfl) T.m_len PySem.boot_len (pa_cons (pe_ix ix_tup (pv 0) pe_int (fun _ _ => rfl)) pa_nil))) 
    (pss_cons (ps_set (i := 3) sc_p_spoilt.nd rfl (Or.inl rfl) pe_int) 
    (pss_cons (ps_for PassesOwn.never rfl (pi_list (pv 1)) (pg_name (i := 4) sc_p_spoilt.nd rfl (Or.inl rfl)) 
      (pss_cons (ps_if (pt_cmpR op_ge (pv 4) (pv 2) (nomark _)) 
        (pss_one ps_break) pss_nil) 
      (pss_one (ps_if (pt_not (pt_val (pe_call (ok_p_is_common T) (hr.mono (by decide)) (by rfl) T.g_p_is_common T.F_p_is_common.kp T.b_p_is_common .nil pass0 (pa_cons (pv 0) (pa_cons (pv 4) pa_nil))))) 
        (pss_one (ps_aug (i := 3) sc_p_spoilt.nd rfl (Or.inl rfl) pe_int ip_add)) pss_nil)))) 
    (pss_one (ps_ret (pv 3)))))), ?_⟩
    refine ⟨_, rfl, t, _, 0, _, rfl, rfl, SqT.of hT, atI_nat (j := 0) rfl, _, rfl, small_le (by rw [S_len]; omega), ?_⟩
    refine ⟨_, rfl, a, rfl, ⟨_, hA⟩, for_list (xs := Ints l) (fun i σ H' => ∃ y4, σ = [some (.ref t), some (.ref a), some (.int (S one).length), some (.int (spo one two (l.take i))), y4] ∧ noSh one.length (l.take i) ∧ H = H') ⟨none, rfl, by simp [noSh], rfl⟩ ?_ ?_ ?_⟩
    · rintro i σ H' _ ⟨y4, rfl, _, rfl⟩
      exact hA
    · rintro i x σ H' hx ⟨y4, rfl, hn, rfl⟩
      obtain ⟨c, hcx, rfl⟩ := ints_at hx
      have hm := hc c (List.mem_of_getElem? hcx)
      have e1 := take_snoc hcx
      refine ⟨_, rfl, _, rfl, _, _, rfl, rfl, _, rfl, ite2 (fun h => ?_) (fun h => ?_)⟩
      · have h' : ((S one).length : Int) ≤ c := of_decide_eq_true h
        rw [S_len] at h'
        have e : spo one two (l.take i) = spo one two l := by
          have e3 := spo_app (two := two) (l.drop i) hn
          have e2 : l.drop i = c :: l.drop (i + 1) := by
            obtain ⟨hi, hv⟩ := List.getElem?_eq_some_iff.mp hcx
            rw [← hv, List.getElem_cons_drop]
          rw [List.take_append_drop, e2, spo_shift _ h'] at e3
          omega
        refine ⟨_, rfl, ?_⟩
        rw [e]
        exact q
      · have h' : ¬ ((S one).length : Int) ≤ c := of_decide_eq_false (by simpa using h)
        rw [S_len] at h'
        have hn2 : noSh one.length (l.take (i + 1)) := by
          rw [e1]
          exact hn.snoc (by omega)
        have e3 := spo_app (two := two) [c] hn
        rw [← e1] at e3
        refine ⟨_, rfl, _, rfl, t, one, two, c, rfl, hT, hs, hm.1, by omega, _, rfl, ?_⟩
        by_cases hk : comm one two c = true
        · rw [hk]
          refine iteF ⟨some (.int c), ?_, hn2, rfl⟩
          have e4 : spo one two [c] = 0 := by simp [spo, hk]
          rw [e3, e4]
          rfl
        · have hk' : comm one two c = false := by simpa using hk
          rw [hk']
          refine iteT ⟨_, rfl, _, _, rfl, rfl, some (.int c), ?_, hn2, rfl⟩
          have e4 : spo one two [c] = 1 := by simp [spo, hk', h']
          rw [e3, e4, Int.natCast_add]
          rfl
    · rintro σ H' ⟨y4, rfl, _, rfl⟩
      rw [List.length_map, List.take_of_length_le (Nat.le_refl _)]
      exact ⟨_, rfl, q⟩

theorem tkall_ints {H : Hp} : ∀ ns : List Int, TkAll H (Ints ns) (ns.map .int)
  | [] => .nil
  | n :: ns => .cons (.int n) (tkall_ints ns)
theorem tk_ints {H : Hp} {p : Addr} {ns : List Int} (h : H p = some (.lst (Ints ns))) (hl : ns.length ≤ 1000) : Tk H (.ref p) (dInts ns) :=
  .lst h (by rw [List.length_map]; exact hl) (tkall_ints ns)
theorem depth_ints (ns : List Int) : (dInts ns).depth < 2 := by
  have := (flat_lay (flat_ints ns)).2
  simp [PyData.depth, this]
theorem at_four {k : Int} (h0 : 0 ≤ k) (h1 : k < 4) : ∃ m : Int, atI [V.int 40, V.int 40, V.int 40, V.int 200] k = some (.int m) ∧ 0 ≤ m ∧ m ≤ 200 := by
  have : k = 0 ∨ k = 1 ∨ k = 2 ∨ k = 3 := by omega
  rcases this with rfl | rfl | rfl | rfl
  · exact ⟨40, atI_nat (j := 0) rfl, by decide, by decide⟩
  · exact ⟨40, atI_nat (j := 1) rfl, by decide, by decide⟩
  · exact ⟨40, atI_nat (j := 2) rfl, by decide, by decide⟩
  · exact ⟨200, atI_nat (j := 3) rfl, by decide, by decide⟩

def spIro : Sp := fun vs H Q _ => ∃ (t a b : Addr) (one two : List Nat) (l m : List Int), vs = [.ref t, .ref a, .ref b] ∧ SetsAt H t one two ∧ Sets one two ∧ H a = some (.lst (Ints l)) ∧ Tape one.length l ∧ H b = some (.lst (Ints m)) ∧ Codes one.length m ∧
  ∀ H', Same H H' → Q (.bl (iro one two l m)) H'
theorem ok_p_is_read_otherwise (T : Txt K mg) : FnOk P w K mg base CX0 4 T.a_p_is_read_otherwise T.d_p_is_read_otherwise ["sets", "ahead", "behind"] spIro := by
  refine T.F_p_is_read_otherwise.ok sc_p_is_read_otherwise (fun vs H Q E h => ?_) (fun cdv A outer s H vs Q E hr h => ?_)
  · obtain ⟨t, a, b, one, two, l, m, rfl, _⟩ := h
    rfl
  · obtain ⟨t, a, b, one, two, l, m, rfl, hT, hs, hA, hl, hB, hm, q⟩ := h
    refine ⟨_,
    (pss_cons (ps_asg (pe_call (ok_p_read T) (hr.mono (by decide)) (by rfl) T.g_p_read T.F_p_read.kp T.b_p_read .nil pass0 (pa_cons (pv 0) (pa_cons (pv 1) (pa_cons pe_int pa_nil)))) (pg_tup rfl (pgs_cons (pg_name (i := 3) sc_p_is_read_otherwise.nd rfl (Or.inl rfl)) (pgs_cons (pg_name (i := 4) sc_p_is_read_otherwise.nd rfl (Or.inl rfl)) pgs_nil)))) 
    (pss_one (ps_ret (pe_and (pe_cmpR op_eq (pv 4) pe_int (nomark _)) (pe_one (pe_cmpR op_gt (pe_call (ok_p_spoilt T) (hr.mono (by decide)) (by rfl) T.g_p_spoilt T.F_p_spoilt.kp T.b_p_spoilt .nil pass0 (pa_cons (pv 0) (pa_cons (pv 2) pa_nil))) pe_int (nomark _))))))), ?_⟩
    refine ⟨_, rfl, _, rfl, t, a, one, two, l, 0, rfl, hT, hs, hA, hl, .inl rfl, fun H1 r s1 hr1 er => ?_⟩
    refine ⟨r, _, rfl, SqT.of er, rfl, _, _, rfl, _, _, rfl, rfl, ?_⟩
    refine ⟨_, rfl, rfl, _, rfl, ?_⟩
    rw [dec_int]
    unfold iro at q
    by_cases h : rdS one 0 l = 1
    · rw [decide_eq_true h] at q ⊢
      refine iteT ⟨_, rfl, _, rfl, t, b, one, two, m, rfl, s1 _ _ hT, hs, SqL.of (s1 _ _ hB), hm, _, _, rfl, rfl, ?_⟩
      rw [Bool.true_and] at q
      exact q _ s1
    · rw [decide_eq_false h] at q ⊢
      rw [Bool.false_and] at q
      exact iteF (q _ s1)
def spJoined : Sp := fun vs H Q _ => ∃ (t a b : Addr) (one two : List Nat) (l m : List Int), vs = [.ref t, .ref a, .ref b] ∧ SetsAt H t one two ∧ Sets one two ∧ H a = some (.lst (Ints l)) ∧ Tape one.length l ∧ H b = some (.lst (Ints m)) ∧ Tape one.length m ∧
  ∀ H' p, Same H H' → H p = none → H' p = some (.lst (Ints (joinL one two l m))) → Q (.ref p) H'
theorem ok_p_joined (T : Txt K mg) : FnOk P w K mg base CX0 5 T.a_p_joined T.d_p_joined ["sets", "one", "other"] spJoined := by
  refine T.F_p_joined.ok sc_p_joined (fun vs H Q E h => ?_) (fun cdv A outer s H vs Q E hr h => ?_)
  · obtain ⟨t, a, b, one, two, l, m, rfl, _⟩ := h
    rfl
  · obtain ⟨t, a, b, one, two, l, m, rfl, hT, hs, hA, hl, hB, hm, q⟩ := h
    have htp := hs.top
    have hl0 := hl.1
    have hm0 := hm.1
    refine ⟨_,
    (pss_cons (ps_expr (pe_call (ok_p_check_sets T) (hr.mono (by decide)) (by rfl) T.g_p_check_sets T.F_p_check_sets.kp T.b_p_check_sets .nil pass0 (pa_cons (pv 0) pa_nil))) 
    (pss_cons (ps_expr (pe_call (ok_p_check_tape T) (hr.mono (by decide)) (by rfl) T.g_p_check_tape T.F_p_check_tape.kp T.b_p_check_tape .nil pass0 (pa_cons (pv 0) (pa_cons (pv 1) pa_nil)))) 
    (pss_cons (ps_expr (pe_call (ok_p_check_tape T) (hr.mono (by decide)) (by rfl) T.g_p_check_tape T.F_p_check_tape.kp T.b_p_check_tape .nil pass0 (pa_cons (pv 0) (pa_cons (pv 2) pa_nil)))) 
    (pss_cons (ps_if (pt_val (pe_call (ok_p_is_read_otherwise T) (hr.mono (by decide)) (by rfl) T.g_p_is_read_otherwise T.F_p_is_read_otherwise.kp T.b_p_is_read_otherwise .nil pass0 (pa_cons (pv 0) (pa_cons (pv 1) (pa_cons (pv 2) pa_nil))))) 
      (pss_one (ps_ret (pe_op op_cat (pe_op op_cat (pv 1) (pe_lst (pa_cons (pe_callB call_len_str (by rfl) T.m_len PySem.boot_len (pa_cons (pe_ix ix_tup (pv 0) pe_int (fun _ _ => rfl)) pa_nil)) pa_nil))) (pv 2)))) pss_nil) 
    (pss_one (ps_ret (pe_op op_cat (pv 1) (pv 2)))))))), ?_⟩
    refine ⟨_, rfl, t, one, two, rfl, hT, hs, ?_⟩
    refine ⟨_, rfl, _, rfl, t, a, one, two, l, rfl, hT, hs, hA, hl, fun H1 s1 => ?_⟩
    refine ⟨_, rfl, _, rfl, t, b, one, two, m, rfl, s1 _ _ hT, hs, s1 _ _ hB, hm, fun H2 s2 => ?_⟩
    have sm := s1.trans s2
    refine ⟨_, rfl, _, rfl, _, rfl, t, a, b, one, two, l, m, rfl, sm _ _ hT, hs, sm _ _ hA, hl, sm _ _ hB, hm.2, fun H3 s3 => ⟨_, rfl, ?_⟩⟩
    have sm3 := sm.trans s3
    have hA3 := sm3 _ _ hA
    have hB3 := sm3 _ _ hB
    unfold joinL at q
    by_cases h : iro one two l m = true
    · rw [if_pos h] at q
      rw [h]
      refine iteT ⟨_, rfl, _, rfl, t, _, 0, _, rfl, rfl, SqT.of (sm3 _ _ hT), atI_nat (j := 0) rfl, _, rfl, small_le (by rw [S_len]; omega), ?_⟩
      refine ⟨(by show 1 ≤ sizeLine; decide), fun x hx => ?_⟩
      have sx : Same H (upd H3 x (.lst [.int (S one).length])) := sm3.trans (Same.new hx)
      refine ⟨a, x, _, _, rfl, rfl, sx _ _ hA, upd_same, small_le (by simp; omega), fun y hy => ?_⟩
      have sy := sx.trans (Same.new (o := .lst (Ints l ++ [.int (S one).length])) hy)
      refine ⟨_, rfl, y, b, _, _, rfl, rfl, upd_same, sy _ _ hB, small_le (by simp; omega), fun p hp => ?_⟩
      refine q _ p (sy.trans (Same.new hp)) (sy.free hp) ?_
      rw [upd_same, S_len]
      simp
    · rw [if_neg h, List.append_nil] at q
      have h' : iro one two l m = false := by simpa using h
      rw [h']
      refine iteF ⟨_, rfl, _, rfl, a, b, _, _, rfl, rfl, hA3, hB3, small_le (by simp; omega), fun p hp => ?_⟩
      refine q _ p (sm3.trans (Same.new hp)) (sm3.free hp) ?_
      rw [upd_same, ints_app]
def spCut : Sp := fun vs H Q _ => ∃ (t a : Addr) (one two : List Nat) (tp : List Int) (k : Int), vs = [.ref t, .ref a, .int k] ∧ SetsAt H t one two ∧ Sets one two ∧ H a = some (.lst (Ints tp)) ∧ Tape one.length tp ∧ 0 ≤ k ∧ k ≤ (tp.length : Int) ∧
  ∀ H' p x y, Same H H' → H p = none → H x = none → H y = none → x ≠ y → H' p = some (.tup [.ref x, .ref y]) → H' x = some (.lst (Ints (tp.take k.toNat))) → H' y = some (.lst (Ints (cutR one two tp k.toNat))) → Q (.ref p) H'
theorem ok_p_cut (T : Txt K mg) : FnOk P w K mg base CX0 5 T.a_p_cut T.d_p_cut ["sets", "tape", "at"] spCut := by
  refine T.F_p_cut.ok sc_p_cut (fun vs H Q E h => ?_) (fun cdv A outer s H vs Q E hr h => ?_)
  · obtain ⟨t, a, one, two, tp, k, rfl, _⟩ := h
    rfl
  · obtain ⟨t, a, one, two, tp, k, rfl, hT, hs, hA, hc, hk0, hk1, q⟩ := h
    have htp := hs.top
    have hl0 := hc.1
    refine ⟨_,
    (pss_cons (ps_expr (pe_call (ok_p_check_sets T) (hr.mono (by decide)) (by rfl) T.g_p_check_sets T.F_p_check_sets.kp T.b_p_check_sets .nil pass0 (pa_cons (pv 0) pa_nil))) 
    (pss_cons (ps_expr (pe_call (ok_p_check_tape T) (hr.mono (by decide)) (by rfl) T.g_p_check_tape T.F_p_check_tape.kp T.b_p_check_tape .nil pass0 (pa_cons (pv 0) (pa_cons (pv 1) pa_nil)))) 
    (pss_cons (ps_if (pt_not (pt_chain op_le op_le pe_int (pv 2) (pe_callB call_len_seq (by rfl) T.m_len PySem.boot_len (pa_cons (pv 1) pa_nil)))) 
      (pss_one ps_never) pss_nil) 
    (pss_cons (ps_set (i := 3) sc_p_cut.nd rfl (Or.inl rfl) (pe_slice sl_list (pv 1) po_none (po_some (pv 2)))) 
    (pss_cons (ps_set (i := 4) sc_p_cut.nd rfl (Or.inl rfl) (pe_slice sl_list (pv 1) (po_some (pv 2)) po_none)) 
    (C8.pss_cut (ps_if (pt_val (pe_call (ok_p_is_read_otherwise T) (hr.mono (by decide)) (by rfl) T.g_p_is_read_otherwise T.F_p_is_read_otherwise.kp T.b_p_is_read_otherwise .nil pass0 (pa_cons (pv 0) (pa_cons (pv 3) (pa_cons (pv 4) pa_nil))))) 
      (pss_one (ps_set (i := 4) sc_p_cut.nd rfl (Or.inl rfl) (pe_op op_cat (pe_lst (pa_cons (pe_op op_add (pe_callB call_len_str (by rfl) T.m_len PySem.boot_len (pa_cons (pe_ix ix_tup (pv 0) pe_int (fun _ _ => rfl)) pa_nil)) pe_int) pa_nil)) (pv 4)))) pss_nil) 
    (pss_one (ps_ret (pe_tup (pa_cons (pv 3) (pa_cons (pv 4) pa_nil))))))))))), ?_⟩
    refine ⟨_, rfl, t, one, two, rfl, hT, hs, ?_⟩
    refine ⟨_, rfl, _, rfl, t, a, one, two, tp, rfl, hT, hs, hA, hc, fun H1 s1 => ?_⟩
    refine ⟨_, rfl, _, _, rfl, rfl, _, rfl, ?_⟩
    rw [decide_eq_true hk0]
    refine iteT ⟨_, rfl, a, _, rfl, .inl (SqL.of (s1 _ _ hA)), _, _, rfl, rfl, _, rfl, ?_⟩
    rw [decide_eq_true (show k ≤ (((Ints tp).length : Nat) : Int) by rw [List.length_map]; exact hk1)]
    refine iteF ⟨_, rfl, _, rfl, _, rfl, a, _, rfl, SqL.of (s1 _ _ hA), fun x hx => ?_⟩
    have sx : Same H (upd H1 x (.lst (cutV (Ints tp) none (some k)))) := s1.trans (Same.new hx)
    have ex : (upd H1 x (.lst (cutV (Ints tp) none (some k)))) x = some (.lst (Ints (tp.take k.toNat))) := by
      rw [upd_same, cutV_to hk0, ← List.map_take]
    have hxN := s1.free hx
    generalize upd H1 x (.lst (cutV (Ints tp) none (some k))) = H2 at sx ex ⊢
    refine ⟨_, rfl, _, rfl, _, rfl, a, _, rfl, SqL.of (sx _ _ hA), fun y hy => ?_⟩
    have sy : Same H2 (upd H2 y (.lst (cutV (Ints tp) (some k) none))) := Same.new hy
    have ey : (upd H2 y (.lst (cutV (Ints tp) (some k) none))) y = some (.lst (Ints (tp.drop k.toNat))) := by
      rw [upd_same, cutV_from hk0, ← List.map_drop]
    have hyN := sx.free hy
    have hxy : x ≠ y := ne_of_none ex hy
    have exy := sy _ _ ex
    have sxy := sx.trans sy
    generalize upd H2 y (.lst (cutV (Ints tp) (some k) none)) = H3 at ey exy sxy ⊢
    refine ⟨fun σ' H'' => ∃ z, σ' = [some (.ref t), some (.ref a), some (.int k), some (.ref x), some (.ref z)] ∧ Same H H'' ∧ H z = none ∧ x ≠ z ∧ H'' x = some (.lst (Ints (tp.take k.toNat))) ∧ H'' z = some (.lst (Ints (cutR one two tp k.toNat))), ?_, ?_⟩
    · refine ⟨_, rfl, _, rfl, _, rfl, t, x, y, one, two, _, _, rfl, sxy _ _ hT, hs, exy, ⟨by simp; omega, Codes.take hc.2 _⟩, ey, Codes.drop hc.2 _, fun H4 s4 => ⟨_, rfl, ?_⟩⟩
      have s5 := sxy.trans s4
      unfold cutR
      by_cases h : iro one two (tp.take k.toNat) (tp.drop k.toNat) = true
      · rw [if_pos h, h]
        refine iteT ⟨_, rfl, t, _, 0, _, rfl, rfl, SqT.of (s5 _ _ hT), atI_nat (j := 0) rfl, _, rfl, small_le (by rw [S_len]; omega), _, _, rfl, rfl, (by show 1 ≤ sizeLine; decide), fun u hu => ?_⟩
        have su : Same H4 (upd H4 u (.lst [.int ((S one).length + 1)])) := Same.new hu
        refine ⟨_, rfl, u, y, _, _, rfl, rfl, upd_same, su _ _ (s4 _ _ ey), small_le (by simp; omega), fun z hz => ?_⟩
        have s6 := (s5.trans su).trans (Same.new (o := .lst ([.int ((S one).length + 1)] ++ Ints (tp.drop k.toNat))) hz)
        refine ⟨z, rfl, s6, (s5.trans su).free hz, ne_of_none (su _ _ (s4 _ _ exy)) hz, (Same.new hz) _ _ (su _ _ (s4 _ _ exy)), ?_⟩
        rw [upd_same, S_len]
        rfl
      · have h' : iro one two (tp.take k.toNat) (tp.drop k.toNat) = false := by simpa using h
        rw [if_neg h, h']
        exact iteF ⟨y, rfl, s5, hyN, hxy, s4 _ _ exy, s4 _ _ ey⟩
    · rintro σ' H'' ⟨z, rfl, s6, hzN, hxz, ex6, ez6⟩
      refine ⟨_, rfl, _, rfl, (by show 2 ≤ sizeLine; decide), fun p hp => ?_⟩
      exact q _ p x z (s6.trans (Same.new hp)) (s6.free hp) hxN hzN hxz upd_same ((Same.new hp) _ _ ex6) ((Same.new hp) _ _ ez6)

/-! ### the law -/
theorem need_eq {one two : List Nat} {l m : List Int} (hl : Codes one.length l) : (!decide (rdT one two (rdS one 0 l) m = rdT one two 0 m)) = iro one two l m := by
  have h := iro_iff (two := two) (b := m) hl
  by_cases e : rdT one two (rdS one 0 l) m = rdT one two 0 m
  · rw [decide_eq_true e]
    cases hi : iro one two l m with
    | false => rfl
    | true => exact absurd e (h.mp hi)
  · rw [decide_eq_false e, h.mpr e]
    rfl
theorem at_three {k : Int} (h0 : 0 ≤ k) (h1 : k < 3) : ∃ m : Int, atI [V.int 40, V.int 40, V.int 95] k = some (.int m) ∧ 0 ≤ m ∧ m ≤ 95 := by
  have : k = 0 ∨ k = 1 ∨ k = 2 := by omega
  rcases this with rfl | rfl | rfl
  · exact ⟨40, atI_nat (j := 0) rfl, by decide, by decide⟩
  · exact ⟨40, atI_nat (j := 1) rfl, by decide, by decide⟩
  · exact ⟨95, atI_nat (j := 2) rfl, by decide, by decide⟩
theorem eqv_two (a b : List Int) : PyData.eqv (.list [dInts a, dInts b]) (.list [dInts a, dInts b]) = true := SeqAt.eqv_refl _ (lay_two a b).1
def spLaw (K : PySem.W.Frag) : Sp := fun vs H Q _ => ∃ (a : Addr) (ns : List Int), vs = [.ref a] ∧ SqL K H a (ns.map V.int) ∧ ns.length ≤ 63 ∧ ∀ H', Q (.bl true) H'
theorem ok_law (T : Txt K mg) : FnOk P w K mg base CX0 6 T.a_law T.d_law ["_law_script"] (spLaw K) := by
  refine T.F_law.ok sc_law (fun vs H Q E h => ?_) (fun cdv A outer s H vs Q E hr h => ?_)
  · obtain ⟨a, ns, rfl, _⟩ := h
    rfl
  · obtain ⟨a, ns, rfl, hS, hn, q⟩ := h
    refine ⟨_,
    (pss_cons (ps_set (i := 1) sc_law.nd rfl (Or.inl rfl) (pe_call (ok_l_dice T) (hr.mono (by decide)) (by rfl) T.g_l_dice T.F_l_dice.kp T.b_l_dice .nil pass0 (pa_cons (pv 0) (pa_cons pe_int pa_nil)))) 
    (pss_cons (ps_set (i := 2) sc_law.nd rfl (Or.inl rfl) (pe_call (ok_l_sets T) (hr.mono (by decide)) (by rfl) T.g_l_sets T.F_l_sets.kp T.b_l_sets .nil pass0 (pa_cons (pv 1) pa_nil))) 
    (pss_cons (ps_set (i := 3) sc_law.nd rfl (Or.inl rfl) (pe_callB call_len_str (by rfl) T.m_len PySem.boot_len (pa_cons (pe_ix ix_tup (pv 2) pe_int (fun _ _ => rfl)) pa_nil))) 
    (pss_cons (ps_for PassesOwn.never rfl (pi_range1 (by rfl) T.m_range (pa_cons pe_int pa_nil)) (pg_name (i := 4) sc_law.nd rfl (Or.inl rfl)) 
      (pss_cons (ps_set (i := 5) sc_law.nd rfl (Or.inl rfl) (pe_call (ok_l_tape T) (hr.mono (by decide)) (by rfl) T.g_l_tape T.F_l_tape.kp T.b_l_tape .nil pass0 (pa_cons (pv 1) (pa_cons (pv 2) (pa_cons (pe_ix ix_list (pe_lst (pa_cons pe_int (pa_cons pe_int (pa_cons pe_int pa_nil)))) (pv 4) (fun _ _ => rfl)) pa_nil))))) 
      (pss_cons (ps_set (i := 6) sc_law.nd rfl (Or.inl rfl) (pe_call (ok_l_tape T) (hr.mono (by decide)) (by rfl) T.g_l_tape T.F_l_tape.kp T.b_l_tape .nil pass0 (pa_cons (pv 1) (pa_cons (pv 2) (pa_cons (pe_ix ix_list (pe_lst (pa_cons pe_int (pa_cons pe_int (pa_cons pe_int pa_nil)))) (pv 4) (fun _ _ => rfl)) pa_nil))))) 
      (pss_cons (ps_set (i := 7) sc_law.nd rfl (Or.inl rfl) (pe_lst (pa_cons (pe_callTy call_list_of (by rfl) T.m_list (by decide +kernel) (pa_cons (pv 5) pa_nil)) (pa_cons (pe_callTy call_list_of (by rfl) T.m_list (by decide +kernel) (pa_cons (pv 6) pa_nil)) pa_nil)))) 
      (pss_cons (ps_set (i := 8) sc_law.nd rfl (Or.inl rfl) (pe_call (ok_p_joined T) (hr.mono (by decide)) (by rfl) T.g_p_joined T.F_p_joined.kp T.b_p_joined .nil pass0 (pa_cons (pv 2) (pa_cons (pe_ix ix_list (pv 7) pe_int (fun _ _ => rfl)) (pa_cons (pe_ix ix_list (pv 7) pe_int (fun _ _ => rfl)) pa_nil))))) 
      (pss_cons (ps_set (i := 9) sc_law.nd rfl (Or.inl rfl) (pe_ix ix_tup (pe_call (ok_l_gone T) (hr.mono (by decide)) (by rfl) T.g_l_gone T.F_l_gone.kp T.b_l_gone .nil pass0 (pa_cons (pv 2) (pa_cons (pv 5) (pa_cons pe_int pa_nil)))) pe_int (fun _ _ => rfl))) 
      (pss_cons (ps_set (i := 10) sc_law.nd rfl (Or.inl rfl) (pe_cmpR op_ne (pe_ix ix_tup (pe_call (ok_l_gone T) (hr.mono (by decide)) (by rfl) T.g_l_gone T.F_l_gone.kp T.b_l_gone .nil pass0 (pa_cons (pv 2) (pa_cons (pv 6) (pa_cons (pv 9) pa_nil)))) pe_int (fun _ _ => rfl)) (pe_ix ix_tup (pe_call (ok_l_gone T) (hr.mono (by decide)) (by rfl) T.g_l_gone T.F_l_gone.kp T.b_l_gone .nil pass0 (pa_cons (pv 2) (pa_cons (pv 6) (pa_cons pe_int pa_nil)))) pe_int (fun _ _ => rfl)) (nomark _))) 
      (pss_cons (ps_if (PW.pt (pw_or (pt_not (pt_val (pe_call (ok_l_alike T 3) (hr.mono (by decide)) (by rfl) T.g_l_alike T.F_l_alike.kp T.b_l_alike .nil pass0 (pa_cons (pv 8) (pa_cons (pe_op op_cat (pe_op op_cat (pv 5) (pe_op op_rep (pe_lst (pa_cons (pv 3) pa_nil)) (pe_callTy call_int1 (by rfl) T.m_int (by decide +kernel) (pa_cons (pv 10) pa_nil)))) (pv 6)) pa_nil))))) (pw_or1 (pt_cmpR (op_neD hr.units) (pv 7) (pe_lst (pa_cons (pv 5) (pa_cons (pv 6) pa_nil))) (nomark _))))) 
        (pss_one (ps_ret pe_bl)) pss_nil) 
      (pss_cons (ps_if (pt_cmpR op_ne (pe_ix ix_tup (pe_call (ok_p_read T) (hr.mono (by decide)) (by rfl) T.g_p_read T.F_p_read.kp T.b_p_read .nil pass0 (pa_cons (pv 2) (pa_cons (pv 8) (pa_cons pe_int pa_nil)))) pe_int (fun _ _ => rfl)) (pe_op op_add_str (pe_ix ix_tup (pe_call (ok_p_read T) (hr.mono (by decide)) (by rfl) T.g_p_read T.F_p_read.kp T.b_p_read .nil pass0 (pa_cons (pv 2) (pa_cons (pv 5) (pa_cons pe_int pa_nil)))) pe_int (fun _ _ => rfl)) (pe_ix ix_tup (pe_call (ok_p_read T) (hr.mono (by decide)) (by rfl) T.g_p_read T.F_p_read.kp T.b_p_read .nil pass0 (pa_cons (pv 2) (pa_cons (pv 6) (pa_cons pe_int pa_nil)))) pe_int (fun _ _ => rfl))) (nomark _)) 
        (pss_one (ps_ret pe_bl)) pss_nil) 
      (pss_cons (ps_expr (pe_bm PySem.F.plainAttrs_list PySem.F.slot_list_append PySem.F.type_list_append mt_append (pv 8) (pa_cons pe_int pa_nil))) 
      (pss_cons (ps_set (i := 11) sc_law.nd rfl (Or.inl rfl) (pe_call (ok_l_offK T) (hr.mono (by decide)) (by rfl) T.g_l_off T.F_l_off.kp T.b_l_off .nil pass0 (pa_cons (pv 1) (pa_cons (pe_op op_add (pe_callB call_len_seq (by rfl) T.m_len PySem.boot_len (pa_cons (pv 5) pa_nil)) pe_int) pa_nil)))) 
      (pss_cons (ps_set (i := 12) sc_law.nd rfl (Or.inl rfl) (pe_call (ok_p_cut T) (hr.mono (by decide)) (by rfl) T.g_p_cut T.F_p_cut.kp T.b_p_cut .nil pass0 (pa_cons (pv 2) (pa_cons (pe_ix ix_list (pv 7) pe_int (fun _ _ => rfl)) (pa_cons (pv 11) pa_nil))))) 
      (pss_cons (ps_set (i := 13) sc_law.nd rfl (Or.inl rfl) (pe_ix ix_tup (pe_call (ok_l_gone T) (hr.mono (by decide)) (by rfl) T.g_l_gone T.F_l_gone.kp T.b_l_gone .nil pass0 (pa_cons (pv 2) (pa_cons (pe_slice sl_list (pv 5) po_none (po_some (pv 11))) (pa_cons pe_int pa_nil)))) pe_int (fun _ _ => rfl))) 
      (pss_cons (ps_set (i := 10) sc_law.nd rfl (Or.inl rfl) (pe_cmpR op_ne (pe_ix ix_tup (pe_call (ok_l_gone T) (hr.mono (by decide)) (by rfl) T.g_l_gone T.F_l_gone.kp T.b_l_gone .nil pass0 (pa_cons (pv 2) (pa_cons (pe_slice sl_list (pv 5) (po_some (pv 11)) po_none) (pa_cons (pv 13) pa_nil)))) pe_int (fun _ _ => rfl)) (pe_ix ix_tup (pe_call (ok_l_gone T) (hr.mono (by decide)) (by rfl) T.g_l_gone T.F_l_gone.kp T.b_l_gone .nil pass0 (pa_cons (pv 2) (pa_cons (pe_slice sl_list (pv 5) (po_some (pv 11)) po_none) (pa_cons pe_int pa_nil)))) pe_int (fun _ _ => rfl)) (nomark _))) 
      (pss_cons (ps_set (i := 14) sc_law.nd rfl (Or.inl rfl) (pe_tup (pa_cons (pe_slice sl_list (pv 5) po_none (po_some (pv 11))) (pa_cons (pe_op op_cat (pe_op op_rep (pe_lst (pa_cons (pe_op op_add (pv 3) (pv 13)) pa_nil)) (pe_callTy call_int1 (by rfl) T.m_int (by decide +kernel) (pa_cons (pv 10) pa_nil))) (pe_slice sl_list (pv 5) (po_some (pv 11)) po_none)) pa_nil)))) 
      (pss_cons (ps_if (PW.pt (pw_or (pt_not (pt_val (pe_call (ok_l_alike T 3) (hr.mono (by decide)) (by rfl) T.g_l_alike T.F_l_alike.kp T.b_l_alike .nil pass0 (pa_cons (pv 12) (pa_cons (pv 14) pa_nil))))) (pw_or1 (pt_cmpR (op_neD hr.units) (pv 7) (pe_lst (pa_cons (pv 5) (pa_cons (pv 6) pa_nil))) (nomark _))))) 
        (pss_one (ps_ret pe_bl)) pss_nil) 
      (pss_cons (ps_if (pt_cmpR op_ne (pe_op op_add_str (pe_ix ix_tup (pe_call (ok_p_read T) (hr.mono (by decide)) (by rfl) T.g_p_read T.F_p_read.kp T.b_p_read .nil pass0 (pa_cons (pv 2) (pa_cons (pe_ix ix_tup (pv 12) pe_int (fun _ _ => rfl)) (pa_cons pe_int pa_nil)))) pe_int (fun _ _ => rfl)) (pe_ix ix_tup (pe_call (ok_p_read T) (hr.mono (by decide)) (by rfl) T.g_p_read T.F_p_read.kp T.b_p_read .nil pass0 (pa_cons (pv 2) (pa_cons (pe_ix ix_tup (pv 12) pe_int (fun _ _ => rfl)) (pa_cons pe_int pa_nil)))) pe_int (fun _ _ => rfl))) (pe_ix ix_tup (pe_call (ok_p_read T) (hr.mono (by decide)) (by rfl) T.g_p_read T.F_p_read.kp T.b_p_read .nil pass0 (pa_cons (pv 2) (pa_cons (pv 5) (pa_cons pe_int pa_nil)))) pe_int (fun _ _ => rfl)) (nomark _)) 
        (pss_one (ps_ret pe_bl)) pss_nil) 
      (pss_cons (ps_set (i := 15) sc_law.nd rfl (Or.inl rfl) (pe_call (ok_p_joined T) (hr.mono (by decide)) (by rfl) T.g_p_joined T.F_p_joined.kp T.b_p_joined .nil pass0 (pa_cons (pv 2) (pa_cons (pe_ix ix_tup (pv 12) pe_int (fun _ _ => rfl)) (pa_cons (pe_ix ix_tup (pv 12) pe_int (fun _ _ => rfl)) pa_nil))))) 
      (pss_cons (ps_if (PW.pt (pw_or (pt_cmpR op_ne (pe_ix ix_tup (pe_call (ok_p_read T) (hr.mono (by decide)) (by rfl) T.g_p_read T.F_p_read.kp T.b_p_read .nil pass0 (pa_cons (pv 2) (pa_cons (pv 15) (pa_cons pe_int pa_nil)))) pe_int (fun _ _ => rfl)) (pe_ix ix_tup (pe_call (ok_p_read T) (hr.mono (by decide)) (by rfl) T.g_p_read T.F_p_read.kp T.b_p_read .nil pass0 (pa_cons (pv 2) (pa_cons (pv 5) (pa_cons pe_int pa_nil)))) pe_int (fun _ _ => rfl)) (nomark _)) (pw_or1 (pt_cmpR op_gt (pe_callB call_len_seq (by rfl) T.m_len PySem.boot_len (pa_cons (pv 15) pa_nil)) (pe_op op_add (pe_callB call_len_seq (by rfl) T.m_len PySem.boot_len (pa_cons (pv 5) pa_nil)) pe_int) (nomark _))))) 
        (pss_one (ps_ret pe_bl)) pss_nil) 
      (pss_cons (ps_expr (pe_bm PySem.F.plainAttrs_list PySem.F.slot_list_append PySem.F.type_list_append mt_append (pe_ix ix_tup (pv 12) pe_int (fun _ _ => rfl)) (pa_cons pe_int pa_nil))) 
      (pss_one (ps_expr (pe_bm0 PySem.F.plainAttrs_list PySem.F.slot_list_clear PySem.F.type_list_clear mt_clear (pe_ix ix_tup (pv 12) pe_int (fun _ _ => rfl))))))))))))))))))))))))) 
    (pss_one (ps_ret pe_bl)))))), ?_⟩
    refine ⟨_, rfl, a, ns, rfl, hS, hn, fun H1 d ds sm1 hd e1 hD => ?_⟩
    refine ⟨_, rfl, d, ds, rfl, e1, hD, fun H2 t ds2 one two kp2 ht e2 hD2 eT hs => ?_⟩
    have htp := hs.top
    have htd : t ≠ d := ne_of eT e2 (by intro z; cases z)
    refine ⟨_, rfl, t, _, 0, _, rfl, rfl, SqT.of eT, atI_nat (j := 0) rfl, _, rfl, small_le (by rw [S_len]; omega), ?_⟩
    refine ⟨3, rfl, by decide, by decide, for_range (n := 3) (fun i σ H' => ∃ y4 y5 y6 y7 y8 y9 y10 y11 y12 y13 y14 y15 ds', σ = [some (.ref a), some (.ref d), some (.ref t), some (.int (S one).length), y4, y5, y6, y7, y8, y9, y10, y11, y12, y13, y14, y15] ∧ Keep d H2 H' ∧ H' d = some (.lst (Ints ds')) ∧ Dice ds') ⟨none, none, none, none, none, none, none, none, none, none, none, none, ds2, rfl, Keep.refl _ _, e2, hD2⟩ ?_ ?_⟩
    · rintro i σ H' hi ⟨y4, y5, y6, y7, y8, y9, y10, y11, y12, y13, y14, y15, ds', rfl, kp, ed, hD'⟩
      obtain ⟨m, hm, hm0, hm1⟩ := at_three (k := 0 + (i : Nat)) (by omega) (by omega)
      have b0 : Bit 0 := .inl rfl
      -- two tapes
      refine ⟨_, rfl, _, rfl, (by show 3 ≤ sizeLine; decide), fun l hl => ⟨_, rfl, l, _, _, _, rfl, rfl, SqL.of upd_same, hm, ?_⟩⟩
      have hdl : d ≠ l := ne_of_none ed hl
      have kp3 : Keep d H2 (upd H' l (.lst [V.int 40, V.int 40, V.int 95])) := kp.trans (Keep.same (Same.new hl))
      refine ⟨d, t, ds', one, two, m, rfl, (by rw [upd_ne hdl]; exact ed), hD', kp3 _ _ htd eT, hs, hm0, by omega, fun H4 p1 ds4 l1 kp4 hp1 e4 hD4 ep1 ht1 hl1 => ?_⟩
      have hp1d : p1 ≠ d := fun e => by
        rw [e, upd_ne hdl, ed] at hp1
        cases hp1
      refine ⟨_, rfl, _, rfl, (by show 3 ≤ sizeLine; decide), fun l' hl' => ⟨_, rfl, l', _, _, _, rfl, rfl, SqL.of upd_same, hm, ?_⟩⟩
      have hdl' : d ≠ l' := ne_of_none e4 hl'
      have kp5 : Keep d H2 (upd H4 l' (.lst [V.int 40, V.int 40, V.int 95])) := (kp3.trans kp4).trans (Keep.same (Same.new hl'))
      have ep1' : (upd H4 l' (.lst [V.int 40, V.int 40, V.int 95])) p1 = some (.lst (Ints l1)) := (Same.new hl') _ _ ep1
      refine ⟨d, t, ds4, one, two, m, rfl, (by rw [upd_ne hdl']; exact e4), hD4, kp5 _ _ htd eT, hs, hm0, by omega, fun H5 p2 ds5 l2 kp6 hp2 e5 hD5 ep2 ht2 hl2 => ?_⟩
      have hp2d : p2 ≠ d := fun e => by
        rw [e, upd_ne hdl', e4] at hp2
        cases hp2
      have kpA : Keep d H2 H5 := kp5.trans kp6
      have ep1 := kp6 _ _ hp1d ep1'
      clear ep1'
      -- what is handed in
      refine ⟨_, rfl, p1, _, rfl, .inl (SqL.of ep1), fun h1 hh1 => ?_⟩
      have sA : Same H5 (upd H5 h1 (.lst (Ints l1))) := Same.new hh1
      refine ⟨_, rfl, p2, _, rfl, .inl (SqL.of (sA _ _ ep2)), fun h2 hh2 => ?_⟩
      have eh1 : (upd (upd H5 h1 (.lst (Ints l1))) h2 (.lst (Ints l2))) h1 = some (.lst (Ints l1)) := (Same.new hh2) _ _ upd_same
      have eh2 : (upd (upd H5 h1 (.lst (Ints l1))) h2 (.lst (Ints l2))) h2 = some (.lst (Ints l2)) := upd_same
      have sB : Same H5 (upd (upd H5 h1 (.lst (Ints l1))) h2 (.lst (Ints l2))) := sA.trans (Same.new hh2)
      generalize upd (upd H5 h1 (.lst (Ints l1))) h2 (.lst (Ints l2)) = H6 at eh1 eh2 sB ⊢
      have edA := sB _ _ e5
      refine ⟨(by show 2 ≤ sizeLine; decide), fun hp hhp => ?_⟩
      have ehp : (upd H6 hp (.lst [.ref h1, .ref h2])) hp = some (.lst [.ref h1, .ref h2]) := upd_same
      have eh1 := (Same.new (o := .lst [.ref h1, .ref h2]) hhp) _ _ eh1
      have eh2 := (Same.new (o := .lst [.ref h1, .ref h2]) hhp) _ _ eh2
      have sB : Same H5 (upd H6 hp (.lst [.ref h1, .ref h2])) := sB.trans (Same.new hhp)
      generalize upd H6 hp (.lst [.ref h1, .ref h2]) = HB at ehp eh1 eh2 sB ⊢
      have kpB : Keep d H2 HB := kpA.trans (Keep.same sB)
      have edB := sB _ _ e5
      have ep1B := sB _ _ ep1
      have ep2B := sB _ _ ep2
      have eTB : SetsAt HB t one two := kpB _ _ htd eT
      have hc1 : Codes one.length l1 := ht1.2
      have hc2 : Codes one.length l2 := ht2.2
      have hjl := join_len one two l1 l2
      have hjt : Tape one.length (joinL one two l1 l2) := ⟨by omega, join_codes hc1 hc2⟩
      have hjr := join_read (two := two) (b := l2) hc1
      -- joined
      refine ⟨_, rfl, _, rfl, hp, _, 0, _, rfl, rfl, SqL.of ehp, atI_nat (j := 0) rfl, _, rfl, hp, _, 1, _, rfl, rfl, SqL.of ehp, atI_nat (j := 1) rfl, ?_⟩
      refine ⟨t, h1, h2, one, two, l1, l2, rfl, eTB, hs, eh1, ht1, eh2, ht2, fun H7 fo s7 hfo efo => ?_⟩
      refine ⟨_, rfl, _, rfl, t, p1, one, two, l1, 0, rfl, s7 _ _ eTB, hs, s7 _ _ ep1B, hc1, by omega, b0, fun H8 g s8 hg eg => ?_⟩
      refine ⟨g, _, 1, _, rfl, rfl, SqT.of eg, atI_nat (j := 1) rfl, ?_⟩
      have s78 := s7.trans s8
      refine ⟨_, rfl, _, rfl, _, rfl, t, p2, one, two, l2, _, rfl, s78 _ _ eTB, hs, s78 _ _ ep2B, hc2, by omega, rdS_bit b0 hc1, fun H9 g1 s9 hg1 eg1 => ?_⟩
      refine ⟨g1, _, 0, _, rfl, rfl, SqT.of eg1, atI_nat (j := 0) rfl, ?_⟩
      have s79 := s78.trans s9
      refine ⟨_, rfl, _, rfl, t, p2, one, two, l2, 0, rfl, s79 _ _ eTB, hs, s79 _ _ ep2B, hc2, by omega, b0, fun H10 g2 s10 hg2 eg2 => ?_⟩
      refine ⟨g2, _, 0, _, rfl, rfl, SqT.of eg2, atI_nat (j := 0) rfl, rfl, ?_⟩
      rw [dec_str, need_eq hc1]
      have s7A := s79.trans s10
      have efoA := s10 _ _ (s9 _ _ (s8 _ _ efo))
      -- the due list
      refine ⟨_, rfl, _, rfl, _, rfl, (by show 1 ≤ sizeLine; decide), fun u hu => ⟨_, rfl, .inr ⟨_, rfl, ?_⟩⟩⟩
      have su : Same H10 (upd H10 u (.lst [V.int (S one).length])) := Same.new hu
      refine ⟨u, _, _, rfl, rfl, upd_same, by split <;> decide, by split <;> decide, small_le (by split <;> simp), fun v hv => ?_⟩
      rw [rep_one]
      have sv := su.trans (Same.new (o := .lst (if iro one two l1 l2 = true then [V.int (S one).length] else [])) hv)
      have ev : (upd (upd H10 u (.lst [V.int (S one).length])) v (.lst (if iro one two l1 l2 = true then [V.int (S one).length] else []))) v = some (.lst (if iro one two l1 l2 = true then [V.int (S one).length] else [])) := upd_same
      generalize upd (upd H10 u (.lst [V.int (S one).length])) v (.lst (if iro one two l1 l2 = true then [V.int (S one).length] else [])) = H11 at sv ev ⊢
      have s7B := s7A.trans sv
      refine ⟨p1, v, _, _, rfl, rfl, s7B _ _ ep1B, ev, small_le (by split <;> simp <;> omega), fun x hx => ?_⟩
      have sx := s7B.trans (Same.new (o := .lst (Ints l1 ++ (if iro one two l1 l2 = true then [V.int (S one).length] else []))) hx)
      refine ⟨_, rfl, x, p2, _, _, rfl, rfl, upd_same, sx _ _ ep2B, small_le (by split <;> simp <;> omega), fun y hy => ?_⟩
      have ey : (upd (upd H11 x (.lst (Ints l1 ++ (if iro one two l1 l2 = true then [V.int (S one).length] else [])))) y (.lst (Ints l1 ++ (if iro one two l1 l2 = true then [V.int (S one).length] else []) ++ Ints l2))) y = some (.lst (Ints (joinL one two l1 l2))) := by
        rw [upd_same]
        unfold joinL
        rw [ints_app, ints_app, S_len]
        split <;> rfl
      have sy := sx.trans (Same.new (o := .lst (Ints l1 ++ (if iro one two l1 l2 = true then [V.int (S one).length] else []) ++ Ints l2)) hy)
      have efoB : (upd (upd H11 x (.lst (Ints l1 ++ (if iro one two l1 l2 = true then [V.int (S one).length] else [])))) y (.lst (Ints l1 ++ (if iro one two l1 l2 = true then [V.int (S one).length] else []) ++ Ints l2))) fo = some (.lst (Ints (joinL one two l1 l2))) := (Same.new hy) _ _ ((Same.new hx) _ _ (sv _ _ efoA))
      generalize upd (upd H11 x (.lst (Ints l1 ++ (if iro one two l1 l2 = true then [V.int (S one).length] else [])))) y (.lst (Ints l1 ++ (if iro one two l1 l2 = true then [V.int (S one).length] else []) ++ Ints l2)) = H12 at ey sy efoB ⊢
      refine ⟨.ref fo, .ref y, _, rfl, tk_ints efoB (by omega), tk_ints ey (by omega), Nat.lt_of_lt_of_le (depth_ints _) (by decide), fun H13 s13 => ⟨true, rfl, iteF ?_⟩⟩
      have s7D := sy.trans s13
      have efoD := s13 _ _ efoB
      refine ⟨_, rfl, _, rfl, _, rfl, (by show 2 ≤ sizeLine; decide), fun z hz => ?_⟩
      have s7E := s7D.trans (Same.new (o := .lst [.ref p1, .ref p2]) hz)
      have ez : (upd H13 z (.lst [.ref p1, .ref p2])) z = some (.lst [.ref p1, .ref p2]) := upd_same
      have efoE : (upd H13 z (.lst [.ref p1, .ref p2])) fo = some (.lst (Ints (joinL one two l1 l2))) := (Same.new hz) _ _ efoD
      generalize upd H13 z (.lst [.ref p1, .ref p2]) = H14 at s7E ez efoE ⊢
      refine ⟨.list [dInts l1, dInts l2], .list [dInts l1, dInts l2], .lst (SqL.of (s7E _ _ ehp)) (.cons (Dp.ints (s7E _ _ eh1)) (.cons (Dp.ints (s7E _ _ eh2)) .nil)), .lst (SqL.of ez) (.cons (Dp.ints (s7E _ _ ep1B)) (.cons (Dp.ints (s7E _ _ ep2B)) .nil)), (lay_two l1 l2).2, (lay_two l1 l2).2, _, rfl, ?_⟩
      rw [eqv_two]
      refine iteF ?_
      -- read in turn
      refine ⟨_, rfl, _, rfl, t, fo, one, two, _, 0, rfl, s7E _ _ eTB, hs, efoE, hjt, b0, fun H15 r1 s15 hr1 er1 => ?_⟩
      refine ⟨r1, _, 0, _, rfl, rfl, SqT.of er1, atI_nat (j := 0) rfl, ?_⟩
      have s7F := s7E.trans s15
      refine ⟨_, rfl, _, rfl, t, p1, one, two, l1, 0, rfl, s7F _ _ eTB, hs, s7F _ _ ep1B, ht1, b0, fun H16 r2 s16 hr2 er2 => ?_⟩
      refine ⟨r2, _, 0, _, rfl, rfl, SqT.of er2, atI_nat (j := 0) rfl, ?_⟩
      have s7G := s7F.trans s16
      refine ⟨_, rfl, _, rfl, t, p2, one, two, l2, 0, rfl, s7G _ _ eTB, hs, s7G _ _ ep2B, ht2, b0, fun H17 r3 s17 hr3 er3 => ?_⟩
      have s7H := s7G.trans s17
      have hq1 := rdT_len one two 0 l1
      have hq2 := rdT_len one two 0 l2
      refine ⟨r3, _, 0, _, rfl, rfl, SqT.of er3, atI_nat (j := 0) rfl, _, _, rfl, rfl, small_le (by rw [S_len, S_len]; omega), rfl, _, rfl, ?_⟩
      rw [S_cat, dec_str, decide_eq_true hjr]
      refine iteF ?_
      have efoH := s17 _ _ (s16 _ _ (s15 _ _ efoE))
      -- the found one is changed; a place is drawn
      refine ⟨_, rfl, .inl ⟨rfl, _, SqL.of efoH⟩, fo, _, _, rfl, rfl, efoH, small1000 (by rw [List.length_map]; omega), ?_⟩
      have s7I : Same HB (upd H17 fo (.lst (Ints (joinL one two l1 l2) ++ [V.int 0]))) := Same.mut s7H hfo
      generalize upd H17 fo (.lst (Ints (joinL one two l1 l2) ++ [V.int 0])) = H18 at s7I ⊢
      refine ⟨_, rfl, _, rfl, p1, _, rfl, .inl (SqL.of (s7I _ _ ep1B)), _, _, rfl, rfl, ?_⟩
      refine ⟨d, ds5, _, rfl, s7I _ _ edB, hD5, by omega, by simp; omega, fun k ds6 HC hk0 hk1 hD6 kpC edC => ?_⟩
      rw [List.length_map] at hk1
      have hkl : k.toNat ≤ l1.length := by omega
      have kpHC : Keep d HB HC := (Keep.same s7I).trans kpC
      have hh1d : h1 ≠ d := fun e => by
        rw [e, e5] at hh1
        cases hh1
      have hhpd : hp ≠ d := fun e => by
        rw [e, edA] at hhp
        cases hhp
      have hh2d : h2 ≠ d := fun e => by
        rw [e, sA _ _ e5] at hh2
        cases hh2
      have eTC : SetsAt HC t one two := kpHC _ _ htd eTB
      have ep1C := kpHC _ _ hp1d ep1B
      have ep2C := kpHC _ _ hp2d ep2B
      have ehpC := kpHC _ _ hhpd ehp
      have eh1C := kpHC _ _ hh1d eh1
      have eh2C := kpHC _ _ hh2d eh2
      have hct := cut_codes (two := two) (k := k.toNat) hc1
      have hcl := cut_len one two l1 k.toNat
      have hcr := cut_read (two := two) (k := k.toNat) hc1
      have hbl := back_len (one := one) (two := two) hkl
      have hbr := back_read (two := two) (k := k.toNat) hc1
      have hbt : Tape one.length (joinL one two (l1.take k.toNat) (cutR one two l1 k.toNat)) := ⟨by omega, join_codes (hc1.take _) hct⟩
      have hat : Tape one.length (l1.take k.toNat) := ⟨by simp; omega, hc1.take _⟩
      have hdt : Tape one.length (cutR one two l1 k.toNat) := ⟨by omega, hct⟩
      -- cut
      refine ⟨_, rfl, _, rfl, hp, _, 0, _, rfl, rfl, SqL.of ehpC, atI_nat (j := 0) rfl, _, rfl, ?_⟩
      refine ⟨t, h1, one, two, l1, k, rfl, eTC, hs, eh1C, ht1, hk0, by omega, fun H19 pc px py s19 hpc hpx hpy hxy epc epx epy => ?_⟩
      refine ⟨_, rfl, _, rfl, _, rfl, _, rfl, p1, _, rfl, SqL.of (s19 _ _ ep1C), fun u1 hu1 => ?_⟩
      have s20 := s19.trans (Same.new (o := .lst (cutV (Ints l1) none (some k))) hu1)
      have eu1 : (upd H19 u1 (.lst (cutV (Ints l1) none (some k)))) u1 = some (.lst (Ints (l1.take k.toNat))) := by
        rw [upd_same, cutV_to hk0, ← List.map_take]
      have epc20 : (upd H19 u1 (.lst (cutV (Ints l1) none (some k)))) pc = _ := (Same.new hu1) _ _ epc
      have epx20 : (upd H19 u1 (.lst (cutV (Ints l1) none (some k)))) px = _ := (Same.new hu1) _ _ epx
      have epy20 : (upd H19 u1 (.lst (cutV (Ints l1) none (some k)))) py = _ := (Same.new hu1) _ _ epy
      generalize upd H19 u1 (.lst (cutV (Ints l1) none (some k))) = H20 at s20 eu1 epc20 epx20 epy20 ⊢
      refine ⟨t, u1, one, two, _, 0, rfl, s20 _ _ eTC, hs, eu1, hat.2, by simp; omega, b0, fun H21 g3 s21 hg3 eg3 => ?_⟩
      refine ⟨g3, _, 1, _, rfl, rfl, SqT.of eg3, atI_nat (j := 1) rfl, ?_⟩
      have s22 := s20.trans s21
      refine ⟨_, rfl, _, rfl, _, rfl, _, rfl, p1, _, rfl, SqL.of (s22 _ _ ep1C), fun u2 hu2 => ?_⟩
      have s23 := s22.trans (Same.new (o := .lst (cutV (Ints l1) (some k) none)) hu2)
      have eu2 : (upd H21 u2 (.lst (cutV (Ints l1) (some k) none))) u2 = some (.lst (Ints (l1.drop k.toNat))) := by
        rw [upd_same, cutV_from hk0, ← List.map_drop]
      have s20b : Same H20 (upd H21 u2 (.lst (cutV (Ints l1) (some k) none))) := s21.trans (Same.new hu2)
      generalize upd H21 u2 (.lst (cutV (Ints l1) (some k) none)) = H22 at s23 eu2 s20b ⊢
      refine ⟨_, rfl, t, u2, one, two, _, _, rfl, s23 _ _ eTC, hs, eu2, hc1.drop _, by simp; omega, rdS_bit b0 hat.2, fun H23 g4 s24 hg4 eg4 => ?_⟩
      refine ⟨g4, _, 0, _, rfl, rfl, SqT.of eg4, atI_nat (j := 0) rfl, ?_⟩
      have s25 := s23.trans s24
      refine ⟨_, rfl, _, rfl, _, rfl, _, rfl, p1, _, rfl, SqL.of (s25 _ _ ep1C), fun u3 hu3 => ?_⟩
      have s26 := s25.trans (Same.new (o := .lst (cutV (Ints l1) (some k) none)) hu3)
      have eu3 : (upd H23 u3 (.lst (cutV (Ints l1) (some k) none))) u3 = some (.lst (Ints (l1.drop k.toNat))) := by
        rw [upd_same, cutV_from hk0, ← List.map_drop]
      have s20c : Same H20 (upd H23 u3 (.lst (cutV (Ints l1) (some k) none))) := (s20b.trans s24).trans (Same.new hu3)
      generalize upd H23 u3 (.lst (cutV (Ints l1) (some k) none)) = H24 at s26 eu3 s20c ⊢
      refine ⟨t, u3, one, two, _, 0, rfl, s26 _ _ eTC, hs, eu3, hc1.drop _, by simp; omega, b0, fun H25 g5 s27 hg5 eg5 => ?_⟩
      refine ⟨g5, _, 0, _, rfl, rfl, SqT.of eg5, atI_nat (j := 0) rfl, rfl, ?_⟩
      rw [dec_str, need_eq hat.2]
      have s28 := s26.trans s27
      have s20d := s20c.trans s27
      -- the due pair
      refine ⟨_, rfl, _, rfl, _, rfl, p1, _, rfl, SqL.of (s28 _ _ ep1C), fun u4 hu4 => ?_⟩
      have s29 := s28.trans (Same.new (o := .lst (cutV (Ints l1) none (some k))) hu4)
      have s20e := s20d.trans (Same.new (o := .lst (cutV (Ints l1) none (some k))) hu4)
      have eu4 : (upd H25 u4 (.lst (cutV (Ints l1) none (some k)))) u4 = some (.lst (Ints (l1.take k.toNat))) := by
        rw [upd_same, cutV_to hk0, ← List.map_take]
      generalize upd H25 u4 (.lst (cutV (Ints l1) none (some k))) = H26 at s29 s20e eu4 ⊢
      refine ⟨_, rfl, _, rfl, _, _, rfl, rfl, (by show 1 ≤ sizeLine; decide), fun u5 hu5 => ⟨_, rfl, .inr ⟨_, rfl, ?_⟩⟩⟩
      have su5 : Same H26 (upd H26 u5 (.lst [V.int ((S one).length + rdS one 0 (l1.take k.toNat))])) := Same.new hu5
      refine ⟨u5, _, _, rfl, rfl, upd_same, by split <;> decide, by split <;> decide, small_le (by split <;> simp), fun u6 hu6 => ?_⟩
      rw [rep_one]
      have su6 := su5.trans (Same.new (o := .lst (if iro one two (l1.take k.toNat) (l1.drop k.toNat) = true then [V.int ((S one).length + rdS one 0 (l1.take k.toNat))] else [])) hu6)
      have eu6 : (upd (upd H26 u5 (.lst [V.int ((S one).length + rdS one 0 (l1.take k.toNat))])) u6 (.lst (if iro one two (l1.take k.toNat) (l1.drop k.toNat) = true then [V.int ((S one).length + rdS one 0 (l1.take k.toNat))] else []))) u6 = some (.lst (if iro one two (l1.take k.toNat) (l1.drop k.toNat) = true then [V.int ((S one).length + rdS one 0 (l1.take k.toNat))] else [])) := upd_same
      generalize upd (upd H26 u5 (.lst [V.int ((S one).length + rdS one 0 (l1.take k.toNat))])) u6 (.lst (if iro one two (l1.take k.toNat) (l1.drop k.toNat) = true then [V.int ((S one).length + rdS one 0 (l1.take k.toNat))] else [])) = H27 at su6 eu6 ⊢
      have s30 := s29.trans su6
      refine ⟨_, rfl, _, rfl, _, rfl, p1, _, rfl, SqL.of (s30 _ _ ep1C), fun u7 hu7 => ?_⟩
      have su7 : Same H27 (upd H27 u7 (.lst (cutV (Ints l1) (some k) none))) := Same.new hu7
      have eu7 : (upd H27 u7 (.lst (cutV (Ints l1) (some k) none))) u7 = some (.lst (Ints (l1.drop k.toNat))) := by
        rw [upd_same, cutV_from hk0, ← List.map_drop]
      refine ⟨u6, u7, _, _, rfl, rfl, su7 _ _ eu6, eu7, small_le (by split <;> simp <;> omega), fun u8 hu8 => ?_⟩
      have su8 := su7.trans (Same.new (o := .lst ((if iro one two (l1.take k.toNat) (l1.drop k.toNat) = true then [V.int ((S one).length + rdS one 0 (l1.take k.toNat))] else []) ++ Ints (l1.drop k.toNat))) hu8)
      have eu8 : (upd (upd H27 u7 (.lst (cutV (Ints l1) (some k) none))) u8 (.lst ((if iro one two (l1.take k.toNat) (l1.drop k.toNat) = true then [V.int ((S one).length + rdS one 0 (l1.take k.toNat))] else []) ++ Ints (l1.drop k.toNat)))) u8 = some (.lst (Ints (cutR one two l1 k.toNat))) := by
        rw [upd_same]
        unfold cutR
        rw [ints_app, S_len]
        by_cases h : iro one two (l1.take k.toNat) (l1.drop k.toNat) = true
        · have e1 : rdS one 0 (l1.take k.toNat) = 1 := by
            unfold iro at h
            rw [Bool.and_eq_true, decide_eq_true_eq] at h
            exact h.1
          rw [if_pos h, if_pos h, e1]
          rfl
        · rw [if_neg h, if_neg h]
          rfl
      have s31 := s30.trans su8
      have s20f := (s20e.trans su6).trans su8
      have eu4b := su8 _ _ (su6 _ _ eu4)
      generalize upd (upd H27 u7 (.lst (cutV (Ints l1) (some k) none))) u8 (.lst ((if iro one two (l1.take k.toNat) (l1.drop k.toNat) = true then [V.int ((S one).length + rdS one 0 (l1.take k.toNat))] else []) ++ Ints (l1.drop k.toNat))) = H28 at eu8 s31 s20f eu4b ⊢
      refine ⟨(by show 2 ≤ sizeLine; decide), fun u9 hu9 => ?_⟩
      have eu9 : (upd H28 u9 (.tup [.ref u4, .ref u8])) u9 = some (.tup [.ref u4, .ref u8]) := upd_same
      have s32 := s31.trans (Same.new (o := .tup [.ref u4, .ref u8]) hu9)
      have s20g := s20f.trans (Same.new (o := .tup [.ref u4, .ref u8]) hu9)
      have eu4c := (Same.new (o := .tup [.ref u4, .ref u8]) hu9) _ _ eu4b
      have eu8c := (Same.new (o := .tup [.ref u4, .ref u8]) hu9) _ _ eu8
      generalize upd H28 u9 (.tup [.ref u4, .ref u8]) = H29 at eu9 s32 s20g eu4c eu8c ⊢
      have la := hat.1
      have lb := hdt.1
      have hdep : (PyData.tuple [dInts (l1.take k.toNat), dInts (cutR one two l1 k.toNat)]).depth < 3 := by
        simp only [PyData.depth, PyData.depthAll, (lay_ints _).2]
        have h1 := (flat_lay (flat_ints (l1.take k.toNat))).2
        have h2 := (flat_lay (flat_ints (cutR one two l1 k.toNat))).2
        rw [h1, h2]
        decide
      refine ⟨_, rfl, _, rfl, .ref pc, .ref u9, .tuple [dInts (l1.take k.toNat), dInts (cutR one two l1 k.toNat)], rfl, .tup (s20g _ _ epc20) (by show 2 ≤ 1000; decide) (.cons (tk_ints (s20g _ _ epx20) (by omega)) (.cons (tk_ints (s20g _ _ epy20) (by omega)) .nil)), .tup eu9 (by show 2 ≤ 1000; decide) (.cons (tk_ints eu4c (by omega)) (.cons (tk_ints eu8c (by omega)) .nil)), hdep, fun H30 s33 => ⟨true, rfl, iteF ?_⟩⟩
      have s34 := s32.trans s33
      have s20h := s20g.trans s33
      refine ⟨_, rfl, _, rfl, _, rfl, (by show 2 ≤ sizeLine; decide), fun z2 hz2 => ?_⟩
      have s35 := s34.trans (Same.new (o := .lst [.ref p1, .ref p2]) hz2)
      have s20i := s20h.trans (Same.new (o := .lst [.ref p1, .ref p2]) hz2)
      have ez2 : (upd H30 z2 (.lst [.ref p1, .ref p2])) z2 = some (.lst [.ref p1, .ref p2]) := upd_same
      generalize upd H30 z2 (.lst [.ref p1, .ref p2]) = H31 at s35 s20i ez2 ⊢
      refine ⟨.list [dInts l1, dInts l2], .list [dInts l1, dInts l2], .lst (SqL.of (s35 _ _ ehpC)) (.cons (Dp.ints (s35 _ _ eh1C)) (.cons (Dp.ints (s35 _ _ eh2C)) .nil)), .lst (SqL.of ez2) (.cons (Dp.ints (s35 _ _ ep1C)) (.cons (Dp.ints (s35 _ _ ep2C)) .nil)), (lay_two l1 l2).2, (lay_two l1 l2).2, _, rfl, ?_⟩
      rw [eqv_two]
      refine iteF ?_
      -- both pieces are read as the tape
      have epcI := s20i _ _ epc20
      have epxI := s20i _ _ epx20
      have epyI := s20i _ _ epy20
      refine ⟨_, rfl, _, rfl, pc, _, 0, _, rfl, rfl, SqT.of epcI, atI_nat (j := 0) rfl, t, px, one, two, _, 0, rfl, s35 _ _ eTC, hs, epxI, hat, b0, fun H32 r4 s36 hr4 er4 => ?_⟩
      refine ⟨r4, _, 0, _, rfl, rfl, SqT.of er4, atI_nat (j := 0) rfl, ?_⟩
      have s37 := s35.trans s36
      refine ⟨_, rfl, _, rfl, pc, _, 1, _, rfl, rfl, SqT.of (s36 _ _ epcI), atI_nat (j := 1) rfl, t, py, one, two, _, 0, rfl, s37 _ _ eTC, hs, s36 _ _ epyI, hdt, b0, fun H33 r5 s38 hr5 er5 => ?_⟩
      have s39 := s37.trans s38
      have hq3 := rdT_len one two 0 (l1.take k.toNat)
      have hq4 := rdT_len one two 0 (cutR one two l1 k.toNat)
      refine ⟨r5, _, 0, _, rfl, rfl, SqT.of er5, atI_nat (j := 0) rfl, _, _, rfl, rfl, small_le (by rw [S_len, S_len]; omega), ?_⟩
      refine ⟨_, rfl, _, rfl, t, p1, one, two, l1, 0, rfl, s39 _ _ eTC, hs, s39 _ _ ep1C, ht1, b0, fun H34 r6 s40 hr6 er6 => ?_⟩
      refine ⟨r6, _, 0, _, rfl, rfl, SqT.of er6, atI_nat (j := 0) rfl, rfl, _, rfl, ?_⟩
      rw [S_cat, dec_str, decide_eq_true hcr]
      refine iteF ?_
      have s41 := s39.trans s40
      have s36b := (s36.trans s38).trans s40
      -- joined again
      refine ⟨_, rfl, _, rfl, pc, _, 0, _, rfl, rfl, SqT.of (s36b _ _ epcI), atI_nat (j := 0) rfl, _, rfl, pc, _, 1, _, rfl, rfl, SqT.of (s36b _ _ epcI), atI_nat (j := 1) rfl, ?_⟩
      refine ⟨t, px, py, one, two, _, _, rfl, s41 _ _ eTC, hs, s36b _ _ epxI, hat, s36b _ _ epyI, hdt, fun H35 bk s42 hbk ebk => ?_⟩
      have s43 := s41.trans s42
      have s36c := s36b.trans s42
      refine ⟨_, rfl, _, rfl, t, bk, one, two, _, 0, rfl, s43 _ _ eTC, hs, ebk, hbt, b0, fun H36 r7 s44 hr7 er7 => ?_⟩
      refine ⟨r7, _, 0, _, rfl, rfl, SqT.of er7, atI_nat (j := 0) rfl, ?_⟩
      have s45 := s43.trans s44
      refine ⟨_, rfl, _, rfl, t, p1, one, two, l1, 0, rfl, s45 _ _ eTC, hs, s45 _ _ ep1C, ht1, b0, fun H37 r8 s46 hr8 er8 => ?_⟩
      refine ⟨r8, _, 0, _, rfl, rfl, SqT.of er8, atI_nat (j := 0) rfl, rfl, _, rfl, ?_⟩
      rw [dec_str, decide_eq_true hbr]
      refine iteF ?_
      have s47 := s45.trans s46
      refine ⟨_, rfl, bk, _, rfl, .inl (SqL.of (s46 _ _ (s44 _ _ ebk))), _, rfl, p1, _, rfl, .inl (SqL.of (s47 _ _ ep1C)), _, _, rfl, rfl, _, _, rfl, rfl, _, rfl, ?_⟩
      rw [decide_eq_false (show ¬ (((Ints l1).length : Nat) : Int) + 1 < (((Ints (joinL one two (l1.take k.toNat) (cutR one two l1 k.toNat))).length : Nat) : Int) by rw [List.length_map, List.length_map]; omega)]
      refine iteF ?_
      have s36d := (s36c.trans s44).trans s46
      have epcZ := s36d _ _ epcI
      have epxZ := s36d _ _ epxI
      have epyZ := s36d _ _ epyI
      refine ⟨_, rfl, pc, _, 0, _, rfl, rfl, SqT.of epcZ, atI_nat (j := 0) rfl, .inl ⟨rfl, _, SqL.of epxZ⟩, px, _, _, rfl, rfl, epxZ, small1000 (by rw [List.length_map]; omega), ?_⟩
      have hpcx : pc ≠ px := ne_of epcZ epxZ (by intro z; cases z)
      have s48 : Same HC (upd H37 px (.lst (Ints (l1.take k.toNat) ++ [V.int 0]))) := Same.mut s47 hpx
      have epcY : (upd H37 px (.lst (Ints (l1.take k.toNat) ++ [V.int 0]))) pc = some (.tup [.ref px, .ref py]) := by
        rw [upd_ne hpcx]
        exact epcZ
      have epyY : (upd H37 px (.lst (Ints (l1.take k.toNat) ++ [V.int 0]))) py = some (.lst (Ints (cutR one two l1 k.toNat))) := by
        rw [upd_ne hxy.symm]
        exact epyZ
      refine ⟨_, rfl, pc, _, 1, _, rfl, rfl, SqT.of epcY, atI_nat (j := 1) rfl, .inl ⟨rfl, _, SqL.of epyY⟩, py, _, rfl, rfl, epyY, ?_⟩
      have s49 := Same.mut (o := .lst []) s48 hpy
      exact ⟨_, _, _, _, _, _, _, _, _, _, _, _, ds6, rfl, (kpB.trans kpHC).trans (Keep.same s49), s49 _ _ edC, hD6⟩
    · rintro σ H' ⟨y4, y5, y6, y7, y8, y9, y10, y11, y12, y13, y14, y15, ds', rfl, kp, ed, hD'⟩
      exact q H'

end
/-! ### what the top has written; the end -/
theorem all_mk {l : PySem.W.OpenLaw} {w : World} {K : PySem.W.Frag} {h : Heap} {mg : Str → Option Value} {fa f0 f1 f2 f3 f4 f5 f6 f7 f8 f9 f10 f11 f12 f13 f14 f15 f16 f17 : Addr} (X : K.In h) (G : h.Ns mainGlobals mg) (hfa : mg "law" = some (.ref fa))
    {od0 an0 od1 an1 od2 an2 od3 an3 od4 an4 od5 an5 od6 an6 od7 an7 od8 an8 od9 an9 od10 an10 od11 an11 od12 an12 od13 an13 od14 an14 od15 an15 od16 an16 od17 an17 : Option Addr} {sl0 sl1 sl2 sl3 sl4 sl5 sl6 sl7 sl8 sl9 sl10 sl11 sl12 sl13 sl14 sl15 sl16 sl17 : Array (Option Value)} {oc0 kV0 dc0 pm0 cd0 ct0 oc1 kV1 dc1 pm1 cd1 ct1 oc2 kV2 dc2 pm2 cd2 ct2 oc3 kV3 dc3 pm3 cd3 ct3 oc4 kV4 dc4 pm4 cd4 ct4 oc5 kV5 dc5 pm5 cd5 ct5 oc6 kV6 dc6 pm6 cd6 ct6 oc7 kV7 dc7 pm7 cd7 ct7 oc8 kV8 dc8 pm8 cd8 ct8 oc9 kV9 dc9 pm9 cd9 ct9 oc10 kV10 dc10 pm10 cd10 ct10 oc11 kV11 dc11 pm11 cd11 ct11 oc12 kV12 dc12 pm12 cd12 ct12 oc13 kV13 dc13 pm13 cd13 ct13 oc14 kV14 dc14 pm14 cd14 ct14 oc15 kV15 dc15 pm15 cd15 ct15 oc16 kV16 dc16 pm16 cd16 ct16 oc17 kV17 dc17 pm17 cd17 ct17 : Value} {t0 t1 : Tok}
    (a0 : PySem.W.nsIn K mainGlobals "can_be_set" = some (some (.ref f0))) (l0 : K.lookup f0 = some ⟨oc0, od0, .func (PySem.W.fnOf "can_be_set" "can_be_set" (defArgs s_p_can_be_set) (defBody s_p_can_be_set) (defScope s_p_can_be_set) .none kV0 dc0 pm0 an0 cd0 ct0), sl0⟩) (c0 : PySem.W.codeIn K cd0 "can_be_set" = true) (k0 : PySem.W.keepIn K (.ref f0) = true)
    (a1 : PySem.W.nsIn K mainGlobals "check_sets" = some (some (.ref f1))) (l1 : K.lookup f1 = some ⟨oc1, od1, .func (PySem.W.fnOf "check_sets" "check_sets" (defArgs s_p_check_sets) (defBody s_p_check_sets) (defScope s_p_check_sets) .none kV1 dc1 pm1 an1 cd1 ct1), sl1⟩) (c1 : PySem.W.codeIn K cd1 "check_sets" = true) (k1 : PySem.W.keepIn K (.ref f1) = true)
    (a2 : PySem.W.nsIn K mainGlobals "check_tape" = some (some (.ref f2))) (l2 : K.lookup f2 = some ⟨oc2, od2, .func (PySem.W.fnOf "check_tape" "check_tape" (defArgs s_p_check_tape) (defBody s_p_check_tape) (defScope s_p_check_tape) .none kV2 dc2 pm2 an2 cd2 ct2), sl2⟩) (c2 : PySem.W.codeIn K cd2 "check_tape" = true) (k2 : PySem.W.keepIn K (.ref f2) = true)
    (a3 : PySem.W.nsIn K mainGlobals "check_state" = some (some (.ref f3))) (l3 : K.lookup f3 = some ⟨oc3, od3, .func (PySem.W.fnOf "check_state" "check_state" (defArgs s_p_check_state) (defBody s_p_check_state) (defScope s_p_check_state) .none kV3 dc3 pm3 an3 cd3 ct3), sl3⟩) (c3 : PySem.W.codeIn K cd3 "check_state" = true) (k3 : PySem.W.keepIn K (.ref f3) = true)
    (a4 : PySem.W.nsIn K mainGlobals "is_common" = some (some (.ref f4))) (l4 : K.lookup f4 = some ⟨oc4, od4, .func (PySem.W.fnOf "is_common" "is_common" (defArgs s_p_is_common) (defBody s_p_is_common) (defScope s_p_is_common) .none kV4 dc4 pm4 an4 cd4 ct4), sl4⟩) (c4 : PySem.W.codeIn K cd4 "is_common" = true) (k4 : PySem.W.keepIn K (.ref f4) = true)
    (a5 : PySem.W.nsIn K mainGlobals "read" = some (some (.ref f5))) (l5 : K.lookup f5 = some ⟨oc5, od5, .func (PySem.W.fnOf "read" "read" (defArgs s_p_read) (defBody s_p_read) (defScope s_p_read) .none kV5 dc5 pm5 an5 cd5 ct5), sl5⟩) (c5 : PySem.W.codeIn K cd5 "read" = true) (k5 : PySem.W.keepIn K (.ref f5) = true)
    (a6 : PySem.W.nsIn K mainGlobals "spoilt" = some (some (.ref f6))) (l6 : K.lookup f6 = some ⟨oc6, od6, .func (PySem.W.fnOf "spoilt" "spoilt" (defArgs s_p_spoilt) (defBody s_p_spoilt) (defScope s_p_spoilt) .none kV6 dc6 pm6 an6 cd6 ct6), sl6⟩) (c6 : PySem.W.codeIn K cd6 "spoilt" = true) (k6 : PySem.W.keepIn K (.ref f6) = true)
    (a7 : PySem.W.nsIn K mainGlobals "is_read_otherwise" = some (some (.ref f7))) (l7 : K.lookup f7 = some ⟨oc7, od7, .func (PySem.W.fnOf "is_read_otherwise" "is_read_otherwise" (defArgs s_p_is_read_otherwise) (defBody s_p_is_read_otherwise) (defScope s_p_is_read_otherwise) .none kV7 dc7 pm7 an7 cd7 ct7), sl7⟩) (c7 : PySem.W.codeIn K cd7 "is_read_otherwise" = true) (k7 : PySem.W.keepIn K (.ref f7) = true)
    (a8 : PySem.W.nsIn K mainGlobals "joined" = some (some (.ref f8))) (l8 : K.lookup f8 = some ⟨oc8, od8, .func (PySem.W.fnOf "joined" "joined" (defArgs s_p_joined) (defBody s_p_joined) (defScope s_p_joined) .none kV8 dc8 pm8 an8 cd8 ct8), sl8⟩) (c8 : PySem.W.codeIn K cd8 "joined" = true) (k8 : PySem.W.keepIn K (.ref f8) = true)
    (a9 : PySem.W.nsIn K mainGlobals "cut" = some (some (.ref f9))) (l9 : K.lookup f9 = some ⟨oc9, od9, .func (PySem.W.fnOf "cut" "cut" (defArgs s_p_cut) (defBody s_p_cut) (defScope s_p_cut) .none kV9 dc9 pm9 an9 cd9 ct9), sl9⟩) (c9 : PySem.W.codeIn K cd9 "cut" = true) (k9 : PySem.W.keepIn K (.ref f9) = true)
    (a10 : PySem.W.nsIn K mainGlobals "_law_dice" = some (some (.ref f10))) (l10 : K.lookup f10 = some ⟨oc10, od10, .func (PySem.W.fnOf "_law_dice" "_law_dice" (defArgs s_l_dice) (defBody s_l_dice) (defScope s_l_dice) .none kV10 dc10 pm10 an10 cd10 ct10), sl10⟩) (c10 : PySem.W.codeIn K cd10 "_law_dice" = true) (k10 : PySem.W.keepIn K (.ref f10) = true)
    (a11 : PySem.W.nsIn K mainGlobals "_law_off" = some (some (.ref f11))) (l11 : K.lookup f11 = some ⟨oc11, od11, .func (PySem.W.fnOf "_law_off" "_law_off" (defArgs s_l_off) (defBody s_l_off) (defScope s_l_off) .none kV11 dc11 pm11 an11 cd11 ct11), sl11⟩) (c11 : PySem.W.codeIn K cd11 "_law_off" = true) (k11 : PySem.W.keepIn K (.ref f11) = true)
    (a12 : PySem.W.nsIn K mainGlobals "_law_alike" = some (some (.ref f12))) (l12 : K.lookup f12 = some ⟨oc12, od12, .func (PySem.W.fnOf "_law_alike" "_law_alike" (defArgs s_l_alike) (defBody s_l_alike) (defScope s_l_alike) .none kV12 dc12 pm12 an12 cd12 ct12), sl12⟩) (c12 : PySem.W.codeIn K cd12 "_law_alike" = true) (k12 : PySem.W.keepIn K (.ref f12) = true)
    (a13 : PySem.W.nsIn K mainGlobals "_law_mixed" = some (some (.ref f13))) (l13 : K.lookup f13 = some ⟨oc13, od13, .func (PySem.W.fnOf "_law_mixed" "_law_mixed" (defArgs s_l_mixed) (defBody s_l_mixed) (defScope s_l_mixed) .none kV13 dc13 pm13 an13 cd13 ct13), sl13⟩) (c13 : PySem.W.codeIn K cd13 "_law_mixed" = true) (k13 : PySem.W.keepIn K (.ref f13) = true)
    (a14 : PySem.W.nsIn K mainGlobals "_law_sets" = some (some (.ref f14))) (l14 : K.lookup f14 = some ⟨oc14, od14, .func (PySem.W.fnOf "_law_sets" "_law_sets" (defArgs s_l_sets) (defBody s_l_sets) (defScope s_l_sets) .none kV14 dc14 pm14 an14 cd14 ct14), sl14⟩) (c14 : PySem.W.codeIn K cd14 "_law_sets" = true) (k14 : PySem.W.keepIn K (.ref f14) = true)
    (a15 : PySem.W.nsIn K mainGlobals "_law_tape" = some (some (.ref f15))) (l15 : K.lookup f15 = some ⟨oc15, od15, .func (PySem.W.fnOf "_law_tape" "_law_tape" (defArgs s_l_tape) (defBody s_l_tape) (defScope s_l_tape) .none kV15 dc15 pm15 an15 cd15 ct15), sl15⟩) (c15 : PySem.W.codeIn K cd15 "_law_tape" = true) (k15 : PySem.W.keepIn K (.ref f15) = true)
    (a16 : PySem.W.nsIn K mainGlobals "_law_gone" = some (some (.ref f16))) (l16 : K.lookup f16 = some ⟨oc16, od16, .func (PySem.W.fnOf "_law_gone" "_law_gone" (defArgs s_l_gone) (defBody s_l_gone) (defScope s_l_gone) .none kV16 dc16 pm16 an16 cd16 ct16), sl16⟩) (c16 : PySem.W.codeIn K cd16 "_law_gone" = true) (k16 : PySem.W.keepIn K (.ref f16) = true)
    (a17 : PySem.W.nsIn K mainGlobals "law" = some (some (.ref f17))) (l17 : K.lookup f17 = some ⟨oc17, od17, .func (PySem.W.fnOf "law" "law" (defArgs s_law) (defBody s_law) (defScope s_law) .none kV17 dc17 pm17 an17 cd17 ct17), sl17⟩) (c17 : PySem.W.codeIn K cd17 "law" = true) (k17 : PySem.W.keepIn K (.ref f17) = true)
    (z0 : PySem.W.nsIn K mainGlobals "ValueError" = some none)
    (z1 : PySem.W.nsIn K mainGlobals "abs" = some none)
    (z2 : PySem.W.nsIn K mainGlobals "all" = some none)
    (z3 : PySem.W.nsIn K mainGlobals "bool" = some none)
    (z4 : PySem.W.nsIn K mainGlobals "enumerate" = some none)
    (z5 : PySem.W.nsIn K mainGlobals "int" = some none)
    (z6 : PySem.W.nsIn K mainGlobals "isinstance" = some none)
    (z7 : PySem.W.nsIn K mainGlobals "len" = some none)
    (z8 : PySem.W.nsIn K mainGlobals "list" = some none)
    (z9 : PySem.W.nsIn K mainGlobals "range" = some none)
    (z10 : PySem.W.nsIn K mainGlobals "set" = some none)
    (z11 : PySem.W.nsIn K mainGlobals "str" = some none)
    (z12 : PySem.W.nsIn K mainGlobals "tuple" = some none)
    (q0 : PySem.W.nsIn K mainGlobals "MOST_SIGNS" = some (some (.int 10 t0)))
    (q1 : PySem.W.nsIn K mainGlobals "MOST_CODES" = some (some (.int 200 t1)))
    : ∃ fd : FuncData, (∀ (s : Shared) (v : Value), BindsTo s fd ⟨[v], []⟩ [("_law_script", v)]) ∧ ∀ base : Heap, K.In base → base.Ns mainGlobals mg → FnOk l.prog w K mg base CX0 6 fa fd ["_law_script"] (spLaw K) := by
  have e := hfa.symm.trans (PySem.W.mg_of X G a17)
  cases e
  have F0 := fun_mk (st := s_p_can_be_set) l0 c0 k0
  have F1 := fun_mk (st := s_p_check_sets) l1 c1 k1
  have F2 := fun_mk (st := s_p_check_tape) l2 c2 k2
  have F3 := fun_mk (st := s_p_check_state) l3 c3 k3
  have F4 := fun_mk (st := s_p_is_common) l4 c4 k4
  have F5 := fun_mk (st := s_p_read) l5 c5 k5
  have F6 := fun_mk (st := s_p_spoilt) l6 c6 k6
  have F7 := fun_mk (st := s_p_is_read_otherwise) l7 c7 k7
  have F8 := fun_mk (st := s_p_joined) l8 c8 k8
  have F9 := fun_mk (st := s_p_cut) l9 c9 k9
  have F10 := fun_mk (st := s_l_dice) l10 c10 k10
  have F11 := fun_mk (st := s_l_off) l11 c11 k11
  have F12 := fun_mk (st := s_l_alike) l12 c12 k12
  have F13 := fun_mk (st := s_l_mixed) l13 c13 k13
  have F14 := fun_mk (st := s_l_sets) l14 c14 k14
  have F15 := fun_mk (st := s_l_tape) l15 c15 k15
  have F16 := fun_mk (st := s_l_gone) l16 c16 k16
  have F17 := fun_mk (st := s_law) l17 c17 k17
  let T : Txt K mg := {
    a_p_can_be_set := _, d_p_can_be_set := _, F_p_can_be_set := F0, g_p_can_be_set := PySem.W.mg_of X G a0,
    b_p_can_be_set := F0.binds (ps := ["text"]) fun _ _ _ _ _ _ us hl => match us, hl with | [_], _ => rfl,
    a_p_check_sets := _, d_p_check_sets := _, F_p_check_sets := F1, g_p_check_sets := PySem.W.mg_of X G a1,
    b_p_check_sets := F1.binds (ps := ["sets"]) fun _ _ _ _ _ _ us hl => match us, hl with | [_], _ => rfl,
    a_p_check_tape := _, d_p_check_tape := _, F_p_check_tape := F2, g_p_check_tape := PySem.W.mg_of X G a2,
    b_p_check_tape := F2.binds (ps := ["sets", "tape"]) fun _ _ _ _ _ _ us hl => match us, hl with | [_, _], _ => rfl,
    a_p_check_state := _, d_p_check_state := _, F_p_check_state := F3, g_p_check_state := PySem.W.mg_of X G a3,
    b_p_check_state := F3.binds (ps := ["state"]) fun _ _ _ _ _ _ us hl => match us, hl with | [_], _ => rfl,
    a_p_is_common := _, d_p_is_common := _, F_p_is_common := F4, g_p_is_common := PySem.W.mg_of X G a4,
    b_p_is_common := F4.binds (ps := ["sets", "code"]) fun _ _ _ _ _ _ us hl => match us, hl with | [_, _], _ => rfl,
    a_p_read := _, d_p_read := _, F_p_read := F5, g_p_read := PySem.W.mg_of X G a5,
    b_p_read := F5.binds (ps := ["sets", "tape", "state"]) fun _ _ _ _ _ _ us hl => match us, hl with | [_, _, _], _ => rfl,
    a_p_spoilt := _, d_p_spoilt := _, F_p_spoilt := F6, g_p_spoilt := PySem.W.mg_of X G a6,
    b_p_spoilt := F6.binds (ps := ["sets", "codes"]) fun _ _ _ _ _ _ us hl => match us, hl with | [_, _], _ => rfl,
    a_p_is_read_otherwise := _, d_p_is_read_otherwise := _, F_p_is_read_otherwise := F7, g_p_is_read_otherwise := PySem.W.mg_of X G a7,
    b_p_is_read_otherwise := F7.binds (ps := ["sets", "ahead", "behind"]) fun _ _ _ _ _ _ us hl => match us, hl with | [_, _, _], _ => rfl,
    a_p_joined := _, d_p_joined := _, F_p_joined := F8, g_p_joined := PySem.W.mg_of X G a8,
    b_p_joined := F8.binds (ps := ["sets", "one", "other"]) fun _ _ _ _ _ _ us hl => match us, hl with | [_, _, _], _ => rfl,
    a_p_cut := _, d_p_cut := _, F_p_cut := F9, g_p_cut := PySem.W.mg_of X G a9,
    b_p_cut := F9.binds (ps := ["sets", "tape", "at"]) fun _ _ _ _ _ _ us hl => match us, hl with | [_, _, _], _ => rfl,
    a_l_dice := _, d_l_dice := _, F_l_dice := F10, g_l_dice := PySem.W.mg_of X G a10,
    b_l_dice := F10.binds (ps := ["_law_script", "_law_k"]) fun _ _ _ _ _ _ us hl => match us, hl with | [_, _], _ => rfl,
    a_l_off := _, d_l_off := _, F_l_off := F11, g_l_off := PySem.W.mg_of X G a11,
    b_l_off := F11.binds (ps := ["_law_d", "_law_most"]) fun _ _ _ _ _ _ us hl => match us, hl with | [_, _], _ => rfl,
    a_l_alike := _, d_l_alike := _, F_l_alike := F12, g_l_alike := PySem.W.mg_of X G a12,
    b_l_alike := F12.binds (ps := ["_law_found", "_law_due"]) fun _ _ _ _ _ _ us hl => match us, hl with | [_, _], _ => rfl,
    a_l_mixed := _, d_l_mixed := _, F_l_mixed := F13, g_l_mixed := PySem.W.mg_of X G a13,
    b_l_mixed := F13.binds (ps := ["_law_d", "_law_row"]) fun _ _ _ _ _ _ us hl => match us, hl with | [_, _], _ => rfl,
    a_l_sets := _, d_l_sets := _, F_l_sets := F14, g_l_sets := PySem.W.mg_of X G a14,
    b_l_sets := F14.binds (ps := ["_law_d"]) fun _ _ _ _ _ _ us hl => match us, hl with | [_], _ => rfl,
    a_l_tape := _, d_l_tape := _, F_l_tape := F15, g_l_tape := PySem.W.mg_of X G a15,
    b_l_tape := F15.binds (ps := ["_law_d", "_law_sets_here", "_law_most"]) fun _ _ _ _ _ _ us hl => match us, hl with | [_, _, _], _ => rfl,
    a_l_gone := _, d_l_gone := _, F_l_gone := F16, g_l_gone := PySem.W.mg_of X G a16,
    b_l_gone := F16.binds (ps := ["_law_sets_here", "_law_tape_here", "_law_state"]) fun _ _ _ _ _ _ us hl => match us, hl with | [_, _, _], _ => rfl,
    a_law := _, d_law := _, F_law := F17, g_law := PySem.W.mg_of X G a17,
    b_law := F17.binds (ps := ["_law_script"]) fun _ _ _ _ _ _ us hl => match us, hl with | [_], _ => rfl,
    m_ValueError := PySem.W.mg_none_of X G z0,
    m_abs := PySem.W.mg_none_of X G z1,
    m_all := PySem.W.mg_none_of X G z2,
    m_bool := PySem.W.mg_none_of X G z3,
    m_enumerate := PySem.W.mg_none_of X G z4,
    m_int := PySem.W.mg_none_of X G z5,
    m_isinstance := PySem.W.mg_none_of X G z6,
    m_len := PySem.W.mg_none_of X G z7,
    m_list := PySem.W.mg_none_of X G z8,
    m_range := PySem.W.mg_none_of X G z9,
    m_set := PySem.W.mg_none_of X G z10,
    m_str := PySem.W.mg_none_of X G z11,
    m_tuple := PySem.W.mg_none_of X G z12,
    t_MOST_SIGNS := _, c_MOST_SIGNS := PySem.W.mg_of X G q0,
    t_MOST_CODES := _, c_MOST_CODES := PySem.W.mg_of X G q1 }
  exact ⟨_, fun s v => .of_eq rfl, fun base _ _ => ok_law T⟩
end Sh
open PySem PySem.W PyProof.Rows
set_option maxHeartbeats 0 in
theorem PySem.Challenge.cw_shiftrow_k09_whole_cut_and_joined_holds : PySem.Challenge.rw_shiftrow_k09_whole_cut_and_joined.Holds := by
  w_on; o_law; k_head; (case hw => w_witness2)
  k_fill
  refine L2.walk_of (l := PySem.Challenge.rw_shiftrow_k09_whole_cut_and_joined) (n := 63) (k := 6) (x := "_law_script") (CX := fun _ => L2.CX0) (sp := fun w => Sh.spLaw _) rfl (by decide) rfl ⟨rfl, by decide, by decide⟩ (fun w h Y => PySem.W.kIn_of Y) ?F (fun _ _ a ns hl _ hS => ⟨a, ns, rfl, hS, hl, fun _ => rfl⟩) (fun _ _ _ _ _ h => h)
  case F =>
    intro w mg fa h KX G hmg
    refine' Sh.all_mk KX G hmg ?a0 ?l0 ?c0 ?k0 ?a1 ?l1 ?c1 ?k1 ?a2 ?l2 ?c2 ?k2 ?a3 ?l3 ?c3 ?k3 ?a4 ?l4 ?c4 ?k4 ?a5 ?l5 ?c5 ?k5 ?a6 ?l6 ?c6 ?k6 ?a7 ?l7 ?c7 ?k7 ?a8 ?l8 ?c8 ?k8 ?a9 ?l9 ?c9 ?k9 ?a10 ?l10 ?c10 ?k10 ?a11 ?l11 ?c11 ?k11 ?a12 ?l12 ?c12 ?k12 ?a13 ?l13 ?c13 ?k13 ?a14 ?l14 ?c14 ?k14 ?a15 ?l15 ?c15 ?k15 ?a16 ?l16 ?c16 ?k16 ?a17 ?l17 ?c17 ?k17 ?z0 ?z1 ?z2 ?z3 ?z4 ?z5 ?z6 ?z7 ?z8 ?z9 ?z10 ?z11 ?z12 ?q0 ?q1
    (case a0 => k_is); (case l0 => k_is); (case c0 => k_is); (case k0 => k_is); (case a1 => k_is); (case l1 => k_is); (case c1 => k_is); (case k1 => k_is); (case a2 => k_is); (case l2 => k_is); (case c2 => k_is); (case k2 => k_is); (case a3 => k_is); (case l3 => k_is); (case c3 => k_is); (case k3 => k_is); (case a4 => k_is); (case l4 => k_is); (case c4 => k_is); (case k4 => k_is); (case a5 => k_is); (case l5 => k_is); (case c5 => k_is); (case k5 => k_is); (case a6 => k_is); (case l6 => k_is); (case c6 => k_is); (case k6 => k_is); (case a7 => k_is); (case l7 => k_is); (case c7 => k_is); (case k7 => k_is); (case a8 => k_is); (case l8 => k_is); (case c8 => k_is); (case k8 => k_is); (case a9 => k_is); (case l9 => k_is); (case c9 => k_is); (case k9 => k_is); (case a10 => k_is); (case l10 => k_is); (case c10 => k_is); (case k10 => k_is); (case a11 => k_is); (case l11 => k_is); (case c11 => k_is); (case k11 => k_is); (case a12 => k_is); (case l12 => k_is); (case c12 => k_is); (case k12 => k_is); (case a13 => k_is); (case l13 => k_is); (case c13 => k_is); (case k13 => k_is); (case a14 => k_is); (case l14 => k_is); (case c14 => k_is); (case k14 => k_is); (case a15 => k_is); (case l15 => k_is); (case c15 => k_is); (case k15 => k_is); (case a16 => k_is); (case l16 => k_is); (case c16 => k_is); (case k16 => k_is); (case a17 => k_is); (case l17 => k_is); (case c17 => k_is); (case k17 => k_is); (case z0 => k_is); (case z1 => k_is); (case z2 => k_is); (case z3 => k_is); (case z4 => k_is); (case z5 => k_is); (case z6 => k_is); (case z7 => k_is); (case z8 => k_is); (case z9 => k_is); (case z10 => k_is); (case z11 => k_is); (case z12 => k_is); (case q0 => k_is); (case q1 => k_is)

