import PyProof.Rows.All
import Wide.All
import OpenK.AllK
import Wide.FinOn
import HandS.ForMost
import HandS.IsInst
import HandS.Codes
import PyProof.ListStr
import PyProof.EqAt
import PyProof.P3Eq
import HandS.Strs
import HandS.Walk
import PyProof.Rows.SetFrom
import PyProof.StrWalks
import PyProof.MaxThree
import KE.DatumOrd
import HandS.RevTup
import HandS.Iter
import HandS.DictComp
import KE.KDictDisplayH
import PyProof.DictTable
import HandS.Replace
import PyProof.StrLawsFirst
import HandS.Words
import HandS.Style
import KE.GoesMore
import PyProof.EnumMake
import PyProof.Draws
import HandS.Conv
import HandS.SortInts
import PySem.Challenge.RW_shiftrow_k06_whole_guarded
set_option Elab.async false
set_option linter.all false
set_option maxRecDepth 100000
set_option maxHeartbeats 4000000
namespace Sh
open PySem PySem.Spec PyProof.Rows L2
open SX (S S_inj S_len S_cat S_beq_eq)


/-! ### lists of values -/
abbrev Ints (ns : List Int) : List V := ns.map V.int
def sg (c : Nat) : V := .str (S [c])
abbrev Sgs (cs : List Nat) : List V := cs.map sg

/-! ### heaps -/
/-- all but d stands -/
def Keep (d : Addr) (H H' : Hp) : Prop := ∀ b o, b ≠ d → H b = some o → H' b = some o
theorem Keep.refl (d : Addr) (H : Hp) : Keep d H H := fun _ _ _ h => h
theorem Keep.trans {d : Addr} {H H1 H2 : Hp} (a : Keep d H H1) (b : Keep d H1 H2) : Keep d H H2 := fun x o n h => b x o n (a x o n h)
theorem Keep.same {d : Addr} {H H1 : Hp} (a : Same H H1) : Keep d H H1 := fun x o _ h => a x o h
theorem Keep.upd {d : Addr} {H : Hp} {o : HO} : Keep d H (upd H d o) := fun x u n h => by
  rw [upd_ne n]
  exact h
theorem Same.new {H : Hp} {p : Addr} {o : HO} (h : H p = none) : Same H (upd H p o) := fun b x e => by
  rw [upd_ne (ne_of_none e h)]
  exact e
/-- what was not known ahead may change -/
theorem Same.mut {H H' : Hp} {p : Addr} {o : HO} (e : Same H H') (h : H p = none) : Same H (L2.upd H' p o) := fun a u ha => by
  rw [upd_ne (ne_of_none ha h)]
  exact e a u ha
theorem Keep.mut {d : Addr} {H H' : Hp} {p : Addr} {o : HO} (e : Keep d H H') (h : H p = none) : Keep d H (L2.upd H' p o) := fun a u n ha => by
  rw [upd_ne (ne_of_none ha h)]
  exact e a u n ha
theorem Keep.free {d : Addr} {H H' : Hp} (e : Keep d H H') {o : HO} (hd : H' d = some o) {l : Addr} (h : H' l = none) : H l = none := by
  cases q : H l with
  | none => rfl
  | some u =>
    by_cases n : l = d
    · subst n
      rw [hd] at h
      cases h
    · rw [e l u n q] at h
      cases h
theorem upd_self {H : Hp} {p : Addr} {o : HO} (h : H p = some o) : L2.upd H p o = H := by
  funext b
  by_cases e : b = p
  · subst e
    rw [upd_same, h]
  · rw [upd_ne e]
theorem Same.at {H H' : Hp} (e : Same H H') {p : Addr} {o : HO} (h : H p = some o) : H' p = some o := e p o h

theorem small_le {n : Nat} (h : n ≤ 1000) : n ≤ sizeLine := Nat.le_of_lt (small1000 h)
theorem ixn {n j : Nat} (h : j < n) : ixN n (j : Int) = some j := by
  unfold ixN
  rw [if_pos (by omega), if_pos (by omega)]
  simp
/-! ### the dice -/
def Dice (ds : List Int) : Prop := ∃ f r bs, ds = f :: r :: bs ∧ 0 ≤ f ∧ f < 2147483647 ∧ 0 ≤ r ∧ (∀ b ∈ bs, 0 ≤ b) ∧ bs.length ≤ 63

/-! ### list of a text -/
theorem vals_of : ∀ {xs : List V} {us : List Value}, xs.length = us.length → (∀ (j : Nat) x u, xs[j]? = some x → us[j]? = some u → RelV x u) → Vals xs us
  | [], [], _, _ => .nil
  | [], _ :: _, h, _ => by simp at h
  | _ :: _, [], h, _ => by simp at h
  | x :: xs, u :: us, h, k => .cons (k 0 x u rfl rfl) (vals_of (by simpa using h) fun j x' u' h1 h2 => k (j + 1) x' u' (by simpa using h1) (by simpa using h2))
section
variable {X : Cx}
theorem vals_signs {x : Str} {its : Array Value} (h : ItemsOf (SignAt x) its x.cps.size) : Vals (Sgs x.cps.toList) its.toList := by
  refine vals_of ?_ fun j y u h1 h2 => ?_
  · simp [h.1]
  · obtain ⟨c, t, e1, e2⟩ := h.2 j u (by simpa using h2)
    rw [List.getElem?_map, Array.getElem?_toList, e1] at h1
    cases h1
    exact ⟨t, e2⟩
/-- list(text) -/
theorem call_list_text (hc : X.calm = true) : CallR X (.type "list") (fun xs H Q => ∃ cs : List Nat, xs = [.str (S cs)] ∧ cs.length ≤ sizeLine ∧ ∀ l, H l = none → Q (.ref l) (upd H l (.lst (Sgs cs)))) := by
  intro pins s σ H xs us Q I r h
  obtain ⟨cs, rfl, hz, q⟩ := h
  obtain ⟨u, rfl, rx⟩ := vals1 r
  obtain ⟨t, rfl⟩ := rx
  refine call_list_str (I.ok.hd hc) (S cs) t (fun h' tk acc' c' kp e its => ?_) (by simpa using hz)
  have v := vals_signs its
  exact ⟨.ref s.heap.objs.size, _, I.laid (t' := tk) kp (Nat.le_refl _) (show ObjOk X.prog X.w _ h' _ (.lst (Sgs cs)) from ⟨by simpa using hz, acc'.toList, c', by simpa using v, by simpa using e⟩), rfl, q _ (I.hok.fresh (Nat.le_refl _))⟩
end

/-! ### tables of signs -/
/-- two sets of signs -/
structure Sets (one two : List Nat) : Prop where
  pos : 1 ≤ one.length
  top : one.length ≤ 10
  same : two.length = one.length
  nd1 : one.Nodup
  nd2 : two.Nodup
  pl1 : ∀ c ∈ one, c < 127
  pl2 : ∀ c ∈ two, c < 127
/-- a tape over sets of n signs -/
def Tape (n : Nat) (tp : List Int) : Prop := tp.length ≤ 200 ∧ ∀ c ∈ tp, 0 ≤ c ∧ c < (n : Int) + 2
/-- the sign of a code in a state -/
def sgn (one two : List Nat) (st c : Int) : Nat := (if st = 0 then one else two).getD c.toNat 0
/-- what is read, the state behind -/
def rdT (one two : List Nat) : Int → List Int → List Nat
  | _, [] => []
  | st, c :: r => if c < (one.length : Int) then sgn one two st c :: rdT one two st r else rdT one two (c - one.length) r
def rdS (one : List Nat) : Int → List Int → Int
  | st, [] => st
  | st, c :: r => if c < (one.length : Int) then rdS one st r else rdS one (c - one.length) r
/-- the sets as an object -/
def SetsAt (H : Hp) (a : Addr) (one two : List Nat) : Prop := H a = some (.tup [.str (S one), .str (S two)])


/-! ### data, for == and != -/
def flatD : PyData → Bool
  | .none => true
  | .bool _ => true
  | .int _ => true
  | .str x => PyData.strOk x
  | _ => false
theorem flat_lay : ∀ {ds : List PyData}, ds.all flatD = true → PyData.canLayAll0 ds = true ∧ PyData.depthAll ds = 0
  | [], _ => ⟨by simp [PyData.canLayAll0], by simp [PyData.depthAll]⟩
  | d :: ds, h => by
    rw [List.all_cons, Bool.and_eq_true] at h
    obtain ⟨h1, h2⟩ := flat_lay h.2
    have h0 := h.1
    cases d <;> simp [flatD, PyData.canLayAll0, PyData.depthAll, PyData.canLay0, PyData.depth, h1, h2] at h0 ⊢ <;> exact h0
theorem shaped_list {ds : List PyData} (h : ds.all flatD = true) : SeqAt.shaped (.list ds) = true := by
  obtain ⟨h1, h2⟩ := flat_lay h
  simp [SeqAt.shaped, PyData.canLay0, PyData.depth, h1, h2]
theorem shaped_tuple {ds : List PyData} (h : ds.all flatD = true) : SeqAt.shaped (.tuple ds) = true := by
  obtain ⟨h1, h2⟩ := flat_lay h
  simp [SeqAt.shaped, PyData.canLay0, PyData.depth, h1, h2]
abbrev dInts (ns : List Int) : PyData := .list (ns.map .int)
abbrev dSgs (cs : List Nat) : PyData := .list (cs.map fun c => .str (S [c]))
theorem flat_ints (ns : List Int) : (ns.map PyData.int).all flatD = true := by
  induction ns with
  | nil => rfl
  | cons n ns ih => simp [flatD, ih]
theorem shaped_ints (ns : List Int) : SeqAt.shaped (dInts ns) = true := shaped_list (flat_ints ns)
theorem flat_sgs {cs : List Nat} (h : ∀ c ∈ cs, c < 1114112) : (cs.map fun c => PyData.str (S [c])).all flatD = true := by
  induction cs with
  | nil => rfl
  | cons n ns ih =>
    have h1 := h n (by simp)
    have h2 := ih fun c hc => h c (by simp [hc])
    simp only [List.map_cons, List.all_cons, h2, Bool.and_true]
    simp [flatD, PyData.strOk, h1]
theorem shaped_sgs {cs : List Nat} (h : ∀ c ∈ cs, c < 1114112) : SeqAt.shaped (dSgs cs) = true := shaped_list (flat_sgs h)
theorem eqv_ints : ∀ xs ys : List Int, PyData.eqv (dInts xs) (dInts ys) = decide (xs = ys)
  | [], [] => by simp [PyData.eqv, PyData.eqvAll]
  | [], _ :: _ => by simp [PyData.eqv, PyData.eqvAll]
  | _ :: _, [] => by simp [PyData.eqv, PyData.eqvAll]
  | x :: xs, y :: ys => by
    have ih := eqv_ints xs ys
    simp only [PyData.eqv] at ih
    simp only [dInts, List.map_cons, PyData.eqv, PyData.eqvAll, ih]
    by_cases h : x = y <;> simp [h]
theorem eqv_nil (ds : List PyData) : PyData.eqv (.list ds) (.list []) = ds.isEmpty := by
  cases ds <;> simp [PyData.eqv, PyData.eqvAll]
theorem dp_ints {K : PySem.W.Frag} {H : Hp} (ns : List Int) : DpAll K H (Ints ns) (ns.map .int) := by
  induction ns with
  | nil => exact .nil
  | cons n ns ih => exact .cons (.int n) ih
theorem dp_sgs {K : PySem.W.Frag} {H : Hp} (cs : List Nat) : DpAll K H (Sgs cs) (cs.map fun c => .str (S [c])) := by
  induction cs with
  | nil => exact .nil
  | cons n ns ih => exact .cons (.str _) ih
theorem Dp.ints {K : PySem.W.Frag} {H : Hp} {a : Addr} {ns : List Int} (h : H a = some (.lst (Ints ns))) : Dp K H (.ref a) (dInts ns) := .lst (SqL.of h) (dp_ints ns)
theorem Dp.sgs {K : PySem.W.Frag} {H : Hp} {a : Addr} {cs : List Nat} (h : H a = some (.lst (Sgs cs))) : Dp K H (.ref a) (dSgs cs) := .lst (SqL.of h) (dp_sgs cs)
/-! ### lists of one-sign texts -/
theorem joinL_one : ∀ cs : List Nat, TL.joinL [] (cs.map fun c => [c]) = cs
  | [] => rfl
  | [c] => rfl
  | c :: d :: ds => by
    have ih := joinL_one (d :: ds)
    simp only [List.map_cons, TL.joinL] at ih ⊢
    rw [ih]
    rfl
theorem join_sgs (cs : List Nat) : Txt.join (S []) ((cs.map fun c => S [c])) = S cs := by
  have e : (cs.map fun c => S [c]) = (cs.map fun c => [c]).map S := by
    rw [List.map_map]
    rfl
  rw [e, SX.join_S, joinL_one]
theorem Sgs_eq (cs : List Nat) : Sgs cs = (cs.map fun c => S [c]).map V.str := by
  rw [List.map_map]
  rfl
theorem len_sgs (cs : List Nat) : ((cs.map fun c => S [c]).map (·.length)).sum = cs.length := by
  induction cs with
  | nil => rfl
  | cons c cs ih =>
    rw [List.map_cons, List.map_cons, List.sum_cons, ih, S_len, List.length_cons]
    simp
    omega


/-! ### reading -/
theorem rdS_snoc (one : List Nat) (c : Int) : ∀ (st : Int) (l : List Int), rdS one st (l ++ [c]) = if c < (one.length : Int) then rdS one st l else c - one.length
  | st, [] => by simp [rdS]
  | st, d :: l => by
    simp only [List.cons_append, rdS]
    split <;> exact rdS_snoc one c _ l
theorem rdT_snoc (one two : List Nat) (c : Int) : ∀ (st : Int) (l : List Int), rdT one two st (l ++ [c]) = rdT one two st l ++ (if c < (one.length : Int) then [sgn one two (rdS one st l) c] else [])
  | st, [] => by
    simp only [List.nil_append, rdT, rdS]
  | st, d :: l => by
    simp only [List.cons_append, rdT, rdS]
    split
    · rw [rdT_snoc one two c st l]
      rfl
    · rw [rdT_snoc one two c _ l]
theorem rdT_append (one two : List Nat) : ∀ (st : Int) (l m : List Int), rdT one two st (l ++ m) = rdT one two st l ++ rdT one two (rdS one st l) m
  | st, [], m => rfl
  | st, d :: l, m => by
    simp only [List.cons_append, rdT, rdS]
    split
    · rw [rdT_append one two st l m]
      rfl
    · rw [rdT_append one two _ l m]
theorem rdS_append (one : List Nat) : ∀ (st : Int) (l m : List Int), rdS one st (l ++ m) = rdS one (rdS one st l) m
  | st, [], m => rfl
  | st, d :: l, m => by
    simp only [List.cons_append, rdS]
    split <;> exact rdS_append one _ l m
def Bit (st : Int) : Prop := st = 0 ∨ st = 1
def Codes (n : Nat) (tp : List Int) : Prop := ∀ c ∈ tp, 0 ≤ c ∧ c < (n : Int) + 2
theorem rdS_bit {one : List Nat} : ∀ {st : Int} {l : List Int}, Bit st → Codes one.length l → Bit (rdS one st l)
  | st, [], h, _ => h
  | st, d :: l, h, hc => by
    have h1 := hc d (by simp)
    have h2 : Codes one.length l := fun c m => hc c (by simp [m])
    simp only [rdS]
    split
    · exact rdS_bit h h2
    · refine rdS_bit ?_ h2
      unfold Bit
      omega
theorem Codes.take {n : Nat} {tp : List Int} (h : Codes n tp) (i : Nat) : Codes n (tp.take i) := fun c m => h c (List.mem_of_mem_take m)
theorem Codes.drop {n : Nat} {tp : List Int} (h : Codes n tp) (i : Nat) : Codes n (tp.drop i) := fun c m => h c (List.mem_of_mem_drop m)
theorem Codes.append {n : Nat} {l m : List Int} (h : Codes n l) (k : Codes n m) : Codes n (l ++ m) := fun c hm => (List.mem_append.mp hm).elim (h c) (k c)
theorem rdT_len (one two : List Nat) : ∀ (st : Int) (l : List Int), (rdT one two st l).length ≤ l.length
  | _, [] => Nat.le_refl _
  | st, d :: l => by
    simp only [rdT]
    split
    · simpa using rdT_len one two st l
    · exact Nat.le_trans (rdT_len one two _ l) (by simp)
theorem take_snoc {α : Type} {l : List α} {i : Nat} {x : α} (h : l[i]? = some x) : l.take (i + 1) = l.take i ++ [x] := by
  rw [List.take_add_one, h]
  rfl
theorem at_two {a b : V} {st : Int} (h : Bit st) : atI [a, b] st = some (if st = 0 then a else b) := by
  rcases h with rfl | rfl
  · exact atI_nat (j := 0) rfl
  · exact atI_nat (j := 1) rfl
theorem at_sets {one two : List Nat} {st : Int} (h : Bit st) : atI [V.str (S one), V.str (S two)] st = some (.str (S (if st = 0 then one else two))) := by
  rw [at_two h]
  rcases h with rfl | rfl <;> rfl
theorem at_sign {l : List Nat} {c : Int} (h0 : 0 ≤ c) (h1 : c < (l.length : Int)) : atI (S l).cps.toList c = some (l.getD c.toNat 0) := by
  have e : c = ((c.toNat : Nat) : Int) := by omega
  have hl : c.toNat < l.length := by omega
  rw [e]
  refine atI_nat ?_
  simp only [SX.S]
  rw [Int.toNat_natCast, List.getD_eq_getElem?_getD, List.getElem?_eq_getElem hl]
  rfl
theorem Sets.pick {one two : List Nat} (h : Sets one two) (st : Int) : (if st = 0 then one else two).length = one.length := by
  split
  · rfl
  · exact h.same


/-! ### set(text): how many signs of a text are unlike -/
/-- the signs met, each once -/
def uniq (cs : List Nat) : List Nat := cs.foldl (fun l c => if l.contains c then l else l ++ [c]) []
theorem uniq_snoc (cs : List Nat) (c : Nat) : uniq (cs ++ [c]) = if (uniq cs).contains c then uniq cs else uniq cs ++ [c] := by
  unfold uniq
  rw [List.foldl_append]
  rfl
theorem text_no_set : isSubtype (.type "str") (.type "set") = pure false := (isSubtype_type _ _).trans (by kernel_rfl)
theorem text_no_frozenset : isSubtype (.type "str") (.type "frozenset") = pure false := (isSubtype_type _ _).trans (by kernel_rfl)
theorem one_inj {c d : Nat} : (S [c] = S [d]) ↔ c = d := ⟨fun e => by simpa using S_inj e, fun e => by rw [e]⟩
theorem one_beq {c d : Nat} : (S [c] == S [d]) = (c == d) := by
  rw [S_beq_eq]
  by_cases h : c = d <;> simp [h]

section
variable {prog : Program} {w : World} {A : Around} {R : Result → Shared → Prop} {I : Addr} {fp wr : List Addr} {G : Array GenState → Array GenState → Prop} {n : Nat} {P : Nat → Value → Prop} {St : Nat → Shared → Prop}
/-- which texts are met -/
def met (l : List Nat) (k : Str) : Bool := l.any fun c => S [c] == k
theorem uniq_len (cs : List Nat) : (uniq cs).length ≤ cs.length := by
  have h : ∀ (cs l : List Nat), (cs.foldl (fun l c => if l.contains c then l else l ++ [c]) l).length ≤ l.length + cs.length := by
    intro cs
    induction cs with
    | nil => intro l; exact Nat.le_refl _
    | cons c cs ih =>
      intro l
      rw [List.foldl_cons]
      refine Nat.le_trans (ih _) ?_
      rw [List.length_cons]
      split
      · omega
      · rw [List.length_append, List.length_singleton]
        omega
  simpa [uniq] using h cs []
theorem met_snoc (l : List Nat) (c : Nat) (k : Str) : met (if l.contains c then l else l ++ [c]) k = (met l k || decide (k = S [c])) := by
  unfold met
  split
  · rename_i h
    by_cases e : k = S [c]
    · subst e
      have : (l.any fun d => S [d] == S [c]) = true := by
        rw [List.any_eq_true]
        exact ⟨c, by simpa using h, by simp⟩
      rw [this]
      simp
    · simp [e]
  · rw [List.any_append]
    by_cases e : k = S [c]
    · subst e
      simp
    · have hb : (S [c] == k) = false := by simpa [beq_iff_eq] using (fun h' : S [c] = k => e h'.symm)
      simp [hb, e]
/-- the loop of set.update over the signs that are left: pre is what it has met -/
theorem signs_in (W : WalksS prog w A.in1 I fp wr G n P St) (p : Addr) (out : p ∉ fp) (cs : List Nat) (hn : cs.length = n) (room : n + 1 < scanBound)
    (sign : ∀ j u, P j u → ∃ c t, cs[j]? = some c ∧ u = .str (S [c]) t) : ∀ (r pre : List Nat) (s : Shared), pre ++ r = cs → St pre.length s →
      s.heap.SetOf (PySem.strKind prog w) p (met (uniq pre)) (uniq pre).length →
      (∀ z, Moved (p :: wr) G s z → z.heap.SetOf (PySem.strKind prog w) p (met (uniq cs)) (uniq cs).length → R (.ok (.ret .none)) z) →
      codeAny (model prog w) A (.builtin "set.update.loop" ⟨[.ref p, .ref I], []⟩) R s := by
  have pw : p ∉ wr := fun q => out (W.sub _ q)
  have up : ∀ c ∈ wr, c ∈ p :: wr := fun c q => List.mem_cons_of_mem _ q
  have stays : ∀ {s z : Shared} {F : Str → Bool} {m : Nat}, Moved wr G s z → s.heap.SetOf (PySem.strKind prog w) p F m → z.heap.SetOf (PySem.strKind prog w) p F m :=
    fun mv ⟨o, es, ep, tb, at_, more⟩ => ⟨o, es, ep, tb, mv.heap p _ pw at_, more⟩
  intro r
  induction r with
  | nil =>
    intro pre s e st so fin
    rw [List.append_nil] at e
    subst e
    refine codeAny_builtin F.entry_set_update_loop ((Around.under_plainId F.plain_set_update_loop _).symm ▸ ?_)
    refine wpAny_bind (m := pyNext (.ref I)) (W.done s _ _ (hn ▸ st) fun z mv => ?_)
    exact wpAny_pure (fin z (mv.mono up) (stays mv so))
  | cons c0 r ih =>
    intro pre s e st so fin
    have lt : pre.length < n := by
      rw [← hn, ← e, List.length_append, List.length_cons]
      omega
    refine codeAny_builtin F.entry_set_update_loop ((Around.under_plainId F.plain_set_update_loop _).symm ▸ ?_)
    refine wpAny_bind (m := pyNext (.ref I)) (W.item pre.length s _ _ lt st fun u z pu st2 mv => ?_)
    obtain ⟨c, t, hc, rfl⟩ := sign _ _ pu
    have ec : c = c0 := by
      rw [← e, List.getElem?_append_right (Nat.le_refl _), Nat.sub_self] at hc
      exact (Option.some.inj hc).symm
    subst ec
    have small := uniq_len pre
    have so1 := stays mv so
    show wpAny _ A.in1 (holding [Value.str (S [c]) t] (setAdd p (.str (S [c]) t)) >>= _) _ _ z
    refine wpAny_bind (wpAny_holding (wpAny_holding (wpAny_bind ((PySem.strKind prog w).pyHash (k := S [c]) (strKind_is _ _ _ _) ?_))))
    refine wpAny_setAddHashed_of (knd := PySem.strKind prog w) (s := { z with toks := z.toks + 1 }) (strKind_is _ _ _ _) rfl so1 (by omega) fun h2 but so2 => ?_
    have so3 : h2.SetOf (PySem.strKind prog w) p (met (uniq (pre ++ [c]))) (uniq (pre ++ [c])).length := by
      rw [uniq_snoc]
      refine SetOf_congr so2 (fun k => (met_snoc _ _ _).symm) ?_
      have e : met (uniq pre) (S [c]) = (uniq pre).contains c := by
        unfold met
        rw [Bool.eq_iff_iff, List.any_eq_true, List.contains_iff_mem]
        exact ⟨fun ⟨d, hd, q⟩ => one_inj.mp (beq_iff_eq.mp q) ▸ hd, fun q => ⟨c, q, beq_self_eq_true _⟩⟩
      rw [e]
      split <;> simp
    have far : ∀ b, b ≠ p → ∀ o, z.heap.get? b = some o → h2.get? b = some o := fun b ne o q => (but.2 b ne).trans q
    refine wpAny_pure ⟨plainId_quiet F.plain_set_update_loop _, ih (pre ++ [c]) _ (by rw [List.append_assoc]; exact e) ?_ so3 fun z2 mv2 so4 => ?_⟩
    · rw [List.length_append]
      exact W.frame _ z _ _ st2 (Nat.le_succ _) fun b q o g => far b (fun k => out (k ▸ q)) o g
    · exact fin z2 (Moved.trans W.gtrans ((mv.mono up).then_heap (Nat.le_succ _) fun b o q g => far b (fun k => q (k ▸ List.mem_cons_self)) o g) mv2) so4
end
section
variable {prog : Program} {w : World} {A : Around} {E : Value → Shared → Prop} {s : Shared}
/-- an empty set object -/
abbrev set0 (b : Bool) : Obj := { cls := .type "set", dict := none, data := .set #[] 0 (.fresh 0 0 b) }
/-- set.__init__ of a text -/
theorem init_text {cs : List Nat} {t : Tok} {b : Bool} {R : Result → Shared → Prop} (calm : A.handled = none) (room : cs.length + 1 < scanBound)
    (fin : ∀ (h2 : Heap) (k : Nat), h2.SetOf (PySem.strKind prog w) s.heap.objs.size (met (uniq cs)) (uniq cs).length →
      (∀ c o, c < s.heap.objs.size → s.heap.get? c = some o → h2.get? c = some o) → R (.ok (.ret .none)) { s with heap := h2, toks := k }) :
    wpAny (model prog w) A.in1 (Builtin.«set.__init__» ⟨[.ref s.heap.objs.size, .str (S cs) t], []⟩)
      (fun f z => match f with | .done r => R (.ok r) z | .again c => c.quiet = true ∧ codeAny (model prog w) A c R z) (fun e z => R (.error e) z) { s with heap := s.heap.push (set0 b) } := by
  have at0 : (s.heap.push (set0 b)).get? s.heap.objs.size = some (set0 b) := Heap.get?_push_size _ rfl
  have n1 := text_no_set
  have n2 := text_no_frozenset
  have n3 : (Value.type "str" == Value.type "dict") = false := by decide
  unfold Builtin.«set.__init__» noKeywords
  unfold Builtin.Frozenset.updateFrom
  generalize hP : pyIter = PI
  wp_walk
  subst hP
  refine wpAny_pyIter_str fun o St W st => wpAny_bind (wpAny_runValue ?_)
  have calm2 : A.in1.in1.handled = none := by simp [calm]
  have sz := Heap.size_push s.heap (set0 b)
  refine signs_in (W _ calm2).toS s.heap.objs.size (fun q => ?_) cs (by simp) room (fun j u ⟨c, k, e1, e2⟩ => ⟨c, k, by simpa using e1, e2⟩) cs [] { s with heap := (s.heap.push (set0 b)).push o } rfl st ?_ fun z mv so => ?_
  · have := List.mem_singleton.mp q
    rw [sz] at this
    exact absurd this (Nat.ne_of_lt (Nat.lt_succ_self _))
  · exact SetOf_congr ((setObjOf_fresh (knd := PySem.strKind prog w) b).setOf (Heap.get?_push_of_some o at0) (by unfold scanBound; omega)) (fun _ => rfl) rfl
  · have ez := Moved.eq_with mv
    rw [ez]
    refine wpAny_pure (wpAny_pure (fin z.heap z.toks so fun c o lt g => ?_))
    refine mv.heap c o (fun q => ?_) (Heap.get?_push_of_some _ (Heap.get?_push_of_some _ g))
    rcases List.mem_cons.mp q with q | q
    · exact absurd q (Nat.ne_of_lt lt)
    · have := List.mem_singleton.mp q
      rw [sz] at this
      exact absurd this (Nat.ne_of_lt (Nat.lt_succ_of_lt lt))
set_option maxHeartbeats 8000000 in
theorem call_set_text {cs : List Nat} {t : Tok} {Q : Value → Shared → Prop} (calm : A.handled = none) (room : cs.length + 1 < scanBound)
    (fin : ∀ (h2 : Heap) (k : Nat), h2.SetOf (PySem.strKind prog w) s.heap.objs.size (met (uniq cs)) (uniq cs).length →
      (∀ c o, c < s.heap.objs.size → s.heap.get? c = some o → h2.get? c = some o) → Q (.ref s.heap.objs.size) { s with heap := h2, toks := k }) :
    wpAny (model prog w) A (call (.type "set") [.str (S cs) t]) Q E s := by
  obtain ⟨c, tl, mro⟩ := F.called_set.mro
  have f1 := F.called_set.made
  have f2 := F.called_set.sub
  have f3 := F.called_set.notType
  have f4 := F.called_set.canCreate
  have f5 := PySem.F.typeCall_set_1 (.str (S cs) t)
  have f6 := F.called_set.init.lookup
  have f7 := F.called_set.init.bind (.ref s.heap.objs.size)
  refine wpAny_call (codeAny_of_tree (show wpAny _ _ (callAny (.type "set") _) _ _ _ from wpAny_pure ⟨Code.quiet_builtin _ (by decide +kernel), codeAny_builtin F.entry_type_call ?_⟩))
  rw [Around.under_plain (weight_type_call_type "set" [.str (S cs) t] []) rfl]
  repeat (any_goals (first | assumption | wp_step))
  refine codeAny_mono (code_set_new_1 (.str (S cs) t) (E := E) (Q₁ := fun v z => ∃ b : Bool, v = .ref s.heap.objs.size ∧ z = { s with heap := s.heap.push (set0 b) }) fun b => ⟨b, rfl, rfl⟩) fun r z hr => ?_
  match r, hr with
  | .error e, hr => exact hr
  | .ok (.ret v), hr =>
    obtain ⟨b, rfl, rfl⟩ := hr
    have ty : Shared.TypeIs { s with heap := s.heap.push (set0 b) } (.ref s.heap.objs.size) "set" := ⟨_, Heap.get?_push_size _ rfl, rfl⟩
    repeat (any_goals (first | assumption | wp_step))
    refine codeAny_mono (codeAny_call_builtin (R := wants (fun u z => u = .none ∧ ∃ h2 k, z = { s with heap := h2, toks := k } ∧ h2.SetOf (PySem.strKind prog w) s.heap.objs.size (met (uniq cs)) (uniq cs).length ∧
        (∀ c o, c < s.heap.objs.size → s.heap.get? c = some o → h2.get? c = some o)) E) F.called_set.init.plain F.entry_set_init
      (check_set_init_1 ty (init_text (by simpa using calm) room fun h2 k so kp => ⟨rfl, h2, k, rfl, so, kp⟩))) fun r z hr => ?_
    match r, hr with
    | .error e, hr => exact hr
    | .ok (.ret u), hr =>
      obtain ⟨rfl, h2, k, rfl, so, kp⟩ := hr
      repeat (any_goals (first | assumption | wp_step))
      exact fin _ _ so kp
end
section
variable {X : Cx}
def tLenSetTxt (ta : TE) : TE := fun σ H Q => ta σ H fun x H1 => ∃ cs : List Nat, x = .str (S cs) ∧ cs.length ≤ 1000 ∧ Q (.int (uniq cs).length) H1
theorem pe_lenSetTxt {a : Expr} {ta : TE} {p p2 q pos : Pos} (hc : X.calm = true) (hg : Gl X "len") (hm : X.mg "len" = none) (hg2 : Gl X "set") (hm2 : X.mg "set" = none) (ha : PE X a ta)
    (na : starEach [a] X.env = (false, eval a X.env) :: starEach [] X.env := by rfl) : PE X (.Call (.Name "len" p) [.Call (.Name "set" p2) [a] [] q] [] pos) (tLenSetTxt ta) := by
  refine ⟨fun pins s σ H Q I h => ?_⟩
  refine Call_ (ld_blt I hg hm boot_len (callWith_builtin1 (args_cons (Call_ (ld_blt I hg2 hm2 boot_set ?_)) rfl) rfl rfl))
  refine callWith_type1 (args_cons (thn (ha.run pins s σ H _ I h) fun v s1 ⟨x, H1, I1, r1, q1⟩ => args_nil ?_) na) na rfl
  obtain ⟨cs, rfl, hl, q1⟩ := q1
  obtain ⟨t, rfl⟩ := r1
  refine call_set_text (I1.ok.hd hc) (by unfold scanBound; omega) fun h2 k so kp => args_nil ?_
  have hu := uniq_len cs
  obtain ⟨o, es, ep, t, ho, hex, hd, _, _, _, hf, hn⟩ := so
  have I2 : Inv X pins σ H1 { s1 with heap := h2, toks := k } := I1.kept fun b o e => kp b o (Heap.lt_size e) e
  exact call_len_set ho hex hd hf (by rw [hn]; omega) ⟨.int (uniq cs).length, H1, I2.tok _, ⟨_, by rw [hn]⟩, q1⟩
end


theorem ints_at {ns : List Int} {i : Nat} {x : V} (h : (Ints ns)[i]? = some x) : ∃ c, ns[i]? = some c ∧ x = .int c := by
  rw [List.getElem?_map] at h
  obtain ⟨c, hc, rfl⟩ := Option.map_eq_some_iff.mp h
  exact ⟨c, hc, rfl⟩
theorem sgs_at {ns : List Nat} {i : Nat} {x : V} (h : (Sgs ns)[i]? = some x) : ∃ c, ns[i]? = some c ∧ x = sg c := by
  rw [List.getElem?_map] at h
  obtain ⟨c, hc, rfl⟩ := Option.map_eq_some_iff.mp h
  exact ⟨c, hc, rfl⟩
theorem ints_snoc (ns : List Int) (c : Int) : Ints (ns ++ [c]) = Ints ns ++ [.int c] := List.map_append
theorem sgs_snoc (cs : List Nat) (c : Nat) : Sgs (cs ++ [c]) = Sgs cs ++ [sg c] := List.map_append
theorem len_ints (ns : List Int) : (Ints ns).length = ns.length := List.length_map _
theorem len_sg (ns : List Nat) : (Sgs ns).length = ns.length := List.length_map _
/-! ### tests: both answers shown once -/
def tCutT (t : TT) : TT := fun σ H Q => ∃ P1 P2 : Hp → Prop, t σ H (fun b H1 => if b = true then P1 H1 else P2 H1) ∧ (∀ H1, P1 H1 → Q true H1) ∧ (∀ H1, P2 H1 → Q false H1)
theorem pt_cut {X : Cx} {c : Expr} {t : TT} (h : PT X c t) : PT X c (tCutT t) := by
  refine ⟨fun pins s σ H Q I ⟨P1, P2, h1, h2, h3⟩ => ?_⟩
  refine thn (h.run pins s σ H _ I h1) fun b s1 ⟨H1, I1, q⟩ => ?_
  cases b with
  | true => exact ⟨H1, I1, h2 H1 (by simpa using q)⟩
  | false => exact ⟨H1, I1, h3 H1 (by simpa using q)⟩
/-! ### slices -/
theorem cut_from {cs : List Nat} {i : Int} (h : 0 ≤ i) : cutS (S cs) (some i) none = S (cs.drop i.toNat) := by
  rw [C8.cutS_slice]
  exact SX.slice_from h
theorem cut_to {cs : List Nat} {i : Int} (h : 0 ≤ i) : cutS (S cs) none (some i) = S (cs.take i.toNat) := by
  rw [C8.cutS_slice]
  exact SX.slice_to h
theorem cutV_to {xs : List V} {i : Int} (h : 0 ≤ i) : cutV xs none (some i) = xs.take i.toNat := by
  have e : i = ((i.toNat : Nat) : Int) := by omega
  unfold cutV
  rw [HT.sIx_none]
  conv => lhs; rw [e]
  rw [HT.sIx_nat, List.drop_zero, Nat.sub_zero]
  by_cases hl : i.toNat ≤ xs.length
  · rw [Nat.min_eq_left hl]
  · rw [Nat.min_eq_right (by omega), List.take_of_length_le (Nat.le_refl _), List.take_of_length_le (by omega)]
theorem cutV_from {xs : List V} {i : Int} (h : 0 ≤ i) : cutV xs (some i) none = xs.drop i.toNat := by
  have e : i = ((i.toNat : Nat) : Int) := by omega
  unfold cutV
  rw [HT.sIx_none]
  conv => lhs; rw [e]
  rw [HT.sIx_nat]
  by_cases hl : i.toNat ≤ xs.length
  · rw [Nat.min_eq_left hl, List.take_of_length_le (by rw [List.length_drop]; omega)]
  · rw [Nat.min_eq_right (by omega), List.drop_eq_nil_of_le (Nat.le_refl _), List.drop_eq_nil_of_le (by omega), List.take_nil]
/-! ### counting -/
theorem nodup_le : ∀ {l m : List Nat}, l.Nodup → (∀ c ∈ l, c ∈ m) → l.length ≤ m.length
  | [], _, _, _ => Nat.zero_le _
  | x :: l, m, hn, hs => by
    obtain ⟨h1, h2⟩ := List.nodup_cons.mp hn
    have hx : x ∈ m := hs x (by simp)
    have := nodup_le (m := m.erase x) h2 fun c hc => by
      have hne : c ≠ x := fun e => h1 (e ▸ hc)
      exact (List.mem_erase_of_ne hne).mpr (hs c (by simp [hc]))
    rw [List.length_erase_of_mem hx] at this
    have := List.length_pos_of_mem hx
    rw [List.length_cons]
    omega
/-- signs of a list that stand in no other -/
def off2 (l m : List Nat) : List Nat := l.filter fun c => !decide (c ∈ m)
theorem off2_ne {l m : List Nat} (hn : l.Nodup) (h : m.length < l.length) : ∃ c r, off2 l m = c :: r ∧ c ∈ l ∧ c ∉ m := by
  cases e : off2 l m with
  | nil =>
    have := nodup_le hn fun c hc => by
      have h2 : c ∉ off2 l m := by
        rw [e]
        exact List.not_mem_nil
      unfold off2 at h2
      rw [List.mem_filter] at h2
      by_cases hm : c ∈ m
      · exact hm
      · exact absurd ⟨hc, by simp [hm]⟩ h2
    omega
  | cons c r =>
    have hm : c ∈ off2 l m := by
      rw [e]
      exact List.mem_cons_self
    unfold off2 at hm
    rw [List.mem_filter] at hm
    exact ⟨c, r, rfl, hm.1, by simpa using hm.2⟩
theorem off2_snoc (l m : List Nat) (c : Nat) : off2 (l ++ [c]) m = if c ∈ m then off2 l m else off2 l m ++ [c] := by
  unfold off2
  rw [List.filter_append]
  by_cases h : c ∈ m <;> simp [h]
/-! ### rules by the written part's name (for use within comprehensions) -/
section
variable {X : Cx}
def rLenQ (K : PySem.W.Frag) : List V → Hp → VK → Prop := fun xs H Q => ∃ p ys, xs = [.ref p] ∧ (SqL K H p ys ∨ SqT K H p ys) ∧ Q (.int ys.length) H
theorem call_lenQ : CallR X (.builtin "len") (rLenQ X.K) := call_len_seq
def rListQ (K : PySem.W.Frag) : List V → Hp → VK → Prop := fun xs H Q => ∃ p ys, xs = [.ref p] ∧ (SqL K H p ys ∨ SqT K H p ys) ∧ ∀ l, H l = none → Q (.ref l) (upd H l (.lst ys))
theorem call_listQ : CallR X (.type "list") (rListQ X.K) := call_list_of
end


theorem dec_sg (a b : Nat) : decide (V.str ⟨#[a]⟩ = V.str ⟨#[b]⟩) = decide (a = b) := by
  by_cases h : a = b
  · subst h
    simp
  · have h2 : ¬ V.str ⟨#[a]⟩ = V.str ⟨#[b]⟩ := fun z => h (by
      have e := congrArg (fun s : Str => s.cps.toList) (V.str.inj z)
      simpa using e)
    rw [decide_eq_false h, decide_eq_false h2]
theorem dec_int (a b : Int) : decide (V.int a = V.int b) = decide (a = b) := by
  by_cases h : a = b
  · subst h
    simp
  · have h2 : ¬ V.int a = V.int b := fun z => h (V.int.inj z)
    rw [decide_eq_false h, decide_eq_false h2]
theorem dec_str (a b : List Nat) : decide (V.str (S a) = V.str (S b)) = decide (a = b) := by
  by_cases h : a = b
  · subst h
    simp
  · have h2 : ¬ V.str (S a) = V.str (S b) := fun z => h (S_inj (V.str.inj z))
    rw [decide_eq_false h, decide_eq_false h2]
theorem ints_app (a b : List Int) : Ints (a ++ b) = Ints a ++ Ints b := List.map_append
theorem lay_ints (ns : List Int) : PyData.canLay0 (dInts ns) = true ∧ (dInts ns).depth = 1 := by
  obtain ⟨h1, h2⟩ := flat_lay (flat_ints ns)
  exact ⟨by simp [PyData.canLay0, h1], by simp [PyData.depth, h2]⟩
theorem lay_two (a b : List Int) : PyData.canLay0 (.list [dInts a, dInts b]) = true ∧ SeqAt.shaped (.list [dInts a, dInts b]) = true := by
  obtain ⟨h1, h2⟩ := flat_lay (flat_ints a)
  obtain ⟨h3, h4⟩ := flat_lay (flat_ints b)
  constructor
  · simp [PyData.canLay0, PyData.canLayAll0, h1, h3]
  · simp [SeqAt.shaped, PyData.canLay0, PyData.canLayAll0, PyData.depth, PyData.depthAll, h1, h2, h3, h4]
theorem rep_one (x : V) (b : Bool) : (List.replicate (if b = true then (1 : Int) else 0).toNat [x]).flatten = if b = true then [x] else [] := by
  cases b <;> rfl
theorem flat_all_ints (ns : List Int) : (Ints ns).all flatV = true := by
  induction ns with
  | nil => rfl
  | cons n ns ih =>
    show (V.int n :: Ints ns).all flatV = true
    rw [List.all_cons, ih]
    rfl
theorem idx_at {ns : List Int} {m : Int} (hm : m ∈ ns) : (Ints ns)[ns.idxOf m]? = some (.int m) := by
  have hlt : ns.idxOf m < ns.length := List.idxOf_lt_length_of_mem hm
  rw [List.getElem?_map, List.getElem?_eq_getElem hlt, List.getElem_idxOf hlt]
  rfl
theorem eqV_int (m : Int) : eqV (.int m) (.int m) = true := by simp [eqV]
theorem idx_no {ns : List Int} {m : Int} : ∀ (j : Nat) (z : V), j < ns.idxOf m → (Ints ns)[j]? = some z → eqV z (.int m) = false := by
  intro j z hj hz
  obtain ⟨c, hc, rfl⟩ := ints_at hz
  obtain ⟨h1, rfl⟩ := List.getElem?_eq_some_iff.mp hc
  have h3 := List.not_of_lt_findIdx (p := (· == m)) (xs := ns) (i := j) hj
  simpa [eqV] using h3
/-! ### values: all that follows shown once -/
def tCutE (t : TE) : TE := fun σ H Q => ∃ P1 : V → Hp → Prop, t σ H P1 ∧ ∀ v H1, P1 v H1 → Q v H1
theorem pe_cut {X : Cx} {c : Expr} {t : TE} (h : PE X c t) : PE X c (tCutE t) := by
  refine ⟨fun pins s σ H Q I ⟨P1, h1, h2⟩ => ?_⟩
  exact thn (h.run pins s σ H _ I h1) fun v s1 ⟨x, H1, I1, r, q⟩ => ⟨x, H1, I1, r, h2 _ H1 q⟩
theorem range_snoc (f : Nat → Int) (i : Nat) : Ints ((List.range (i + 1)).map f) = Ints ((List.range i).map f) ++ [.int (f i)] := by
  rw [List.range_succ, List.map_append]
  exact List.map_append
def mxL (ns : List Int) : Int := ns.max?.getD 0
theorem mx_unique {ns : List Int} {m : Int} (h : m ∈ ns) (h2 : ∀ y ∈ ns, y ≤ m) : m = mxL ns := by
  have e : ns.max? = some m := List.max?_eq_some_iff.mpr ⟨h, h2⟩
  unfold mxL
  rw [e]
  rfl
theorem mx_mem {ns : List Int} (h : ns ≠ []) : mxL ns ∈ ns ∧ ∀ y ∈ ns, y ≤ mxL ns := by
  cases e : ns.max? with
  | none =>
    rw [List.max?_eq_none_iff] at e
    exact absurd e h
  | some m =>
    have e2 : mxL ns = m := by
      unfold mxL
      rw [e]
      rfl
    rw [e2]
    exact List.max?_eq_some_iff.mp e


/-! ### min of four numbers -/
section
open PySem PySem.Spec PyProof.Rows
variable {prog : Program} {w : World} {A : Around} {E : Value → Shared → Prop} {s : Shared}
theorem argsMin4 (a b c d : Value) : argsOk "min" ⟨[a, b, c, d], []⟩ := by
  unfold argsOk
  kernel_rfl
theorem argBest_step (f : Nat → Int) (k : Nat) : f (argBest (fun i j => decide (f i < f j)) (k + 1)) = min (f (argBest (fun i j => decide (f i < f j)) k)) (f (k + 1)) := by
  rw [argBest]
  generalize argBest (fun i j => decide (f i < f j)) k = m
  by_cases h : f (k + 1) < f m
  · rw [if_pos (decide_eq_true h)]
    omega
  · rw [if_neg (by simpa using h)]
    omega
theorem argBest_min4 (f : Nat → Int) : f (argBest (fun i j => decide (f i < f j)) 3) = min (min (min (f 0) (f 1)) (f 2)) (f 3) := by
  have e3 : f (argBest (fun i j => decide (f i < f j)) 3) = _ := argBest_step f 2
  have e2 : f (argBest (fun i j => decide (f i < f j)) 2) = _ := argBest_step f 1
  have e1 : f (argBest (fun i j => decide (f i < f j)) 1) = _ := argBest_step f 0
  have e0 : f (argBest (fun i j => decide (f i < f j)) 0) = f 0 := rfl
  rw [e3, e2, e1, e0]
/-- min(a, b, c, d) of numbers -/
theorem min_of_four {a b c d : Int} {ta tb tc td : Tok} {Q : Value → Shared → Prop} (hh : A.handled = none)
    (h : ∀ h' tk v, (∃ t, v = .int (min (min (min a b) c) d) t) → (∀ x o, s.heap.get? x = some o → h'.get? x = some o) → Q v { s with heap := h', toks := tk }) :
    wpAny (model prog w) A (call (.builtin "min") [.int a ta, .int b tb, .int c tc, .int d td]) Q E s := by
  generalize hN : (#[(a, ta), (b, tb), (c, tc), (d, td)] : Array (Int × Tok)) = N
  have hI : intItems N = #[Value.int a ta, .int b tb, .int c tc, .int d td] := by
    subst hN
    simp [intItems]
  have hsz4 : (intItems N).size - 1 = 3 := by
    rw [hI]
    rfl
  generalize hnew : s.heap.push { cls := .type "tuple", data := .seq #[Value.int a ta, .int b tb, .int c tc, .int d td] } = H1
  have z1 : H1.objs.size = s.heap.objs.size + 1 := by
    subst hnew
    exact Heap.size_push ..
  have T1 : H1.IsTuple s.heap.objs.size (intItems N) := by
    rw [hI]
    subst hnew
    exact ⟨_, Heap.get?_push_size _ rfl, rfl, 0, rfl⟩
  have K1 : ∀ x o, s.heap.get? x = some o → H1.get? x = some o := fun x o e => by
    subst hnew
    exact Heap.get?_push_of_some _ e
  have hlt : s.heap.objs.size < H1.objs.size := by omega
  refine call_function_tree F.kind_min F.plain_min F.entry_min (argsMin4 _ _ _ _) ?_
  refine wpAny_bind (wpAny_of_eq (a := [none, none]) rfl ?_)
  refine wpAny_bind (wpAny_newObj_type ?_)
  rw [hnew]
  refine wpAny_bind (wpAny_pyIter_tuple T1 ?_)
  have W := Walks.tuple (prog := prog) (w := w) (A := A.in1) hh H1.objs.size s.heap.objs.size (Nat.ne_of_lt hlt) (intItems N)
  refine wpAny_bind (wpAny_newObj_type ?_)
  -- the walk over the new tuple
  generalize hpush : Heap.push _ _ = H2
  have K2 : ∀ x o, H1.get? x = some o → H2.get? x = some o := fun x o e => by
    subst hpush
    exact Heap.get?_push_of_some _ e
  have z2 : H2.objs.size = H1.objs.size + 1 := by
    subst hpush
    exact Heap.size_push ..
  have I2 : H2.IsTupleIter H1.objs.size s.heap.objs.size 0 := by
    subst hpush
    exact ⟨_, Heap.get?_push_size _ rfl, rfl, rfl⟩
  generalize hpush3 : Heap.push H2 _ = H3
  have K3 : ∀ x o, H2.get? x = some o → H3.get? x = some o := fun x o e => by
    subst hpush3
    exact Heap.get?_push_of_some _ e
  have hnm : (toString "min" ++ toString ".loop" : String) = "min.loop" := by decide
  rw [hnm]
  have T2 : H2.IsTuple s.heap.objs.size (intItems N) := T1.at fun o e => K2 _ o e
  have I3 : H3.IsTupleIter H1.objs.size s.heap.objs.size 0 := I2.at fun o e => K3 _ o e
  have T3 : H3.IsTuple s.heap.objs.size (intItems N) := T2.at fun o e => K3 _ o e
  have S3 : H3.get? H2.objs.size = some { cls := .type "list", dict := none, data := .seq #[] 0, slots := #[] } := by
    subst hpush3
    exact Heap.get?_push_size _ rfl
  have hSfp : H2.objs.size ∉ [H1.objs.size, s.heap.objs.size] := by
    simp only [List.mem_cons, List.not_mem_nil, or_false]
    omega
  have hpos : 0 < (intItems N).size := by
    rw [hI]
    exact Nat.zero_lt_succ _
  refine wpAny_pure ⟨plainId_quiet F.plain_min_loop _, ?_⟩
  refine codeAny_min_loop_first (s := { s with heap := H3 }) W _ (CmpOf.ints_lt (numAt N) fun i v hv => intItems_at hv) H2.objs.size hSfp hpos ⟨I3, T3⟩ S3 fun v h' tk hv hk => ?_
  refine h h' tk v ?_ fun x o e => ?_
  · obtain ⟨t, et⟩ := intItems_at hv
    refine ⟨t, ?_⟩
    rw [et, hsz4, argBest_min4 (numAt N)]
    subst hN
    rfl
  · have lx := Heap.lt_size e
    refine hk x o (fun m => ?_) (fun m => ?_) (K3 x o (K2 x o (K1 x o e)))
    · rw [List.mem_singleton] at m
      rw [m] at lx
      exact Nat.lt_irrefl _ (Nat.lt_trans lx hlt)
    · rw [m] at lx
      have l2 : s.heap.objs.size < H2.objs.size := by omega
      exact Nat.lt_irrefl _ (Nat.lt_trans lx l2)
end
section
variable {X : Cx}
theorem call_min4 (hc : X.calm = true) : CallR X (.builtin "min") (fun xs H Q => ∃ a b c d, xs = [.int a, .int b, .int c, .int d] ∧ Q (.int (min (min (min a b) c) d)) H) := by
  intro pins s σ H xs us Q I r h
  obtain ⟨a, b, c, d, rfl, q⟩ := h
  rcases r with _ | ⟨r1, r⟩
  rcases r with _ | ⟨r2, r⟩
  rcases r with _ | ⟨r3, r⟩
  rcases r with _ | ⟨r4, r⟩
  rcases r
  obtain ⟨ta, rfl⟩ := r1
  obtain ⟨tb, rfl⟩ := r2
  obtain ⟨tc, rfl⟩ := r3
  obtain ⟨td, rfl⟩ := r4
  exact min_of_four (I.ok.hd hc) fun h' tk v hv k => ⟨.int _, H, I.kept k, hv, q⟩
end


/-! ### lists of numbers: which is less, the least of several -/
section
open PySem PySem.Spec PyProof.Rows
open PySem.W (DatumOrd listLt minOf lt_datum min_list_datum Holds HoldAll)
theorem listLt_eq : ∀ xs ys : List Int, listLt xs ys = HT.lexLt xs ys
  | [], [] => rfl
  | [], _ :: _ => rfl
  | _ :: _, [] => rfl
  | x :: xs, y :: ys => by
    simp only [listLt, HT.lexLt, listLt_eq xs ys]
    rfl
theorem toD_ints (ns : List Int) : (PySem.W.Datum.toD ns : PyData) = dInts ns := rfl
def rLtLI (K : PySem.W.Frag) : R2 := fun x y H Q => ∃ (a b : Addr) (ns ms : List Int), x = .ref a ∧ y = .ref b ∧ SqL K H a (Ints ns) ∧ SqL K H b (Ints ms) ∧ Q (.bl (HT.lexLt ns ms)) H
theorem op_ltLI {X : Cx} (hu : X.A.units + 64 < cLine) : OpR X (compareOp .Lt) (rLtLI X.K) := by
  intro pins s σ H x y v u Q I rx ry h
  obtain ⟨a, b, ns, ms, rfl, rfl, ha, hb, q⟩ := h
  obtain ⟨as, r1⟩ := Dp.reads I (dInts ns) _ _ (.lst ha (dp_ints ns)) rx
  obtain ⟨bs, r2⟩ := Dp.reads I (dInts ms) _ _ (.lst hb (dp_ints ms)) ry
  refine lt_datum (x := ns) (y := ms) ⟨as, r1⟩ ⟨bs, r2⟩ ?_ ⟨.bl _, H, I, rfl, ?_⟩
  · have : PySem.W.Datum.depth (List Int) = 1 := rfl
    omega
  · show Q (.bl (listLt ns ms)) H
    rw [listLt_eq]
    exact q
/-- the least of lists -/
def lexMin (x : List Int) (xs : List (List Int)) : List Int := xs.foldl (fun a y => if HT.lexLt y a = true then y else a) x
theorem minOf_eq (x : List Int) (xs : List (List Int)) : minOf x xs = lexMin x xs := by
  unfold minOf lexMin
  congr 1
  funext a y
  show (if listLt y a = true then y else a) = _
  rw [listLt_eq]
theorem holds_keep {h h' : Heap} {v : Value} {d : PyData} {as : List Addr} (k : ∀ b o, h.get? b = some o → h'.get? b = some o) (r : Reads h v d as) : Reads h' v d as := PySem.W.reads_keeps k r
def rMinLI (K : PySem.W.Frag) : List V → Hp → VK → Prop := fun vs H Q => ∃ (a : Addr) (ps : List Addr) (x : List Int) (xs : List (List Int)), vs = [.ref a] ∧ SqL K H a (ps.map V.ref) ∧ DpAll K H (ps.map V.ref) ((x :: xs).map dInts) ∧
  ∀ (j : Nat) (p : Addr), ps[j]? = some p → (x :: xs)[j]? = some (lexMin x xs) → Q (.ref p) H
theorem readsAll_pos {h : Heap} : ∀ {vs : List Value} {ds : List PyData} {as : List Addr}, ReadsAll h vs ds as → ∀ (i : Nat) (v : Value), vs[i]? = some v → ∃ d bs, ds[i]? = some d ∧ Reads h v d bs
  | _, _, _, .nil, _, _, hv => by simp at hv
  | _, _, _, .cons r rs, 0, v, hv => by
    simp only [List.getElem?_cons_zero, Option.some.injEq] at hv
    subst hv
    exact ⟨_, _, rfl, r⟩
  | _, _, _, .cons r rs, i + 1, v, hv => by
    obtain ⟨d, bs, e, r2⟩ := readsAll_pos rs i v (by simpa using hv)
    exact ⟨d, bs, by simpa using e, r2⟩
theorem vals_pos : ∀ {xs : List V} {us : List Value}, Vals xs us → ∀ (i : Nat) (u : Value), us[i]? = some u → ∃ x, xs[i]? = some x ∧ RelV x u
  | _, _, .nil, _, _, hv => by simp at hv
  | _, _, .cons r rs, 0, u, hv => by
    simp only [List.getElem?_cons_zero, Option.some.injEq] at hv
    subst hv
    exact ⟨_, rfl, r⟩
  | _, _, .cons r rs, i + 1, u, hv => by
    obtain ⟨x, e, r2⟩ := vals_pos rs i u (by simpa using hv)
    exact ⟨x, by simpa using e, r2⟩
theorem dInts_inj {a b : List Int} (h : dInts a = dInts b) : a = b := by
  have e : PyData.eqv (dInts a) (dInts b) = true := by
    rw [← h]
    exact SeqAt.eqv_refl _ (by simp [PyData.canLay0, (flat_lay (flat_ints a)).1])
  rw [eqv_ints] at e
  exact of_decide_eq_true e
theorem cr_minLI {X : Cx} (hc : X.calm = true) (hu : X.A.units + 64 < cLine) : CallR X (.builtin "min") (rMinLI X.K) := by
  intro pins s σ H vs us Q I r h
  obtain ⟨a, ps, x, xs, rfl, hS, hD, q⟩ := h
  rw [Vals.ref1 r]
  obtain ⟨its, rv, pl, _⟩ := I.list hS
  obtain ⟨as, ra⟩ := Dp.readsAll I _ _ _ hD rv
  refine min_list_datum (xs := xs) (x := x) (I.ok.hd hc) pl.isList ⟨as, ?_⟩ ?_ fun i v h' tk hi hv k => ?_
  · rw [List.toList_toArray]
    exact ra
  · have : PySem.W.Datum.depth (List Int) = 1 := rfl
    omega
  · have hi' : its[i]? = some v := by simpa using hi
    obtain ⟨y, e1, ry⟩ := vals_pos rv i v hi'
    obtain ⟨d, bs, e2, rd⟩ := readsAll_pos ra i v hi'
    rw [List.getElem?_map] at e1 e2
    obtain ⟨p, ep, rfl⟩ := Option.map_eq_some_iff.mp e1
    obtain ⟨m, em, rfl⟩ := Option.map_eq_some_iff.mp e2
    obtain ⟨cs, rc⟩ := hv
    have eq1 : dInts m = dInts (minOf x xs) := SeqAt.Reads.unique _ _ v _ _ (by simp [PyData.canLay0, (flat_lay (flat_ints m)).1]) (holds_keep k rd) rc
    have eq2 := dInts_inj eq1
    rw [minOf_eq] at eq2
    exact ⟨.ref p, H, I.kept k, ry, q i p ep (by rw [em, eq2])⟩
end


/-! ### for c in reversed(text) -/
section
open PySem PySem.Spec PyProof.Rows
theorem norevS : typeLookup (.type "str") "__reversed__" = pure none := by
  rw [typeLookup_type, builtinLookup_eq_fast]
  kernel_rfl
theorem getS : typeLookup (.type "str") "__getitem__" = pure (some (.builtin "str.__getitem__")) := by
  rw [typeLookup_type, builtinLookup_eq_fast]
  kernel_rfl
theorem subSD : isSubtype (.type "str") (.type "dict") = pure false := by
  rw [isSubtype_type]
  kernel_rfl
def rsObj (x : Str) (t : Tok) (i : Int) : Obj := { cls := .type "reversed", data := .fields #[.str x t, rawInt i] }
/-- a walk of a text from behind, its next place i -/
def IsRs (h : Heap) (a : Addr) (x : Str) (i : Int) : Prop := ∃ o t, h.get? a = some o ∧ o.cls = .type "reversed" ∧ o.data = .fields #[.str x t, rawInt i]
theorem IsRs.at {h h' : Heap} {a : Addr} {x : Str} {i : Int} (r : IsRs h a x i) (e : ∀ o, h.get? a = some o → h'.get? a = some o) : IsRs h' a x i :=
  let ⟨o, t, ho, q⟩ := r
  ⟨o, t, e _ ho, q⟩
variable {prog : Program} {w : World} {A : Around} {E : Value → Shared → Prop} {s : Shared}
theorem IsRs.ty {a : Addr} {x : Str} {i : Int} (r : IsRs s.heap a x i) : s.TypeIs (.ref a) "reversed" :=
  let ⟨o, _, ho, hc, _⟩ := r
  ⟨o, ho, hc⟩
theorem code_revS {x : Str} {t : Tok} {Q₁ : Value → Shared → Prop} (hlen : ¬ (x.length : Int) ≥ 2 ^ 63)
    (h : ∀ k, Q₁ (.ref s.heap.objs.size) { s with heap := s.heap.push (rsObj x t ((x.length : Int) - 1)), toks := k }) :
    codeAny (model prog w) A (.call (.builtin "reversed.__new__") ⟨[.type "reversed", .str x t], []⟩) (wants Q₁ E) s := by
  have hT := typeIs_str s x t
  refine codeAny_of_tree ?_
  refine wpAny_bind (wpAny_of_eq (F.newCall_reversed_1 _) (wpAny_pure ⟨plainId_quiet F.plain_reversed_new _, codeAny_builtin F.entry_reversed_new ?_⟩))
  rw [Around.under_plainId F.plain_reversed_new _]
  unfold Builtin.«reversed.__new__»
  refine wpAny_bind (wpAny_of_eq (newClass_reversed _) ?_)
  dsimp only
  refine wpAny_bind (wpAny_of_eq (a := ()) (by first | rfl | kernel_rfl) ?_)
  refine wpAny_bind (wpAny_of_eq (a := ()) (by first | rfl | kernel_rfl) ?_)
  try dsimp only
  refine wpAny_bind (wpAny_specialOf hT norevS ?_)
  try dsimp only
  refine wpAny_bind ?_
  wp_delta
  refine wpAny_bind (wpAny_isInstance (T := "str") (U := "dict") (b := false) hT subSD ?_)
  try dsimp only
  try rw [if_neg Bool.false_ne_true]
  try dsimp only
  refine wpAny_bind (wpAny_specialOf hT getS ?_)
  try dsimp only
  try rw [if_pos (by decide +kernel)]
  refine wpAny_pure ?_
  try dsimp only
  try rw [if_neg (by decide)]
  try dsimp only
  refine wpAny_bind (len_str hlen ?_)
  refine wpAny_bind (wpAny_of_eq (a := some ((x.length : Nat) : Int)) rfl ?_)
  try dsimp only
  refine wpAny_bind ?_
  show wpAny _ _ (newObj (.type "reversed") (.fields #[.str x t, rawInt ((x.length : Int) - 1)])) _ _ _
  exact wpAny_newObj_type (wpAny_pure (h _))
/-- reversed(text) -/
theorem call_revS {x : Str} {t : Tok} {Q : Value → Shared → Prop} (hlen : ¬ (x.length : Int) ≥ 2 ^ 63)
    (h : ∀ k, Q (.ref s.heap.objs.size) { s with heap := s.heap.push (rsObj x t ((x.length : Int) - 1)), toks := k }) : wpAny (model prog w) A (call (.type "reversed") [.str x t]) Q E s := by
  refine callType_codes (Q₁ := fun obj s₁ => s₁.TypeIs obj "reversed" ∧ Q obj s₁) RT.called_rt (F.typeCall_reversed_1 _) F.entry_object_init (code_revS (A := A.in1) hlen fun k => ⟨⟨_, Heap.get?_push_size _ rfl, rfl⟩, h k⟩) fun obj s₁ h₁ => ?_
  exact ⟨h₁.1, F.args_object_init_2 obj _, object_init_meets RT.called_rt.init.lookup RT.called_rt.made (by decide) prog w A.in1 _ s₁ ⟨h₁.1, rfl, h₁.2⟩⟩
/-- the next sign -/
theorem next_rs {it : Addr} {x : Str} {i c : Nat} {Q : Option Value → Shared → Prop} (hit : IsRs s.heap it x (i : Int)) (hc : x.cps[i]? = some c) (hsz : x.length ≤ sizeLine)
    (hQ : ∀ h' u k, IsRs h' it x ((i : Int) - 1) → Heap.SameBut it s.heap h' → Q (some (.str ⟨#[c]⟩ u)) { s with heap := h', toks := k }) : wpAny (model prog w) A (pyNext (.ref it)) Q E s := by
  obtain ⟨o, t, ho, hcl, hd⟩ := id hit
  have hi : i < x.length := (Array.getElem?_eq_some_iff.mp hc).1
  have hT := typeIs_str s x t
  rw [sizeLine_eq] at hsz
  unfold pyNext
  refine wpAny_bind (wpAny_attempt (wpAny_callSpecial?_slot (name := Str.ofString "__next__") hit.ty RT.slot_rt_next (wpAny_call_entry RT.slot_rt_next hit.ty RT.entry_rt_next ?_ (RT.args_rt_next _))))
  unfold Builtin.«reversed.__next__»
  refine wpAny_bind (wpAny_of_eq (a := (Value.ref it, [])) rfl ?_)
  try dsimp only
  refine wpAny_bind (wpAny_field ho hd (x := .str x t) rfl ?_)
  try dsimp only
  refine wpAny_bind (wpAny_field ho hd (x := rawInt (i : Int)) rfl ?_)
  show wpAny _ _ (if (i : Int) < 0 then _ else _) _ _ s
  rw [if_neg (by omega)]
  try dsimp only
  refine wpAny_bind (wpAny_specialOf hT getS ?_)
  try dsimp only
  try rw [if_neg (by decide)]
  try dsimp only
  refine wpAny_bind (wpAny_mkInt ?_)
  refine wpAny_bind (wpAny_attempt ?_)
  refine PyProof.Rows.getItem_str (c := c) (by
    have e1 : decide ((i : Int) < -(2 ^ 63 : Int)) = false := decide_eq_false (by omega)
    have e2 : decide ((i : Int) ≥ 2 ^ 63) = false := decide_eq_false (by omega)
    rw [e1, e2, Bool.or_false]) (by rw [seqIndex_of (by omega) (by omega)]; exact hc) ?_
  try dsimp only
  refine wpAny_bind (wpAny_field ho hd (x := rawInt (i : Int)) rfl ?_)
  try dsimp only
  refine wpAny_bind (wpAny_setField ho hd (by simp) ?_)
  refine wpAny_pure ⟨_, rfl, wpAny_pure (hQ _ _ _ ?_ (Heap.SameBut.update ..))⟩
  exact ⟨_, t, Heap.get?_update_self _ ho (Obj.isFreed_of_fields (Obj.data_mapFields hd _)), (Obj.cls_mapFields ..).trans hcl, by
    rw [Obj.data_mapFields hd]
    simp⟩
theorem end_rs {it : Addr} {x : Str} {Q : Option Value → Shared → Prop} (hh : A.handled = none) (hit : IsRs s.heap it x (-1))
    (hQ : ∀ h', Heap.ExtBut it s.heap h' → Q none { s with heap := h' }) : wpAny (model prog w) A (pyNext (.ref it)) Q E s := by
  obtain ⟨o, t, ho, hcl, hd⟩ := id hit
  unfold pyNext
  refine wpAny_bind (wpAny_attempt (wpAny_callSpecial?_slot (name := Str.ofString "__next__") hit.ty RT.slot_rt_next (wpAny_call_entry RT.slot_rt_next hit.ty RT.entry_rt_next ?_ (RT.args_rt_next _))))
  unfold Builtin.«reversed.__next__»
  refine wpAny_bind (wpAny_of_eq (a := (Value.ref it, [])) rfl ?_)
  try dsimp only
  refine wpAny_bind (wpAny_field ho hd (x := .str x t) rfl ?_)
  try dsimp only
  refine wpAny_bind (wpAny_field ho hd (x := rawInt (-1)) rfl ?_)
  show wpAny _ _ (if (-1 : Int) < 0 then _ else _) _ _ s
  rw [if_pos (by decide)]
  try dsimp only
  refine wpAny_bind (wpAny_rule ?_)
  refine wpAny_bind ?_
  wp_delta
  refine wpAny_bind (wpAny_setField ho hd (by simp) ?_)
  generalize hmf : Obj.mapFields (·.setIfInBounds 1 (rawInt (-1))) = mf
  have ho2 : (s.heap.update it mf).get? it = some (mf o) := by
    subst hmf
    exact Heap.get?_update_self _ ho (Obj.isFreed_of_fields (Obj.data_mapFields hd _))
  have hd2 : (mf o).data = .fields ((#[Value.str x t, rawInt (-1)] : Array Value).setIfInBounds 1 (rawInt (-1))) := by
    subst hmf
    exact Obj.data_mapFields hd _
  refine wpAny_setField (s := { s with heap := s.heap.update it mf }) ho2 hd2 (by simp) ?_
  try dsimp only
  refine wpAny_bind ?_
  refine wpAny_bind ?_
  simp only [newExc, newTuple]
  refine wpAny_bind (wpAny_newObj_type ?_ (by size_fits))
  refine wpAny_bind (m := firstArgMember _ _) (wpAny_of_eq (a := Value.none) (by first | rfl | (simp only [firstArgMember]; rfl)) ?_)
  refine wpAny_newObj_type ?_ (by size_fits)
  simp only [raiseNew]
  refine wpAny_bind (wpAny_handled ?_)
  rw [show A.in1.handled = none from hh]
  refine wpAny_bind (wpAny_pure (wpAny_throw ?_))
  refine wpAny_bind (wpAny_isInstance (T := "StopIteration") (b := true) ⟨_, Heap.get?_push_size _ rfl, rfl⟩ isSubtype_stop ?_)
  refine wpAny_pure (hQ _ ?_)
  refine ((?_ : Heap.ExtBut it s.heap _).push _).push _
  exact fun b ob hb e => (Heap.get?_update_other _ _ (Ne.symm hb)).trans ((Heap.get?_update_other _ _ (Ne.symm hb)).trans e)
theorem iter_rs {it : Addr} {x : Str} {i : Int} {Q : Value → Shared → Prop} (hit : IsRs s.heap it x i) (h : Q (.ref it) s) : wpAny (model prog w) A (pyIter (.ref it)) Q E s := by
  refine wpAny_pyIter_slot hit.ty RT.slot_rt_iter (wpAny_call_entry RT.slot_rt_iter hit.ty RT.entry_rt_iter ?_ (RT.args_rt_iter _))
  show wpAny _ _ (ret (.ref it)) _ _ s
  exact wpAny_pure ⟨_, rfl, "reversed", _, hit.ty, RT.slot_rt_next.lookup, h⟩
end
section
open PySem PySem.Spec PyProof.Rows
/-- the signs of a text, from the last one on -/
def ItrS (x : Str) : It := ⟨fun i _ => i < x.length, fun i H v H' => H' = H ∧ ∃ c, x.cps[x.length - 1 - i]? = some c ∧ v = .str ⟨#[c]⟩, fun i _ => x.length ≤ i⟩
theorem walk_revS {x : Str} : Walk (ItrS x) x.length (fun _ => True) (fun i H v H' => H' = H ∧ ∃ c, x.cps[x.length - 1 - i]? = some c ∧ v = .str ⟨#[c]⟩) :=
  ⟨fun _ _ hi _ => hi, fun _ _ => Nat.le_refl _, fun _ _ _ _ _ _ y => y⟩
theorem turn_rs {P : Program} {w : World} {K : PySem.W.Frag} {tg : Expr} (it : Addr) (x : Str) (hz : x.length ≤ sizeLine) : Turn P w K tg (ItrS x) [it] it (fun i h => i ≤ x.length ∧ IsRs h it x ((x.length : Int) - 1 - (i : Nat))) where
  mem := by simp
  obj := fun i h st b hb => by
    rw [List.mem_singleton.mp hb]
    obtain ⟨_, o, t, e, c, d⟩ := st
    exact ⟨o, e, fun v z => by rw [d] at z; cases z⟩
  keep := fun i h h' st k => ⟨st.1, st.2.at fun o e => k it (by simp) o e⟩
  item := by
    intro X hP hw hK hc i pins s σ H E I hf st hg
    subst hP hw hK
    obtain ⟨f0, f1, f2, f3, f4, f5⟩ := hf it (by simp)
    obtain ⟨_, hit⟩ := st
    have hg' : i < x.length := hg
    have e1 : (x.length : Int) - 1 - ((i : Nat) : Int) = ((x.length - 1 - i : Nat) : Int) := by omega
    rw [e1] at hit
    have hlt : x.length - 1 - i < x.cps.size := by
      show x.length - 1 - i < x.length
      omega
    refine next_rs hit (c := x.cps[x.length - 1 - i]) (Array.getElem?_eq_getElem hlt) hz fun h' u k st' sb => ?_
    have e2 : ((x.length - 1 - i : Nat) : Int) - 1 = (x.length : Int) - 1 - ((i + 1 : Nat) : Int) := by omega
    rw [e2] at st'
    have I1 : Inv X pins σ H { s with heap := h', toks := k } := I.turned (t' := k) (fun b o hb e => (sb.2 b hb).trans e) f0 f1 f3 f4 f5
    obtain ⟨o, t, e, c, d⟩ := id st'
    exact ⟨_, rfl, go_of (s := { s with heap := h', toks := k }) e c d (by decide) ⟨.str ⟨#[x.cps[x.length - 1 - i]]⟩, H, I1, ⟨u, rfl⟩, ⟨rfl, _, Array.getElem?_eq_getElem hlt, rfl⟩, ⟨hg', st'⟩, fun b hb => (hf b hb).1⟩⟩
  done := by
    intro X hP hw hK hc i pins s σ H E I hf st hg
    subst hP hw hK
    obtain ⟨f0, f1, f2, f3, f4, f5⟩ := hf it (by simp)
    obtain ⟨hin, hit⟩ := st
    have hge : x.length ≤ i := hg
    have e1 : (x.length : Int) - 1 - ((i : Nat) : Int) = -1 := by omega
    rw [e1] at hit
    exact end_rs (I.ok.hd hc) hit fun h' eb => ⟨rfl, I.turned (t' := s.toks) (fun b o hb e => eb b o hb e) f0 f1 f3 f4 f5⟩
  self := fun A i s Q E st h => iter_rs st.2 h
def iRevS (te : TE) : TI := fun σ H R => te σ H fun v H1 => ∃ x, v = .str x ∧ x.length ≤ sizeLine ∧ R (ItrS x) H1
theorem pi_revS {X : Cx} {tg e : Expr} {te : TE} {p pos : Pos} (hg : Gl X "reversed") (hm : X.mg "reversed" = none) (he : PE X e te) (hs : starEach [e] X.env = (false, eval e X.env) :: starEach [] X.env := by rfl) : PI X tg (.Call (.Name "reversed" p) [e] [] pos) (iRevS te) := by
  refine ⟨fun pins s σ H R I h => ?_⟩
  refine Call_ (ld_blt I hg hm PyProof.Rows.boot_reversed (PyProof.Rows.callWith_type1 (args_cons (thn (he.run pins s σ H _ I h) fun u s1 ⟨v, H1, I1, r1, q1⟩ => args_nil ?_) hs) hs rfl))
  obtain ⟨x, ev, hz, q⟩ := q1
  subst ev
  obtain ⟨t, rfl⟩ := r1
  have hn := line63
  refine call_revS (by omega) fun k => iter_rs (x := x) (i := (x.length : Int) - 1) ⟨_, t, Heap.get?_push_size _ rfl, rfl, rfl⟩ ?_
  refine pi_one (tk := k) I1 _ (turn_rs _ x hz) ⟨Nat.zero_le _, ?_⟩ q
  have e1 : (x.length : Int) - 1 - ((0 : Nat) : Int) = (x.length : Int) - 1 := by omega
  rw [e1]
  exact ⟨_, t, Heap.get?_push_size _ rfl, rfl, rfl⟩
end


/-! ### {(k, l): v for x in .. for y in ..}: a dict whose keys are tuples -/
section
open PySem PySem.Spec PyProof.Rows
/-- two clauses, no test -/
abbrev dcE (kx vx t0 i0 t1 i1 : Expr) (scope : Scope) (pos : Pos) : Expr := .DictComp kx vx [⟨t0, i0, [], 0⟩, ⟨t1, i1, [], 0⟩] scope pos
theorem dcOuter (kx vx t0 i0 t1 i1 : Expr) (scope : Scope) (pos : Pos) (it acc : Value) (env : Env) :
    compTurn (dcE kx vx t0 i0 t1 i1 scope pos) 0 it acc env = (do
      standAt i0.pos
      match ← pyNext it with
      | none => pure (.done .next)
      | some v =>
        letOwnedTupleGo t0 it v
        assign t0 env v
        let mut yes := true
        for c in ([] : List Expr) do
          if yes then yes ← isTrue c env (eval c env)
        if yes then
          let src ← eval i1 env
          standAt i1.pos
          let src ← foldedSetIterable i1 env src
          let _ ← runOwn (.compStart (dcE kx vx t0 i0 t1 i1 scope pos) 1 (← holding [src] (pyIter src)) acc env) env
        again (.compLoop (dcE kx vx t0 i0 t1 i1 scope pos) 0 it acc env)) := by rfl
theorem dcInner (kx vx t0 i0 t1 i1 : Expr) (scope : Scope) (pos : Pos) (it : Value) (D : Addr) (env : Env) :
    compTurn (dcE kx vx t0 i0 t1 i1 scope pos) 1 it (.ref D) env = (do
      standAt i1.pos
      match ← pyNext it with
      | none => pure (.done .next)
      | some v =>
        letOwnedTupleGo t1 it v
        assign t1 env v
        let mut yes := true
        for c in ([] : List Expr) do
          if yes then yes ← isTrue c env (eval c env)
        if yes then
          (do
            let a ← eval kx env
            let b ← holding [a] (eval vx env)
            standAt { kx.pos with endLine := vx.pos.endLine, endCol := vx.pos.endCol }
            holding [a, b] (dictSet D a b))
        again (.compLoop (dcE kx vx t0 i0 t1 i1 scope pos) 1 it (.ref D) env)) := by rfl
variable {prog : Program} {w : World} {A : Around} {R : Result → Shared → Prop} {s : Shared} {kx vx t0 i0 t1 i1 : Expr} {scope : Scope} {pos : Pos} {it acc : Value} {D : Addr} {env : Env}
/-- what is raised is noted where the block stands -/
abbrev nb (prog : Program) (w : World) (A : Around) (env : Env) (R : Result → Shared → Prop) : Value → Shared → Prop := notedBy (model prog w) A env fun e s' => R (.error e) s'
theorem dcOuter_loop (hs : ∀ x, foldedSetIterable i1 env x = pure x) (I : Nat → Shared → Prop)
    (turn : ∀ n s, I n s → wpAny (model prog w) A (pyNext it) (fun r s₁ => match r with
      | none => R (.ok .next) s₁
      | some v => wpAny (model prog w) A (letOwnedTupleGo t0 it v) (fun _ s₂ => wpAny (model prog w) A (assign t0 env v) (fun _ s₃ =>
          wpAny (model prog w) A (eval i1 env) (fun x s₄ => wpAny (model prog w) A (pyIter x) (fun it1 s₅ =>
            codeAny (model prog w) A (.compStart (dcE kx vx t0 i0 t1 i1 scope pos) 1 it1 acc env) (fun r s' => match r with
              | .ok _ => ∃ m, m < n ∧ I m s'
              | .error _ => False) s₅) (nb prog w A env R) s₄) (nb prog w A env R) s₃) (nb prog w A env R) s₂) (nb prog w A env R) s₁) (nb prog w A env R) s)
    (n : Nat) (h : I n s) : codeAny (model prog w) A (.compLoop (dcE kx vx t0 i0 t1 i1 scope pos) 0 it acc env) R s := by
  refine codeAny_loop rfl I (fun n s hI => ?_) n h
  show wpAny _ A ((compTurn (dcE kx vx t0 i0 t1 i1 scope pos) 0 it acc env).onRaise (fun x => do noteFrame x env; theTreesLotGoes x)) _ _ s
  refine wpAny_noted ?_
  rw [dcOuter]
  refine wpAny_bind (wpAny_standAt (wpAny_bind (wpAny_mono (turn n s hI) (fun r s₁ h₁ => ?_) fun _ _ z => z)))
  cases r with
  | none => exact wpAny_pure h₁
  | some v =>
    refine wpAny_bind (wpAny_mono h₁ (fun _ s₂ h₂ => ?_) fun _ _ z => z)
    refine wpAny_bind (wpAny_mono h₂ (fun _ s₃ h₃ => wpAny_bind (wpAny_tests_nil ?_)) fun _ _ z => z)
    refine wpAny_bind (wpAny_mono h₃ (fun x s₄ h₄ => ?_) fun _ _ z => z)
    refine wpAny_bind (wpAny_standAt (wpAny_bind (wpAny_of_eq (hs x) (wpAny_bind (wpAny_holding (wpAny_mono h₄ (fun it1 s₅ h₅ => ?_) fun _ _ z => z))))))
    refine wpAny_bind (wpAny_runOwn ?_)
    rw [Around.mark_none]
    refine codeAny_mono h₅ fun r s' hr => ?_
    cases r with
    | error e => exact hr.elim
    | ok f =>
      first
        | exact wpAny_pure ⟨rfl, hr⟩
        | exact wpAny_bind (wpAny_pure (wpAny_pure ⟨rfl, hr⟩))
theorem dcInner_loop (I : Nat → Shared → Prop)
    (turn : ∀ n s, I n s → wpAny (model prog w) A (pyNext it) (fun r s₁ => match r with
      | none => R (.ok .next) s₁
      | some v => wpAny (model prog w) A (letOwnedTupleGo t1 it v) (fun _ s₂ => wpAny (model prog w) A (assign t1 env v) (fun _ s₃ =>
          wpAny (model prog w) A (eval kx env) (fun a s₄ => wpAny (model prog w) A (eval vx env) (fun b s₅ =>
            wpAny (model prog w) A (dictSet D a b) (fun _ s₆ => ∃ m, m < n ∧ I m s₆) (nb prog w A env R) s₅) (nb prog w A env R) s₄) (nb prog w A env R) s₃) (nb prog w A env R) s₂) (nb prog w A env R) s₁) (nb prog w A env R) s)
    (n : Nat) (h : I n s) : codeAny (model prog w) A (.compLoop (dcE kx vx t0 i0 t1 i1 scope pos) 1 it (.ref D) env) R s := by
  refine codeAny_loop rfl I (fun n s hI => ?_) n h
  show wpAny _ A ((compTurn (dcE kx vx t0 i0 t1 i1 scope pos) 1 it (.ref D) env).onRaise (fun x => do noteFrame x env; theTreesLotGoes x)) _ _ s
  refine wpAny_noted ?_
  rw [dcInner]
  refine wpAny_bind (wpAny_standAt (wpAny_bind (wpAny_mono (turn n s hI) (fun r s₁ h₁ => ?_) fun _ _ z => z)))
  cases r with
  | none => exact wpAny_pure h₁
  | some v =>
    refine wpAny_bind (wpAny_mono h₁ (fun _ s₂ h₂ => ?_) fun _ _ z => z)
    refine wpAny_bind (wpAny_mono h₂ (fun _ s₃ h₃ => wpAny_bind (wpAny_tests_nil ?_)) fun _ _ z => z)
    exact wpAny_bind (wpAny_bind (wpAny_mono h₃ (fun a s₄ h₄ => wpAny_bind (wpAny_holding (wpAny_mono h₄ (fun b s₅ h₅ => wpAny_bind (wpAny_standAt (wpAny_holding (wpAny_mono h₅ (fun _ s₆ h₆ => wpAny_pure ⟨rfl, h₆⟩) fun _ _ z => z)))) fun _ _ z => z))) fun _ _ z => z))
theorem dcStart1 (h0 : codeAny (model prog w) A (.compLoop (dcE kx vx t0 i0 t1 i1 scope pos) 1 it acc env) R s)
    (h : wpAny (model prog w) A (pyIter it) (fun it' s' => codeAny (model prog w) A (.compLoop (dcE kx vx t0 i0 t1 i1 scope pos) 1 it' acc env) R s') (nb prog w A env R) s) :
    codeAny (model prog w) A (.compStart (dcE kx vx t0 i0 t1 i1 scope pos) 1 it acc env) R s := by
  refine codeAny_of_tree ?_
  show wpAny _ _ ((compStart (dcE kx vx t0 i0 t1 i1 scope pos) 1 it acc env).onRaise (fun x => do noteFrame x env; standAt theWindowsPlace)) _ _ s
  refine wpAny_notedAt ?_
  unfold compStart
  show wpAny _ _ (ask >>= _) _ _ s
  refine wpAny_bind (wpAny_askSetting (wpAny_ite ?_))
  split
  · first
      | exact wpAny_bind (wpAny_pure (wpAny_pure ⟨rfl, h0⟩))
      | exact wpAny_pure ⟨rfl, h0⟩
  · first
      | exact wpAny_bind (wpAny_rule (wpAny_bind (wpAny_standAt (wpAny_bind (wpAny_mono h (fun it' s' h' => wpAny_pure ⟨rfl, h'⟩) fun _ _ x => x)))))
      | (refine wpAny_bind (wpAny_rule ?_)
         exact wpAny_bind (wpAny_standAt (wpAny_bind (wpAny_mono h (fun it' s' h' => wpAny_pure ⟨rfl, h'⟩) fun _ _ x => x))))
end
section
open PySem PySem.Spec PyProof.Rows
/-- d[t] = v as a comprehension stores it, t a tuple -/
theorem put_tup {X : Cx} {pins : List (Addr × Obj)} {σ : L2.St} {H : Hp} {s : Shared} {E : Value → Shared → Prop} {D b : Addr} {kvs : List (List Key × V)} {k : List Key} {v : V} {r : Value} {Q : Unit → Shared → Prop} (hu : X.A.units < cLine) (I : Inv X pins σ H s) (hD : H D = some (.dT kvs)) (hz : kvs.length < sizeLine)
    (eb : H b = some (.tup (k.map kV))) (rv : RelV v r) (h : ∀ s', Inv X pins σ (upd H D (.dT (putK kvs k v))) s' → Q () s') : wpAny (model X.prog X.w) X.A (dictSet D (.ref b) r) Q E s := by
  obtain ⟨_, hd, xs, rel, dd⟩ := dt_of I.hok hD
  have l1 : xs.length ≤ sizeLine := by
    rw [← Paired.length rel]
    exact Nat.le_of_lt hz
  have l2 : (putK kvs k v).length ≤ sizeLine := by
    have := length_putK kvs k v
    omega
  refine wpAny_dictSet_heap (knd := tupleKind (mixKind X.prog X.w)) (hsz := l1) hu (key_of I.hok eb) dd fun h' dd' hs => h _ ?_
  obtain ⟨q, es, ep, hq, h2, h3, h4, _, h5⟩ := dd'
  refine d_write I (by rw [hD]; exact True.intro) hs ⟨q, hq⟩ ⟨l2, hd, _, (rel.put k eb rv).keeps fun c ys ec => ?_, q, es, ep, hq, h2, h3, h4, h5⟩
  rw [upd_ne (ne_of ec hD fun z => nomatch z)]
  exact ec
variable {X : Cx}
/-- {key: val for x in one for y in two}: D the new dict; vs: the block's names, vs1: those of the second target -/
def tDc2 (wi : TI) (g : TG) (wi1 : TI) (g1 : TG) (tk tv : TE) (vs vs1 : List Nat) : TE := fun σ H Q => wi σ H fun J H1 => ∀ D, H1 D = none → ∃ W : Nat → Nat → Hp → Prop, (∃ m, W 0 m (upd H1 D (.dT []))) ∧ ∀ i m H, W i m H →
  (J.stop i H ∧ Q (.ref D) H) ∨ (J.go i H ∧ ∃ Nx : Hp → Prop, (∀ H', Nx H' → ∃ m', m' < m ∧ W (i + 1) m' H') ∧ ∀ x H', J.yld i H x H' → g x (wipe σ vs) H' fun σ2 H2 => wipe σ2 vs = wipe σ vs ∧
    wi1 σ2 H2 fun J1 H4 => ∃ W1 : Nat → Nat → Hp → Prop, (∃ m, W1 0 m H4) ∧ ∀ j k H, W1 j k H →
      (J1.stop j H ∧ Nx H) ∨ (J1.go j H ∧ ∃ Nx1 : Hp → Prop, (∀ H', Nx1 H' → ∃ k', k' < k ∧ W1 (j + 1) k' H') ∧ ∀ x H', J1.yld j H x H' → g1 x (wipe σ2 vs1) H' fun σ3 H5 => wipe σ3 vs1 = wipe σ2 vs1 ∧
        tk σ3 H5 fun y H6 => tv σ3 H6 fun z H7 => ∃ (b : Addr) (kvs : List (List Key × V)) (key : List Key), y = .ref b ∧ H7 b = some (.tup (key.map kV)) ∧ H7 D = some (.dT kvs) ∧ kvs.length < sizeLine ∧ Nx1 (upd H7 D (.dT (putK kvs key z)))))
theorem dc2_core {pins : List (Addr × Obj)} {s : Shared} {σ : L2.St} {H : Hp} {Q : VK} {kx vx t0 i0 t1 i1 : Expr} {scope : Scope} {own : List (Str × Nat)} {vs1 : List Nat} {pos pos' : Pos} {wi wi1 : TI} {g g1 : TG} {tk tv : TE} {use : Option (Value → Sem Unit)} {Qf : Value → Shared → Prop}
    (hu : X.A.units < cLine) (hc : X.calm = true) (hN : X.N.Nodup) (I : Inv X pins σ H s) (hi : PI X t0 i0 wi) (ok : BlkOk X.N X.env.scope scope own) (hv : ∀ i ∈ vs1, i ∈ own.map (·.2))
    (hg : ∀ (s : Shared) (H : Hp) (C : Addr) (cl : List (Str × Addr)) (fp : List Addr), PG (X.blk s H scope (compEnvC scope cl C X.env) fp) t0 g)
    (hk : ∀ (s : Shared) (H : Hp) (C : Addr) (cl : List (Str × Addr)) (fp : List Addr), PE (X.blk s H scope (compEnvC scope cl C X.env) fp) kx tk)
    (he : ∀ (s : Shared) (H : Hp) (C : Addr) (cl : List (Str × Addr)) (fp : List Addr), PE (X.blk s H scope (compEnvC scope cl C X.env) fp) vx tv) (hs : ∀ x, foldedSetIterable i0 X.env x = pure x)
    (hi1 : ∀ (s : Shared) (H : Hp) (C : Addr) (cl : List (Str × Addr)) (fp : List Addr), PI (X.blk s H scope (compEnvC scope cl C X.env) fp) t1 i1 wi1)
    (hg1 : ∀ (s : Shared) (H : Hp) (C : Addr) (cl : List (Str × Addr)) (fp : List Addr), PG (X.blk s H scope (compEnvC scope cl C X.env) fp) t1 g1)
    (hs1 : ∀ env x, foldedSetIterable i1 env x = pure x)
    (h : tDc2 wi g wi1 g1 tk tv (own.map (·.2)) vs1 σ H Q)
    (hRR : ∀ D C s' m H', Inv X pins σ H' s' → Q (.ref D) H' → s'.heap.Ns C m → FpOk X pins H' C → compPost (model X.prog X.w) X.A X.xe use Qf (.ref D) C (.ok .next) s') :
    wpAny (model X.prog X.w) X.A (comprehension (dcE kx vx t0 i0 t1 i1 scope pos) scope X.env pos' newDict false (eval i0 X.env) use) Qf X.xe s := by
  have cellThere : ∀ y ∈ scope.names, y.2 = .free → ∃ c, X.env.cells.lookup y.1 = some c := fun y hy e => by
    rcases ok.free y hy e with k | k
    · exact I.ok.has _ (.inl k)
    · exact I.ok.has _ (.inr k)
  refine wpAny_comprehension_free (use := use) rfl hs (closure_ok cellThere) ok.kind (fun y hy e => by rw [ok.uniq y hy, e]) (thn (hi.run pins s σ H _ I h) fun xv sa hx => thn hx fun itv sb hb => ?_)
  obtain ⟨it, fp, tn, J, Hb, e, Ib, T, stb, fb, q⟩ := hb
  subst e
  refine wpAny_newObj_type (newEnv_comp ?_)
  generalize hD : sb.heap.objs.size = D
  have fresh : Hb D = none := Ib.hok.fresh (Nat.le_of_eq hD)
  obtain ⟨W, ⟨m0, w0⟩, turn⟩ := q D fresh
  generalize hsc : ({ sb with heap := sb.heap.push { cls := .type "dict", data := .dict #[] } } : Shared) = sc
  have hsch : sc.heap = sb.heap.push { cls := .type "dict", data := .dict #[] } := by rw [← hsc]
  generalize hHc : upd Hb D (.dT []) = Hc at w0
  have Ic : Inv X pins σ Hc sc := by
    rw [← hsc, ← hHc]
    refine Ib.laid (t' := sb.toks) (fun b o e => Heap.get?_push_of_some _ e) (Nat.le_of_eq hD) ?_
    rw [← hD]
    exact dt_empty sb.heap Ib.big
  have fpc : ∀ b ∈ fp, FpOk X pins Hc b ∧ b < sc.heap.objs.size := fun b hb => by
    obtain ⟨o, e, _⟩ := T.obj _ _ stb b hb
    have lt := Heap.lt_size e
    refine ⟨⟨?_, (fb b hb).2⟩, by rw [hsch, Heap.size_push]; exact Nat.lt_succ_of_lt lt⟩
    rw [← hHc, upd_ne (by rw [← hD]; exact Nat.ne_of_lt lt)]
    exact (fb b hb).1
  have stc : tn 0 sc.heap := T.keep _ _ _ stb fun b _ o e => by
    rw [hsch]
    exact Heap.get?_push_of_some _ e
  have Id := block_start Ic ok hN fpc
  generalize hcl : cellsFrom (sc.heap.objs.size + 1) scope.names (cloFrom X.env.cells scope.names []) = cl at Id
  have pg := hg sc Hc sc.heap.objs.size cl fp
  have pk := hk sc Hc sc.heap.objs.size cl fp
  have pe := he sc Hc sc.heap.objs.size cl fp
  have pi1 := hi1 sc Hc sc.heap.objs.size cl fp
  have pg1 := hg1 sc Hc sc.heap.objs.size cl fp
  show codeAny _ _ (.compStart (dcE kx vx t0 i0 t1 i1 scope pos) 0 (.ref it) (.ref D) (compEnvC scope cl sc.heap.objs.size X.env)) (compPost (model X.prog X.w) X.A X.xe use Qf (.ref D) sc.heap.objs.size) { sc with heap := pushCells (sc.heap.push { cls := .type "dict", data := .dict #[] }) scope.names }
  have none0 : ∀ b ∈ fp, Hc b = none := fun b hb => (fpc b hb).1.1
  generalize hce : compEnvC scope cl sc.heap.objs.size X.env = ce at Id pg pk pe pi1 pg1 ⊢
  have ceL : ce.locals = sc.heap.objs.size := by
    subst hce
    rfl
  generalize hsd : ({ sc with heap := pushCells (sc.heap.push { cls := .type "dict", data := .dict #[] }) scope.names } : Shared) = sd at Id ⊢
  have std : tn 0 sd.heap := T.keep _ _ _ stc fun b _ o e => by
    rw [← hsd]
    exact pushCells_keeps _ _ _ _ (Heap.get?_push_of_some _ e)
  have fpB : ∀ {σ' : L2.St} {H' : Hp} {s' : Shared}, Inv (X.blk sc Hc scope ce fp) [] σ' H' s' → (∀ b ∈ fp, H' b = none) → ∀ b ∈ fp, FpOk (X.blk sc Hc scope ce fp) [] H' b := fun {σ' H' s'} I' hn b hb =>
    ⟨hn b hb, (I'.ok.exf b hb).1, I'.ok.exfs b hb, .inl hb, fun x c e => (I'.ok.exf b hb).2 x c e, fun p hp => absurd (show p ∈ ([] : List (Addr × Obj)) ++ [] from hp) (by simp)⟩
  -- where a turn of the first clause begins
  generalize hAt : (fun (n : Nat) (s' : Shared) => ∃ i H', Inv (X.blk sc Hc scope ce fp) [] (wipe σ (own.map (·.2))) H' s' ∧ tn i s'.heap ∧ (∀ b ∈ fp, H' b = none) ∧ W i n H') = At
  have goal0 : codeAny (model X.prog X.w) X.A (.compLoop (dcE kx vx t0 i0 t1 i1 scope pos) 0 (.ref it) (.ref D) ce) (compPost (model X.prog X.w) X.A X.xe use Qf (.ref D) sc.heap.objs.size) sd := by
    refine dcOuter_loop (hs1 ce) At ?_ m0 (by rw [← hAt]; exact ⟨0, Hc, Id, std, none0, w0⟩)
    rintro n s5 hs5
    rw [← hAt] at hs5
    obtain ⟨i, H5, I5, st5, n5, w5⟩ := hs5
    rcases turn i n H5 w5 with ⟨stop, qq⟩ | ⟨go, Nx, hNx, step⟩
    · refine thnF (T.done (X.blk sc Hc scope ce fp) rfl rfl rfl hc i [] s5 _ H5 (fun _ _ => False) I5 (fpB I5 n5) st5 stop) fun r s6 ⟨hr, I6⟩ => ?_
      subst hr
      have Iback : Inv X pins σ H5 s6 := Ic.call' (ch := fp) I6.os I6.base I6.hok I6.bare fun b hb => ⟨(fpc b hb).1.2.2.2.1, (fpc b hb).1.2.1, (fpc b hb).1.2.2.2.2.1, (fpc b hb).1.2.2.2.2.2⟩
      have noneC : H5 sc.heap.objs.size = none := by
        rw [← ceL]
        exact I6.free
      obtain ⟨m, hn, _⟩ := I6.loc
      have hn : s6.heap.Ns ce.locals m := hn
      rw [ceL] at hn
      exact hRR D sc.heap.objs.size s6 m H5 Iback qq hn (Ic.fpOk (Nat.le_refl _) noneC)
    · refine thnF (T.item (X.blk sc Hc scope ce fp) rfl rfl rfl hc i [] s5 _ H5 (fun _ _ => False) I5 (fpB I5 n5) st5 go) fun r s6 ⟨u, hr, h6⟩ => ?_
      subst hr
      refine thnF h6 fun _ s7 ⟨x, H7, I7, r7, y7, st7, n7⟩ => ?_
      have I7p := I7.pinned (fpB I7 n7) (T.obj _ _ st7)
      refine thnF (pg.run _ s7 _ H7 x u _ I7p r7 (step x H7 y7)) fun _ s8 ⟨σ8, H8, I8, hw8, q8⟩ => ?_
      have keep8 : ∀ (j : Nat) v, (wipe σ (own.map (·.2)))[j]? = some (some v) → (wipe σ8 vs1)[j]? = some (some v) := fun j v e => by
        rw [← hw8] at e
        obtain ⟨e1, e2⟩ := wipe_some e
        rw [wipe_out fun z => e2 (hv j z)]
        exact e1
      have len8 : (wipe σ (own.map (·.2))).length = (wipe σ8 vs1).length := by
        rw [← hw8, wipe_length, wipe_length]
      -- from the second clause's end to the next turn of the first
      have nextTurn : ∀ {s' : Shared} {H' : Hp}, Inv (X.blk sc Hc scope ce fp) ([] ++ pinsAt fp s7.heap) (wipe σ8 vs1) H' s' → Nx H' → ∃ m, m < n ∧ At m s' := fun {s' H'} I' nx => by
        obtain ⟨m', hm, w'⟩ := hNx H' nx
        have pinned : ∀ b ∈ fp, ∀ o, s7.heap.get? b = some o → s'.heap.get? b = some o ∧ H' b = none := fun b hb o e =>
          let z := I'.pin (b, o) (List.mem_append_right _ (List.mem_append_right _ (mem_pinsAt hb e)))
          ⟨z.1, z.2.1⟩
        rw [← hAt]
        refine ⟨m', hm, i + 1, H', (I'.unpinned (pins := [])).weak len8 keep8, T.keep _ _ _ st7 fun b hb o e => (pinned b hb o e).1, fun b hb => ?_, w'⟩
        obtain ⟨o, e, _⟩ := T.obj _ _ st7 b hb
        exact (pinned b hb o e).2
      refine thnF (pi1.run _ s8 σ8 H8 _ I8 q8) fun xv s10 hx => thnF hx fun itv s11 h11 => ?_
      obtain ⟨it1, fp1, tn1, J1, H11, e1, I11, T1, st11, f11, W1, ⟨m1, w1⟩, turn1⟩ := h11
      subst e1
      have fpB1 : ∀ {H' : Hp}, (∀ b ∈ fp1, H' b = none) → ∀ b ∈ fp1, FpOk (X.blk sc Hc scope ce fp) ([] ++ pinsAt fp s7.heap) H' b := fun hn b hb => ⟨hn b hb, (f11 b hb).2⟩
      generalize hAt1 : (fun (k : Nat) (s' : Shared) => ∃ j H', Inv (X.blk sc Hc scope ce fp) ([] ++ pinsAt fp s7.heap) (wipe σ8 vs1) H' s' ∧ tn1 j s'.heap ∧ (∀ b ∈ fp1, H' b = none) ∧ W1 j k H') = At1
      have goal1 : codeAny (model X.prog X.w) X.A (.compLoop (dcE kx vx t0 i0 t1 i1 scope pos) 1 (.ref it1) (.ref D) ce) (fun r s' => match r with
          | .ok _ => ∃ m, m < n ∧ At m s'
          | .error _ => False) s11 := by
        refine dcInner_loop At1 ?_ m1 (by rw [← hAt1]; exact ⟨0, H11, I11.weak (wipe_length _ _) (fun j v e => (wipe_some e).1), st11, fun b hb => (f11 b hb).1, w1⟩)
        rintro k s12 hs12
        rw [← hAt1] at hs12
        obtain ⟨j, H12, I12, st12, n12, w12⟩ := hs12
        rcases turn1 j k H12 w12 with ⟨stop1, nx1⟩ | ⟨go1, Nx1, hNx1, step1⟩
        · refine thnF (T1.done (X.blk sc Hc scope ce fp) rfl rfl rfl hc j _ s12 (wipe σ8 vs1) H12 (fun _ _ => False) I12 (fpB1 n12) st12 stop1) fun r s13 ⟨hr, I13⟩ => ?_
          subst hr
          exact nextTurn I13 nx1
        · refine thnF (T1.item (X.blk sc Hc scope ce fp) rfl rfl rfl hc j _ s12 (wipe σ8 vs1) H12 (fun _ _ => False) I12 (fpB1 n12) st12 go1) fun r s13 ⟨u1, hr, h13⟩ => ?_
          subst hr
          refine thnF h13 fun _ s14 ⟨x1, H14, I14, r14, y14, st14, n14⟩ => ?_
          have I14p := I14.pinned (fpB1 n14) (T1.obj _ _ st14)
          refine thnF (pg1.run _ s14 (wipe σ8 vs1) H14 x1 u1 _ I14p r14 (step1 x1 H14 y14)) fun _ s15 ⟨σ15, H15, I15, hw15, q15⟩ => ?_
          have nextTurn1 : ∀ {s' : Shared} {H' : Hp}, Inv (X.blk sc Hc scope ce fp) (([] ++ pinsAt fp s7.heap) ++ pinsAt fp1 s14.heap) σ15 H' s' → Nx1 H' → ∃ m, m < k ∧ At1 m s' := fun {s' H'} I' nx => by
            obtain ⟨m', hm, w'⟩ := hNx1 H' nx
            have pinned : ∀ b ∈ fp1, ∀ o, s14.heap.get? b = some o → s'.heap.get? b = some o ∧ H' b = none := fun b hb o e =>
              let z := I'.pin (b, o) (List.mem_append_right _ (List.mem_append_right _ (mem_pinsAt hb e)))
              ⟨z.1, z.2.1⟩
            rw [← hAt1]
            refine ⟨m', hm, j + 1, H', I'.unpinned.weak (by rw [← hw15, wipe_length]) (fun j v e => by rw [← hw15] at e; exact (wipe_some e).1), T1.keep _ _ _ st14 fun b hb o e => (pinned b hb o e).1, fun b hb => ?_, w'⟩
            obtain ⟨o, e, _⟩ := T1.obj _ _ st14 b hb
            exact (pinned b hb o e).2
          refine thnF (pk.run _ s15 σ15 H15 _ I15 q15) fun za s16 ⟨ya, H16, I16, r16, q16⟩ => ?_
          refine thnF (pe.run _ s16 σ15 H16 _ I16 q16) fun zb s17 ⟨yb, H17, I17, r17, b, kvs, key, ek, eb, hD17, hz17, nx⟩ => ?_
          subst ek
          obtain rfl : za = Value.ref b := r16
          exact put_tup (X := X.blk sc Hc scope ce fp) hu I17 hD17 hz17 eb r17 fun s18 I18 => nextTurn1 I18 nx
      exact dcStart1 goal1 (T1.self X.A 0 _ _ _ st11 goal1)
  exact codeAny_compStart_dict goal0 (T.self X.A 0 _ _ _ std goal0)
theorem swD_true {kx vx : Expr} {gs : List Comprehension} {scope : Scope} {pos py : Pos} {y : Str} {l : Nat} {env : Env} (hk : env.scope.kind = .function) (hy : env.scope.names.lookup y = some .local) (hl : (py.line == pos.line) = true)
    (ha : (scope.names.any fun (n, k) => n == y && (k == .local || k == .cell)) = false) : swapsWith (.DictComp kx vx gs scope pos) (some (.Name y py)) l env = pure true := by
  have e1 : env.kindOf y = some .local := hy
  have e2 : env.blockKind = .function := by
    unfold Env.blockKind
    rw [hk]
    rfl
  unfold swapsWith
  simp only [e1, e2, ha, Expr.pos, hl]
  rfl
/-- name = {..} on one line, the name a local -/
theorem ps_setDc2 {i : Nat} {y : Str} {py : Pos} {kx vx t0 i0 t1 i1 : Expr} {scope : Scope} {own : List (Str × Nat)} {vs1 : List Nat} {pos spos : Pos} {wi wi1 : TI} {g g1 : TG} {tk tv : TE} (hu : X.A.units < cLine) (hc : X.calm = true) (hN : X.N.Nodup) (hy : X.N[i]? = some y) (hyl : X.env.scope.names.lookup y = some .local)
    (hsw : swapsWith (dcE kx vx t0 i0 t1 i1 scope pos) (some (.Name y py)) spos.line X.env = pure true) (hi : PI X t0 i0 wi) (ok : BlkOk X.N X.env.scope scope own) (hv : ∀ i ∈ vs1, i ∈ own.map (·.2))
    (hg : ∀ (s : Shared) (H : Hp) (C : Addr) (cl : List (Str × Addr)) (fp : List Addr), PG (X.blk s H scope (compEnvC scope cl C X.env) fp) t0 g)
    (hi1 : ∀ (s : Shared) (H : Hp) (C : Addr) (cl : List (Str × Addr)) (fp : List Addr), PI (X.blk s H scope (compEnvC scope cl C X.env) fp) t1 i1 wi1)
    (hg1 : ∀ (s : Shared) (H : Hp) (C : Addr) (cl : List (Str × Addr)) (fp : List Addr), PG (X.blk s H scope (compEnvC scope cl C X.env) fp) t1 g1)
    (hk : ∀ (s : Shared) (H : Hp) (C : Addr) (cl : List (Str × Addr)) (fp : List Addr), PE (X.blk s H scope (compEnvC scope cl C X.env) fp) kx tk)
    (he : ∀ (s : Shared) (H : Hp) (C : Addr) (cl : List (Str × Addr)) (fp : List Addr), PE (X.blk s H scope (compEnvC scope cl C X.env) fp) vx tv)
    (hs : ∀ x, foldedSetIterable i0 X.env x = pure x := by intro _; rfl) (hs1 : ∀ env x, foldedSetIterable i1 env x = pure x := by intro _ _; rfl) :
    PS X (.Assign [.Name y py] (dcE kx vx t0 i0 t1 i1 scope pos) spos) (tAsg (tDc2 wi g wi1 g1 tk tv (own.map (·.2)) vs1) (gName i)) := by
  refine ⟨fun pins s σ H D I h => ?_⟩
  rw [exec_Assign_Name_used _ _ _ _ hsw]
  refine wpAny_bind (wpAny_standAt (wpAny_bind ?_))
  show wpAny _ X.A (do let _ ← comprehension (dcE kx vx t0 i0 t1 i1 scope pos) scope X.env (firstIterPos [⟨t0, i0, [], 0⟩, ⟨t1, i1, [], 0⟩] pos) newDict false (eval i0 X.env) (some (assign (.Name y py) X.env))) _ _ s
  have h : tDc2 wi g wi1 g1 tk tv (own.map (·.2)) vs1 σ H (fun x H1 => gName i x σ H1 D.nx) := h
  refine wpAny_bind (thn (dc2_core (Qf := fun _ s' => SP X pins D .next s') hu hc hN I hi ok hv hg hk he hs hi1 hg1 hs1 h fun L C s' m H' I' q hn f => ?_) fun _ s' hq => wpAny_pure (wpAny_pure hq))
  show wpAny _ _ (assign (.Name y py) X.env (.ref L)) _ _ _
  refine wpAny_assign_Name (store_ok2 (v := V.ref L) I' hN hy (.inl hyl) rfl (fun s2 I2 ⟨a, sb, ha⟩ => ?_) (.inr hyl))
  obtain ⟨f0, f1, f2, f3, f4, f5⟩ := f
  have neq : C ≠ a := by
    rcases ha with z | z
    · rw [z]
      exact f1
    · exact fun e => f4 y a z e.symm
  refine ⟨m, hn.sameBut sb neq, fun h3 sb3 => ?_⟩
  exact ⟨_, H', I2.turned (t' := s2.toks) (fun b o hb e => (sb3.2 b hb).trans e) f0 f1 f3 f4 f5, q⟩
end


/-! ### {(a, b): v}: a dict with one key, a tuple -/
section
open PySem PySem.Spec PyProof.Rows
variable {X : Cx}
def tDisp1 (tk tv : TE) : TE := fun σ H Q => ∀ p, H p = none → tk σ (upd H p (.dT [])) fun x H1 => tv σ H1 fun y H2 => ∃ (b : Addr) (k : List Key), x = .ref b ∧ H2 b = some (.tup (k.map kV)) ∧ H2 p = some (.dT []) ∧ Q (.ref p) (upd H2 p (.dT [(k, y)]))
theorem pe_disp1 {kx vx : Expr} {pos : Pos} {tk tv : TE} (hu : X.A.units < cLine) (hk : PE X kx tk) (hv : PE X vx tv) : PE X (.Dict [some kx] [vx] pos) (tDisp1 tk tv) := by
  refine ⟨fun pins s σ H Q I q => ?_⟩
  have hn := I.hok.fresh (Nat.le_refl s.heap.objs.size)
  have I1 := I.laid (a := s.heap.objs.size) (o := .dT []) (h' := s.heap.push { cls := .type "dict", data := .dict #[] }) (t' := s.toks) (fun _ _ q => Heap.get?_push_of_some _ q) (Nat.le_refl _) (dt_empty s.heap I.big)
  rw [arm_eval_Dict, zip_pairTrees [some kx] [vx] X.env pos rfl rfl, dictDisplay_pairs _ (by simp [pairTrees]) (by simp [pairTrees])]
  refine wpAny_bind (wpAny_standAt (wpAny_bind (wpAny_subDictH (knd := tupleKind (mixKind X.prog X.w)) (Q := fun d s' => wpAny (model X.prog X.w) X.A (pure (Value.ref d)) _ _ s') hu (by simp [pairTrees]) ?_)))
  refine evalPairs_cons (thn (hk.run pins _ σ _ _ I1 (q _ hn)) fun kv s2 ⟨x, H2, I2, r2, q2⟩ => ?_)
  refine wpAny_bind (thn (hv.run pins s2 σ H2 _ I2 q2) fun vv s3 ⟨y, H3, I3, r3, b, k, ex, eb, ep, q3⟩ => ?_)
  subst ex
  obtain rfl : kv = Value.ref b := r2
  refine wpAny_bind (wpAny_standAt (wpAny_pure (evalPairs_nil ?_)))
  obtain ⟨_, hd, xs, rel, dd⟩ := dt_of I3.hok ep
  cases rel
  refine ⟨[(k, b, vv)], ⟨rfl, rfl, key_of I3.hok eb, trivial⟩, dd, fun h' tk dd' hs => wpAny_pure ⟨.ref s.heap.objs.size, _, ?_, rfl, q3⟩⟩
  obtain ⟨o, es, ep', hq, h2, h3, h4, _, h5⟩ := dd'
  have rel2 : KT H3 (putK [] k y) (storedH [] k b vv) := KT.put .nil k eb r3
  refine d_write I3 (by rw [ep]; exact True.intro) hs ⟨o, hq⟩ ⟨by show 1 ≤ sizeLine; decide, hd, _, rel2.keeps fun c ys ec => ?_, o, es, ep', hq, h2, h3, h4, h5⟩
  rw [upd_ne (ne_of ec ep fun z => nomatch z)]
  exact ec
end


/-! ### where a sign stands in a text -/
section
open PySem PySem.Builtin PySem.Builtin.Str PySem.StrLaws
theorem at_sign_iff (l : List Nat) (c i : Nat) : At (S l) (S [c]) (S l).length i ↔ l[i]? = some c := subAt_one (S l) c i
theorem idx_first {l : List Nat} {c i : Nat} (h : l[i]? = some c) (hn : ∀ k, k < i → ¬ l[k]? = some c) : l.idxOf c = i := by
  obtain ⟨hi, hv⟩ := List.getElem?_eq_some_iff.mp h
  have hm : c ∈ l := hv ▸ List.getElem_mem hi
  have hlt := List.idxOf_lt_length_of_mem hm
  have e1 : l[l.idxOf c]? = some c := by rw [List.getElem?_eq_getElem hlt, List.getElem_idxOf hlt]
  have h1 : ¬ l.idxOf c < i := fun z => hn _ z e1
  have h2 : ¬ i < l.idxOf c := fun z => by
    have := List.not_of_lt_findIdx (p := (· == c)) (xs := l) (i := i) z
    simp [hv] at this
  omega
theorem occ_sign {l : List Nat} {c : Nat} (h : c ∈ l) : ∃ rest, occurrences (S l) (S [c]) 0 (S l).length 1 = l.idxOf c :: rest := by
  rcases occ_head (S l) (S [c]) 1 (Nat.le_refl _) with ⟨_, hn⟩ | ⟨i, r, e, ha, hn⟩
  · have hlt := List.idxOf_lt_length_of_mem h
    exact absurd ((at_sign_iff l c _).mpr (by rw [List.getElem?_eq_getElem hlt, List.getElem_idxOf hlt])) (hn (l.idxOf c))
  · have := idx_first ((at_sign_iff l c i).mp ha) fun k hk => fun z => hn k hk ((at_sign_iff l c k).mpr z)
    exact ⟨r, by rw [e, this]⟩
theorem occ_none_sign {l : List Nat} {c : Nat} (h : c ∉ l) : occurrences (S l) (S [c]) 0 (S l).length 1 = [] := by
  rcases occ_head (S l) (S [c]) 1 (Nat.le_refl _) with ⟨e, _⟩ | ⟨i, r, _, ha, _⟩
  · exact e
  · exact absurd (List.mem_of_getElem? ((at_sign_iff l c i).mp ha)) h
theorem find_sign (l : List Nat) (c : Nat) : Txt.find (S l) (S [c]) = if c ∈ l then ((l.idxOf c : Nat) : Int) else -1 := by
  unfold Txt.find
  by_cases h : c ∈ l
  · obtain ⟨r, e⟩ := occ_sign h
    rw [if_pos h, e]
  · rw [if_neg h, occ_none_sign h]
end


/-! ### for k, c in enumerate(text) -/
section
open PySem PySem.Spec PyProof.Rows
/-- the signs of a text with their places, each in a new pair -/
def IteS (x : Str) : It :=
  ⟨fun i _ => i < x.length, fun i H v H' => ∃ T c, v = .ref T ∧ H T = none ∧ H' = upd H T (.tup [.int (i : Nat), .str ⟨#[c]⟩]) ∧ x.cps[i]? = some c, fun i _ => x.length ≤ i⟩
theorem turn_enS {P : Program} {w : World} {K : PySem.W.Frag} {elts : List Expr} {kk : Nat} {tpos : Pos} (x : Str) (t : Tok) (e it : Addr) :
    Turn P w K (.Tuple elts kk tpos) (IteS x) [e, it] e (fun i h => (∃ old, IsEnum h e it ((i : Nat) : Int) old) ∧ h.IsStrIter it (strIterType x) x t i ∧ e ≠ it ∧ i ≤ x.length) where
  mem := by simp
  obj := fun i h st b hb => by
    obtain ⟨⟨old, he⟩, ⟨o, ho, hc, hd⟩, _⟩ := st
    have e' : b = e ∨ b = it := by simpa using hb
    rcases e' with z | z
    · rw [z]; exact ⟨_, he, fun v q => nomatch q⟩
    · rw [z]; exact ⟨o, ho, fun v q => by rw [hd] at q; cases q⟩
  keep := fun i h h' st k => by
    obtain ⟨⟨old, he⟩, ⟨o, ho, r⟩, hne, hle⟩ := st
    exact ⟨⟨old, k e (by simp) _ he⟩, ⟨o, k it (by simp) _ ho, r⟩, hne, hle⟩
  item := by
    intro X hP hw hK hc i pins s σ H E I hf st hg
    subst hP hw hK
    obtain ⟨⟨old, he⟩, hit, hne, hle⟩ := st
    have hlt : i < x.length := hg
    have hel : e < s.heap.objs.size := Heap.lt_size he
    have hil : it < s.heap.objs.size := by obtain ⟨_, q, _⟩ := hit; exact Heap.lt_size q
    refine wpAny_pyNext_enum_itemD (Draws.text (A := X.A.in1) (I.ok.hd hc) it x t) he hit hlt hne (by simpa using hne) fun v h' tk hPx ho hit' hT hsz hk => ?_
    obtain ⟨c, u, hcx, rfl⟩ := hPx
    refine ⟨_, rfl, wpAny_letOwnedTupleGo_enum (s := { s with heap := h', toks := tk + 1 }) ho fun h'' he' sb => ?_⟩
    have hT2 : h''.get? s.heap.objs.size = some { cls := .type "tuple", data := .seq #[.int i tk, .str ⟨#[c]⟩ u] } := (sb.2 _ (Nat.ne_of_gt hel)).trans hT
    have new : ObjOk X.prog X.w (upd H s.heap.objs.size (.tup [.int (i : Nat), .str ⟨#[c]⟩])) h'' s.heap.objs.size (.tup [.int (i : Nat), .str ⟨#[c]⟩]) :=
      ⟨by show 2 ≤ sizeLine; decide, [.int i tk, .str ⟨#[c]⟩ u], .cons ⟨_, rfl⟩ (.cons ⟨_, rfl⟩ .nil), ⟨_, hT2, rfl, _, rfl⟩⟩
    have I1 : Inv X pins σ (upd H s.heap.objs.size (.tup [.int (i : Nat), .str ⟨#[c]⟩])) { s with heap := h'', toks := tk + 1 } :=
      I.turnedNew (ch := [e, it]) (fun b ob hb q => (sb.2 b (fun z => hb (by simp [z]))).trans (hk b ob (fun z => hb (by simp [z])) (fun z => hb (by simp [z])) q)) hf (Nat.le_refl _) new
    refine ⟨.ref s.heap.objs.size, _, I1, rfl, ⟨_, c, rfl, I.hok.fresh (Nat.le_refl _), rfl, hcx⟩, ⟨⟨.str ⟨#[c]⟩ u, ?_⟩, ?_, hne, hlt⟩, fun b hb => ?_⟩
    · have e1 : ((i + 1 : Nat) : Int) = (i : Int) + 1 := by omega
      rw [e1]; exact he'
    · obtain ⟨o, q, r⟩ := hit'
      exact ⟨o, (sb.2 it (Ne.symm hne)).trans q, r⟩
    · have hb' : b < s.heap.objs.size := by
        have e' : b = e ∨ b = it := by simpa using hb
        rcases e' with z | z
        · rw [z]; exact hel
        · rw [z]; exact hil
      rw [upd_ne (Nat.ne_of_lt hb')]
      exact (hf b hb).1
  done := by
    intro X hP hw hK hc i pins s σ H E I hf st hg
    subst hP hw hK
    obtain ⟨⟨old, he⟩, hit, hne, hle⟩ := st
    obtain ⟨f0, f1, f2, f3, f4, f5⟩ := hf it (by simp)
    have hn : i = x.length := Nat.le_antisymm hle hg
    subst hn
    exact wpAny_pyNext_enum_endD (Draws.text (A := X.A.in1) (I.ok.hd hc) it x t) he hit fun h' eb => ⟨rfl, I.turned (t' := s.toks) (fun b o hb q => eb b o hb q) f0 f1 f3 f4 f5⟩
  self := fun A i s Q E st h => let ⟨⟨_, he⟩, _⟩ := st; wpAny_pyIter_enum he h
def iEnS (ta : TA) : TI := fun σ H R => ta σ H fun vs H1 => ∃ x, vs = [.str x] ∧ R (IteS x) H1
theorem pi_enS {X : Cx} {e : Expr} {ta : TA} {p pos tpos : Pos} {elts : List Expr} {kk : Nat} (hg : Gl X "enumerate") (hm : X.mg "enumerate" = none) (ha : PA X [e] ta) (hs : starEach [e] X.env = [(false, eval e X.env)] := by rfl) :
    PI X (.Tuple elts kk tpos) (.Call (.Name "enumerate" p) [e] [] pos) (iEnS ta) := by
  refine ⟨fun pins s σ H R I h => ?_⟩
  refine Call_ (ld_blt I hg hm boot_enumerate (PyProof.Rows.callWith_type1 (thn (ha.run pos pins s σ H _ I h) fun us s1 ⟨vs, H1, I1, r1, q1⟩ => ?_) hs rfl))
  obtain ⟨x, ex, q⟩ := q1
  subst ex
  cases r1 with
  | cons r rr =>
    cases rr
    obtain ⟨t, rfl⟩ := r
    refine call_enumerate_str fun h' he hit hsz hk => wpAny_pyIter_enum he ?_
    have I2 : Inv X pins σ H1 { s1 with heap := h' } := I1.kept (t' := s1.toks) hk
    refine ⟨s1.heap.objs.size + 1, [s1.heap.objs.size + 1, s1.heap.objs.size], _, _, H1, rfl, I2, turn_enS x t (s1.heap.objs.size + 1) s1.heap.objs.size, ⟨⟨.none, he⟩, hit, Nat.succ_ne_self _, Nat.zero_le _⟩, fun b hb => ?_, q⟩
    have e' : b = s1.heap.objs.size + 1 ∨ b = s1.heap.objs.size := by simpa using hb
    have hle : s1.heap.objs.size ≤ b := by
      rcases e' with z | z
      · rw [z]; exact Nat.le_add_right _ _
      · rw [z]; exact Nat.le_refl _
    exact I1.fpOk hle (I1.hok.fresh hle)
theorem walk_enS {x : Str} : Walk (IteS x) x.length (fun _ => True) (YPair (fun i => some (.int (i : Nat))) (fun i => x.cps[i]?.map fun c => .str ⟨#[c]⟩)) := by
  refine ⟨fun i _ hi q => hi, fun _ q => Nat.le_refl _, fun i H v H' _ q y => ?_⟩
  obtain ⟨T, c, h1, h2, h3, h4⟩ := y
  exact ⟨T, .int (i : Nat), .str ⟨#[c]⟩, h1, h2, h3, rfl, by simp [h4]⟩
end
theorem hu0_of {A : Around} {k : Nat} (hr : Room k A) : A.units < cLine := by
  have := hr.units
  omega


/-! ### what is spoilt -/
def comm (one two : List Nat) (c : Int) : Bool := decide (one.getD c.toNat 0 = two.getD c.toNat 0)
/-- signs read otherwise, begun in the other state -/
def spo (one two : List Nat) : List Int → Nat
  | [] => 0
  | c :: r => if (one.length : Int) ≤ c then 0 else (if comm one two c = true then 0 else 1) + spo one two r
theorem spo_len (one two : List Nat) : ∀ l : List Int, spo one two l ≤ l.length
  | [] => Nat.le_refl _
  | c :: r => by
    have := spo_len one two r
    simp only [spo, List.length_cons]
    split
    · omega
    · split <;> omega
/-- no shift among them -/
def noSh (n : Nat) (l : List Int) : Prop := ∀ c ∈ l, c < (n : Int)
theorem noSh.snoc {n : Nat} {l : List Int} {c : Int} (h : noSh n l) (hc : c < (n : Int)) : noSh n (l ++ [c]) := fun x hx => (List.mem_append.mp hx).elim (h x) fun hx => by
  rw [List.mem_singleton.mp hx]
  exact hc
theorem spo_app {one two : List Nat} : ∀ {l : List Int} (r : List Int), noSh one.length l → spo one two (l ++ r) = spo one two l + spo one two r
  | [], r, _ => by simp [spo]
  | c :: l, r, h => by
    have h1 := h c (by simp)
    have ih := spo_app (one := one) (two := two) (l := l) r fun x hx => h x (by simp [hx])
    have hn : ¬ (one.length : Int) ≤ c := by omega
    simp only [List.cons_append, spo, if_neg hn, ih]
    omega
theorem spo_shift {one two : List Nat} {c : Int} (r : List Int) (h : (one.length : Int) ≤ c) : spo one two (c :: r) = 0 := by
  simp only [spo, if_pos h]
/-- places below i that differ -/
def difN (l w : List Nat) : Nat → Nat
  | 0 => 0
  | i + 1 => difN l w i + (if l.getD i 0 = w.getD i 0 then 0 else 1)
theorem difN_self (l : List Nat) : ∀ i, difN l l i = 0
  | 0 => rfl
  | i + 1 => by simp [difN, difN_self l i]
theorem difN_cons (a b : Nat) (x y : List Nat) : ∀ m, difN (a :: x) (b :: y) (m + 1) = (if a = b then 0 else 1) + difN x y m
  | 0 => by simp [difN]
  | m + 1 => by
    rw [difN, difN_cons a b x y m, difN]
    simp only [List.getD_cons_succ]
    omega
theorem difN_app (p x y : List Nat) (m : Nat) : difN (p ++ x) (p ++ y) (p.length + m) = difN x y m := by
  induction p with
  | nil => simp
  | cons a p ih =>
    have e : (a :: p).length + m = (p.length + m) + 1 := by
      rw [List.length_cons]
      omega
    rw [e, List.cons_append, List.cons_append, difN_cons, ih]
    simp
theorem difN_pos {l w : List Nat} : ∀ {n : Nat}, 0 < difN l w n → l ≠ w := by
  rintro n h rfl
  rw [difN_self] at h
  omega
theorem difN_eq {l w : List Nat} (hl : l.length = w.length) : ∀ {n : Nat}, n = w.length → difN l w n = 0 → l = w := by
  intro n hn h
  have key : ∀ i, difN l w i = 0 → ∀ j, j < i → l.getD j 0 = w.getD j 0 := by
    intro i
    induction i with
    | zero => intro _ j hj; omega
    | succ i ih =>
      intro h j hj
      rw [difN] at h
      by_cases hji : j = i
      · subst hji
        by_cases e : l.getD j 0 = w.getD j 0
        · exact e
        · rw [if_neg e] at h
          omega
      · exact ih (by omega) j (by omega)
  refine List.ext_getElem hl fun j h1 h2 => ?_
  have := key n h j (by omega)
  rw [List.getD_eq_getElem?_getD, List.getD_eq_getElem?_getD, List.getElem?_eq_getElem h1, List.getElem?_eq_getElem h2] at this
  exact this
theorem sgn_eq {one two : List Nat} {a b c : Int} (ha : Bit a) (hb : Bit b) (hab : a ≠ b) : (sgn one two a c = sgn one two b c) ↔ comm one two c = true := by
  unfold comm sgn
  rcases ha with rfl | rfl <;> rcases hb with rfl | rfl
  · exact absurd rfl hab
  · simp
  · simp only [decide_eq_true_eq]
    exact eq_comm
  · exact absurd rfl hab
theorem rdT_len_eq (one two : List Nat) (a b : Int) : ∀ l : List Int, (rdT one two a l).length = (rdT one two b l).length
  | [] => rfl
  | c :: r => by
    simp only [rdT]
    split
    · rw [List.length_cons, List.length_cons, rdT_len_eq one two a b r]
    · rfl
theorem difN_rd {one two : List Nat} {a b : Int} (ha : Bit a) (hb : Bit b) (hab : a ≠ b) : ∀ l : List Int, difN (rdT one two a l) (rdT one two b l) (rdT one two b l).length = spo one two l
  | [] => rfl
  | c :: r => by
    have ih := difN_rd (one := one) (two := two) ha hb hab r
    by_cases h : c < (one.length : Int)
    · have hn : ¬ (one.length : Int) ≤ c := by omega
      simp only [rdT, spo, if_pos h, if_neg hn, List.length_cons]
      rw [difN_cons, ih]
      by_cases e : comm one two c = true
      · rw [if_pos e, if_pos ((sgn_eq ha hb hab).mpr e)]
      · rw [if_neg e, if_neg fun z => e ((sgn_eq ha hb hab).mp z)]
    · have hn : (one.length : Int) ≤ c := by omega
      simp only [rdT, spo, if_neg h, if_pos hn, difN_self]
/-- how many signs the loss of a code spoils: the state ahead, the code, what is behind -/
def los1 (one two : List Nat) (s c : Int) (r : List Int) : Int := if (one.length : Int) ≤ c then (if c - one.length = s then 0 else (spo one two r : Int)) else 0
def los (one two : List Nat) (st : Int) (tp : List Int) (j : Nat) : Int := los1 one two (rdS one st (tp.take j)) (tp.getD j 0) (tp.drop (j + 1))
def losL (one two : List Nat) (st : Int) (tp : List Int) : List Int := (List.range tp.length).map (los one two st tp)
/-- the text of what is left -/
theorem lost_at {one two : List Nat} {st : Int} {tp : List Int} (hs : Bit st) (hc : Codes one.length tp) {j : Nat} (hj : j < tp.length) (hsh : (one.length : Int) ≤ tp.getD j 0) :
    (rdT one two st (tp.take j ++ tp.drop (j + 1))).length = (rdT one two st tp).length ∧
    (difN (rdT one two st (tp.take j ++ tp.drop (j + 1))) (rdT one two st tp) (rdT one two st tp).length : Int) = los one two st tp j := by
  have e : tp = tp.take j ++ (tp.getD j 0 :: tp.drop (j + 1)) := by
    rw [List.getD_eq_getElem?_getD, List.getElem?_eq_getElem hj, Option.getD_some, List.getElem_cons_drop, List.take_append_drop]
  have hcj : Codes one.length [tp.getD j 0] := fun x hx => by
    rw [List.mem_singleton.mp hx, List.getD_eq_getElem?_getD, List.getElem?_eq_getElem hj]
    exact hc _ (List.getElem_mem hj)
  have hb1 : Bit (rdS one st (tp.take j)) := rdS_bit hs (hc.take j)
  have h0 := hcj _ (List.mem_singleton.mpr rfl)
  have hb2 : Bit (tp.getD j 0 - one.length) := by
    unfold Bit
    omega
  have hn : ¬ tp.getD j 0 < (one.length : Int) := by omega
  unfold los los1
  rw [if_pos hsh]
  generalize tp.getD j 0 = c at *
  generalize tp.take j = l at *
  generalize tp.drop (j + 1) = r at *
  subst e
  rw [rdT_append, rdT_append]
  simp only [rdT, if_neg hn]
  refine ⟨?_, ?_⟩
  · rw [List.length_append, List.length_append, rdT_len_eq one two _ (c - one.length) r]
  · rw [List.length_append, difN_app]
    by_cases h : c - one.length = rdS one st l
    · rw [if_pos h, h, difN_self]
      rfl
    · rw [if_neg h, difN_rd hb1 hb2 (Ne.symm h)]
theorem los_sign {one two : List Nat} {st : Int} {tp : List Int} {j : Nat} (h : ¬ (one.length : Int) ≤ tp.getD j 0) : los one two st tp j = 0 := by
  unfold los los1
  rw [if_neg h]
theorem los_nonneg (one two : List Nat) (st : Int) (tp : List Int) (j : Nat) : 0 ≤ los one two st tp j := by
  unfold los los1
  split
  · split <;> omega
  · omega


/-! ### trimmed -/
/-- the codes of signs, each with the state that it is read in -/
def need (one : List Nat) : Int → List Int → List (Int × Int)
  | _, [] => []
  | st, c :: r => if c < (one.length : Int) then (c, st) :: need one st r else need one (c - one.length) r
/-- whether a shift stands ahead of a code -/
def wants (one two : List Nat) (sh : Int) (x : Int × Int) : Bool := !decide (x.2 = sh) && !comm one two x.1
/-- shifts only where one is needed -/
def trm (one two : List Nat) : Int → List (Int × Int) → List Int
  | _, [] => []
  | sh, x :: r => if wants one two sh x = true then (one.length + x.2) :: x.1 :: trm one two x.2 r else x.1 :: trm one two sh r
def trmS (one two : List Nat) : Int → List (Int × Int) → Int
  | sh, [] => sh
  | sh, x :: r => if wants one two sh x = true then trmS one two x.2 r else trmS one two sh r
def trim (one two : List Nat) (st : Int) (tp : List Int) : List Int := trm one two st (need one st tp)
theorem need_snoc (one : List Nat) (c : Int) : ∀ (st : Int) (l : List Int), need one st (l ++ [c]) = need one st l ++ (if c < (one.length : Int) then [(c, rdS one st l)] else [])
  | st, [] => by
    simp only [List.nil_append, need, rdS]
  | st, d :: l => by
    simp only [List.cons_append, need, rdS]
    split
    · rw [need_snoc one c st l]
      rfl
    · rw [need_snoc one c _ l]
theorem trm_snoc (one two : List Nat) (x : Int × Int) : ∀ (sh : Int) (l : List (Int × Int)), trm one two sh (l ++ [x]) = trm one two sh l ++ (if wants one two (trmS one two sh l) x = true then [one.length + x.2, x.1] else [x.1])
  | sh, [] => by
    simp only [List.nil_append, trm, trmS]
    rfl
  | sh, y :: l => by
    simp only [List.cons_append, trm, trmS]
    split
    · rw [trm_snoc one two x _ l]
      rfl
    · rw [trm_snoc one two x _ l]
      rfl
theorem trmS_snoc (one two : List Nat) (x : Int × Int) : ∀ (sh : Int) (l : List (Int × Int)), trmS one two sh (l ++ [x]) = if wants one two (trmS one two sh l) x = true then x.2 else trmS one two sh l
  | sh, [] => by
    simp only [List.nil_append, trmS]
    rfl
  | sh, y :: l => by
    simp only [List.cons_append, trmS]
    split <;> exact trmS_snoc one two x _ l
/-- codes of signs, in states -/
def Needs (n : Nat) (l : List (Int × Int)) : Prop := ∀ x ∈ l, 0 ≤ x.1 ∧ x.1 < (n : Int) ∧ Bit x.2
theorem need_ok {one : List Nat} : ∀ {st : Int} {l : List Int}, Bit st → Codes one.length l → Needs one.length (need one st l)
  | _, [], _, _ => by simp [need, Needs]
  | st, c :: l, hb, hc => by
    have h1 := hc c (by simp)
    have h2 : Codes one.length l := fun c m => hc c (by simp [m])
    simp only [need]
    split
    · intro x hx
      rcases List.mem_cons.mp hx with rfl | hx
      · exact ⟨h1.1, by assumption, hb⟩
      · exact need_ok hb h2 x hx
    · refine need_ok ?_ h2
      unfold Bit
      omega
theorem wants_not {one two : List Nat} {sh : Int} {x : Int × Int} (h : ¬ wants one two sh x = true) : x.2 = sh ∨ comm one two x.1 = true := by
  unfold wants at h
  by_cases e : x.2 = sh
  · exact .inl e
  · right
    simpa [e] using h
theorem wants_yes {one two : List Nat} {sh : Int} {x : Int × Int} (h : wants one two sh x = true) : x.2 ≠ sh ∧ comm one two x.1 = false := by
  unfold wants at h
  simpa using h
theorem rd_need (one two : List Nat) : ∀ (st : Int) (l : List Int), rdT one two st l = (need one st l).map fun x => sgn one two x.2 x.1
  | _, [] => rfl
  | st, c :: l => by
    simp only [rdT, need]
    split
    · rw [List.map_cons, rd_need one two st l]
    · exact rd_need one two _ l
theorem rd_trm {one two : List Nat} : ∀ {sh : Int} {l : List (Int × Int)}, Bit sh → Needs one.length l → rdT one two sh (trm one two sh l) = l.map fun x => sgn one two x.2 x.1
  | _, [], _, _ => rfl
  | sh, x :: l, hb, hn => by
    have h1 := hn x (by simp)
    have h2 : Needs one.length l := fun y m => hn y (by simp [m])
    by_cases hw : wants one two sh x = true
    · simp only [trm, if_pos hw]
      have e : ¬ (one.length : Int) + x.2 < one.length := by
        have := h1.2.2
        unfold Bit at this
        omega
      have e2 : (one.length : Int) + x.2 - one.length = x.2 := by omega
      simp only [rdT, if_neg e, e2, if_pos h1.2.1, List.map_cons, rd_trm h1.2.2 h2]
    · simp only [trm, if_neg hw, rdT, if_pos h1.2.1, List.map_cons, rd_trm hb h2]
      congr 1
      rcases wants_not hw with e | e
      · rw [e]
      · by_cases e2 : x.2 = sh
        · rw [e2]
        · exact ((sgn_eq h1.2.2 hb e2).mpr e).symm
theorem trim_read {one two : List Nat} {st : Int} {tp : List Int} (hb : Bit st) (hc : Codes one.length tp) : rdT one two st (trim one two st tp) = rdT one two st tp := by
  unfold trim
  rw [rd_trm hb (need_ok hb hc), rd_need]
theorem trm_len {one two : List Nat} : ∀ {st sh : Int} {l : List Int}, (trm one two sh (need one st l)).length ≤ l.length + (if sh = st then 0 else 1)
  | st, sh, [] => by simp [need, trm]
  | st, sh, c :: l => by
    by_cases h : c < (one.length : Int)
    · simp only [need, if_pos h]
      by_cases hw : wants one two sh (c, st) = true
      · have e := (wants_yes hw).1
        have ih := trm_len (one := one) (two := two) (st := st) (sh := st) (l := l)
        simp only [trm, if_pos hw, List.length_cons]
        rw [if_pos rfl] at ih
        rw [if_neg fun z => e z.symm]
        omega
      · have ih := trm_len (one := one) (two := two) (st := st) (sh := sh) (l := l)
        simp only [trm, if_neg hw, List.length_cons]
        omega
    · have ih := trm_len (one := one) (two := two) (st := c - one.length) (sh := sh) (l := l)
      simp only [need, if_neg h, List.length_cons]
      have : (if sh = c - (one.length : Int) then 0 else 1) ≤ 1 := by split <;> omega
      omega
theorem trim_len {one two : List Nat} {st : Int} {tp : List Int} : (trim one two st tp).length ≤ tp.length := by
  have := trm_len (one := one) (two := two) (st := st) (sh := st) (l := tp)
  rw [if_pos rfl] at this
  exact this
/-- the codes of signs -/
def signsOf (n : Nat) (l : List Int) : List Int := l.filter fun c => decide (c < (n : Int))
theorem signs_need (one : List Nat) : ∀ (st : Int) (l : List Int), signsOf one.length l = (need one st l).map (·.1)
  | _, [] => rfl
  | st, c :: l => by
    unfold signsOf
    by_cases h : c < (one.length : Int)
    · simp only [need, if_pos h, List.map_cons]
      rw [List.filter_cons_of_pos (by simpa using h)]
      congr 1
      exact signs_need one st l
    · simp only [need, if_neg h]
      rw [List.filter_cons_of_neg (by simpa using h)]
      exact signs_need one _ l
theorem signs_trm {one two : List Nat} : ∀ {sh : Int} {l : List (Int × Int)}, Needs one.length l → signsOf one.length (trm one two sh l) = l.map (·.1)
  | _, [], _ => rfl
  | sh, x :: l, hn => by
    have h1 := hn x (by simp)
    have h2 : Needs one.length l := fun y m => hn y (by simp [m])
    have e : ¬ (one.length : Int) + x.2 < one.length := by
      have := h1.2.2
      unfold Bit at this
      omega
    by_cases hw : wants one two sh x = true
    · have ih := signs_trm (two := two) (sh := x.2) h2
      unfold signsOf at ih ⊢
      simp only [trm, if_pos hw, List.map_cons]
      rw [List.filter_cons_of_neg (by simpa using e), List.filter_cons_of_pos (by simpa using h1.2.1), ih]
    · have ih := signs_trm (two := two) (sh := sh) h2
      unfold signsOf at ih ⊢
      simp only [trm, if_neg hw, List.map_cons]
      rw [List.filter_cons_of_pos (by simpa using h1.2.1), ih]
theorem trim_signs {one two : List Nat} {st : Int} {tp : List Int} (hb : Bit st) (hc : Codes one.length tp) : signsOf one.length (trim one two st tp) = signsOf one.length tp := by
  unfold trim
  rw [signs_trm (need_ok hb hc), ← signs_need]
theorem trm_codes {one two : List Nat} : ∀ {sh : Int} {l : List (Int × Int)}, Needs one.length l → Codes one.length (trm one two sh l)
  | _, [], _ => by simp [trm, Codes]
  | sh, x :: l, hn => by
    have h1 := hn x (by simp)
    have h2 : Needs one.length l := fun y m => hn y (by simp [m])
    have hb := h1.2.2
    unfold Bit at hb
    by_cases hw : wants one two sh x = true
    · simp only [trm, if_pos hw]
      intro c hc
      rcases List.mem_cons.mp hc with rfl | hc
      · omega
      · rcases List.mem_cons.mp hc with rfl | hc
        · omega
        · exact trm_codes h2 c hc
    · simp only [trm, if_neg hw]
      intro c hc
      rcases List.mem_cons.mp hc with rfl | hc
      · omega
      · exact trm_codes h2 c hc
theorem trim_codes {one two : List Nat} {st : Int} {tp : List Int} (hb : Bit st) (hc : Codes one.length tp) : Codes one.length (trim one two st tp) := trm_codes (need_ok hb hc)
/-- each shift changes the state, ahead of a code that is read otherwise there -/
def Tight (one two : List Nat) : Int → List Int → Prop
  | _, [] => True
  | sh, c :: r => if c < (one.length : Int) then Tight one two sh r else c - one.length ≠ sh ∧ (∃ d q, r = d :: q ∧ d < (one.length : Int) ∧ comm one two d = false) ∧ Tight one two (c - one.length) r
theorem tight_trm {one two : List Nat} : ∀ {sh : Int} {l : List (Int × Int)}, Needs one.length l → Tight one two sh (trm one two sh l)
  | _, [], _ => by simp [trm, Tight]
  | sh, x :: l, hn => by
    have h1 := hn x (by simp)
    have h2 : Needs one.length l := fun y m => hn y (by simp [m])
    have e : ¬ (one.length : Int) + x.2 < one.length := by
      have := h1.2.2
      unfold Bit at this
      omega
    have e2 : (one.length : Int) + x.2 - one.length = x.2 := by omega
    by_cases hw : wants one two sh x = true
    · simp only [trm, if_pos hw]
      obtain ⟨w1, w2⟩ := wants_yes hw
      have ih := tight_trm (one := one) (two := two) (sh := x.2) h2
      simp only [Tight, if_neg e, e2, if_pos h1.2.1]
      exact ⟨w1, ⟨_, _, rfl, h1.2.1, w2⟩, ih⟩
    · simp only [trm, if_neg hw, Tight, if_pos h1.2.1]
      exact tight_trm h2
theorem tight_again {one two : List Nat} : ∀ {sh : Int} {l : List Int}, Tight one two sh l → trm one two sh (need one sh l) = l
  | _, [], _ => rfl
  | sh, c :: l, h => by
    simp only [Tight] at h
    by_cases hc : c < (one.length : Int)
    · rw [if_pos hc] at h
      have hw : ¬ wants one two sh (c, sh) = true := by simp [wants]
      simp only [need, if_pos hc, trm, if_neg hw, tight_again h]
    · rw [if_neg hc] at h
      obtain ⟨h1, ⟨d, q, rfl, hd, hk⟩, h3⟩ := h
      have ih := tight_again h3
      have hw0 : ¬ wants one two (c - one.length) (d, c - one.length) = true := by simp [wants]
      simp only [need, if_pos hd, trm, if_neg hw0] at ih
      have hw : wants one two sh (d, c - one.length) = true := by
        unfold wants
        simp [h1, hk]
      simp only [need, if_neg hc, if_pos hd, trm, if_pos hw, ih]
      congr 1
      omega
theorem trim_again {one two : List Nat} {st : Int} {tp : List Int} (hb : Bit st) (hc : Codes one.length tp) : trim one two st (trim one two st tp) = trim one two st tp :=
  tight_again (tight_trm (need_ok hb hc))
theorem tight_at {one two : List Nat} : ∀ {j : Nat} {sh : Int} {l : List Int}, Tight one two sh l → j < l.length → (one.length : Int) ≤ l.getD j 0 → 0 < los one two sh l j
  | _, _, [], _, hj, _ => by simp at hj
  | 0, sh, c :: l, h, _, hs => by
    have hn : ¬ c < (one.length : Int) := by simpa using hs
    simp only [Tight, if_neg hn] at h
    obtain ⟨h1, ⟨d, q, rfl, hd, hk⟩, _⟩ := h
    have hd' : ¬ (one.length : Int) ≤ d := by omega
    have hs' : (one.length : Int) ≤ c := by omega
    simp only [los, los1, List.take_zero, rdS, List.getD_cons_zero, if_pos hs', if_neg h1, List.drop_one, List.tail_cons, Nat.zero_add, spo, if_neg hd', hk]
    simp
    omega
  | j + 1, sh, c :: l, h, hj, hs => by
    have hj' : j < l.length := by simpa using hj
    have hs' : (one.length : Int) ≤ l.getD j 0 := by simpa using hs
    simp only [Tight] at h
    by_cases hc : c < (one.length : Int)
    · rw [if_pos hc] at h
      have ih := tight_at h hj' hs'
      simpa [los, rdS, hc] using ih
    · rw [if_neg hc] at h
      have ih := tight_at h.2.2 hj' hs'
      simpa [los, rdS, hc] using ih
/-- without a shift it is read otherwise -/
theorem trim_less {one two : List Nat} {st : Int} {tp : List Int} (hb : Bit st) (hc : Codes one.length tp) {j : Nat} (hj : j < (trim one two st tp).length) (hs : (one.length : Int) ≤ (trim one two st tp).getD j 0) :
    rdT one two st ((trim one two st tp).take j ++ (trim one two st tp).drop (j + 1)) ≠ rdT one two st tp := by
  have h1 := tight_at (tight_trm (two := two) (need_ok hb hc)) hj hs
  obtain ⟨_, h2⟩ := lost_at (two := two) hb (trim_codes hb hc) hj hs
  rw [← trim_read (two := two) hb hc]
  exact difN_pos (n := (rdT one two st (trim one two st tp)).length) (by
    have h3 : los one two st (trim one two st tp) j = los one two st (trm one two st (need one st tp)) j := rfl
    omega)


/-! ### tapes of a text -/
def pickS (one two : List Nat) (st : Int) : List Nat := if st = 0 then one else two
/-- the code of a sign in a state, or -1 -/
def cdS (one two : List Nat) (st : Int) (s : Nat) : Int := if s ∈ pickS one two st then (((pickS one two st).idxOf s : Nat) : Int) else -1
/-- the code that reads as a sign, and what is left behind it -/
def sst (one two : List Nat) (st left : Int) (s : Nat) : Option (Int × Int) :=
  if cdS one two st s < 0 then none
  else if left = -1 ∨ comm one two (cdS one two st s) = true then some (cdS one two st s, left)
  else if left = 0 then none else some (cdS one two st s, left - 1)
def kept (most st k : Int) : Int := if k = st then -1 else most
/-- a tape of a text, no shift behind the last sign, no lost shift spoils more -/
inductive Run (one two : List Nat) (most : Int) : Int → Int → List Nat → List Int → Prop
  | nil {st left : Int} : Run one two most st left [] []
  | sign {st left : Int} {s : Nat} {ss : List Nat} {c l : Int} {r : List Int} : sst one two st left s = some (c, l) → Run one two most st l ss r → Run one two most st left (s :: ss) (c :: r)
  | shift {st left : Int} {s : Nat} {ss : List Nat} {k : Int} {r : List Int} : Bit k → Run one two most k (kept most st k) (s :: ss) r → Run one two most st left (s :: ss) (((one.length : Int) + k) :: r)
/-- the signs stand in some set -/
def Stands (one two : List Nat) (tx : List Nat) : Prop := ∀ s ∈ tx, s ∈ one ∨ s ∈ two
def onc (one two : List Nat) (F : Int → Int → Int) (s : Nat) (st left : Int) : Int :=
  match sst one two st left s with
  | none => 1000000
  | some x => 1 + F st x.2
def min4 (a b c d : Int) : Int := min (min (min a b) c) d
/-- the least length -/
def Lf (one two : List Nat) (most : Int) : List Nat → Int → Int → Int
  | [], _, _ => 0
  | s :: ss, st, left => min4 (onc one two (Lf one two most ss) s st left) (1 + onc one two (Lf one two most ss) s st (-1)) (1 + onc one two (Lf one two most ss) s (1 - st) most) (2 + onc one two (Lf one two most ss) s (1 - st) (-1))
theorem pick_eq {one two : List Nat} (hs : Sets one two) (st : Int) : (pickS one two st).length = one.length ∧ (pickS one two st).Nodup := by
  unfold pickS
  split
  · exact ⟨rfl, hs.nd1⟩
  · exact ⟨hs.same, hs.nd2⟩
theorem cdS_range {one two : List Nat} (hs : Sets one two) {st : Int} {s : Nat} (h : ¬ cdS one two st s < 0) : 0 ≤ cdS one two st s ∧ cdS one two st s < one.length ∧ s ∈ pickS one two st := by
  unfold cdS at h ⊢
  by_cases hm : s ∈ pickS one two st
  · have h1 := List.idxOf_lt_length_of_mem hm
    rw [(pick_eq hs st).1] at h1
    rw [if_pos hm] at h ⊢
    exact ⟨by omega, by omega, hm⟩
  · rw [if_neg hm] at h
    omega
theorem sst_some {one two : List Nat} {st left c l : Int} {s : Nat} (h : sst one two st left s = some (c, l)) :
    ¬ cdS one two st s < 0 ∧ c = cdS one two st s ∧ ((left = -1 ∨ comm one two c = true) ∧ l = left ∨ ¬ (left = -1 ∨ comm one two c = true) ∧ left ≠ 0 ∧ l = left - 1) := by
  unfold sst at h
  split at h
  · cases h
  · rename_i h1
    split at h
    · rename_i h2
      cases h
      exact ⟨h1, rfl, .inl ⟨h2, rfl⟩⟩
    · rename_i h2
      split at h
      · cases h
      · rename_i h3
        cases h
        exact ⟨h1, rfl, .inr ⟨h2, h3, rfl⟩⟩
theorem sst_range {one two : List Nat} (hs : Sets one two) {st left c l most : Int} {s : Nat} (h : sst one two st left s = some (c, l)) (hl : -1 ≤ left ∧ left ≤ most) : 0 ≤ c ∧ c < one.length ∧ -1 ≤ l ∧ l ≤ most ∧ l ≤ left := by
  obtain ⟨h1, rfl, h3⟩ := sst_some h
  obtain ⟨h4, h5, _⟩ := cdS_range hs h1
  omega
theorem sst_free {one two : List Nat} {st left c l : Int} {s : Nat} (h : sst one two st left s = some (c, l)) : sst one two st (-1) s = some (c, -1) := by
  obtain ⟨h1, rfl, _⟩ := sst_some h
  unfold sst
  rw [if_neg h1, if_pos (.inl rfl)]
theorem sst_stands {one two : List Nat} {st : Int} (hb : Bit st) {s : Nat} (h : s ∈ one ∨ s ∈ two) : (∃ c, sst one two st (-1) s = some (c, -1)) ∨ ∃ c, sst one two (1 - st) (-1) s = some (c, -1) := by
  have key : ∀ k, s ∈ pickS one two k → ∃ c, sst one two k (-1) s = some (c, -1) := by
    intro k hk
    have h1 : ¬ cdS one two k s < 0 := by
      unfold cdS
      rw [if_pos hk]
      omega
    refine ⟨cdS one two k s, ?_⟩
    unfold sst
    rw [if_neg h1, if_pos (.inl rfl)]
  rcases hb with rfl | rfl
  · rcases h with h | h
    · exact .inl (key 0 h)
    · exact .inr (key (1 - 0) h)
  · rcases h with h | h
    · exact .inr (key (1 - 1) h)
    · exact .inl (key 1 h)
theorem min4_le {a b c d : Int} : min4 a b c d ≤ a ∧ min4 a b c d ≤ b ∧ min4 a b c d ≤ c ∧ min4 a b c d ≤ d := by
  unfold min4
  omega
theorem min4_cases {a b c d : Int} : min4 a b c d = a ∨ min4 a b c d = b ∨ min4 a b c d = c ∨ min4 a b c d = d := by
  unfold min4
  omega
theorem le_min4 {a b c d x : Int} (h1 : x ≤ a) (h2 : x ≤ b) (h3 : x ≤ c) (h4 : x ≤ d) : x ≤ min4 a b c d := by
  unfold min4
  omega
theorem onc_some {one two : List Nat} {F : Int → Int → Int} {s : Nat} {st left c l : Int} (h : sst one two st left s = some (c, l)) : onc one two F s st left = 1 + F st l := by
  unfold onc
  rw [h]
theorem onc_none {one two : List Nat} {F : Int → Int → Int} {s : Nat} {st left : Int} (h : sst one two st left s = none) : onc one two F s st left = 1000000 := by
  unfold onc
  rw [h]
theorem Stands.tail {one two : List Nat} {s : Nat} {ss : List Nat} (h : Stands one two (s :: ss)) : Stands one two ss := fun x hx => h x (by simp [hx])
theorem Lf_nonneg (one two : List Nat) (most : Int) : ∀ (tx : List Nat) (st left : Int), 0 ≤ Lf one two most tx st left
  | [], _, _ => by simp [Lf]
  | s :: ss, st, left => by
    have key : ∀ k l, 0 ≤ onc one two (Lf one two most ss) s k l := by
      intro k l
      cases h : sst one two k l s with
      | none => rw [onc_none h]; decide
      | some x =>
        obtain ⟨c, l'⟩ := x
        rw [onc_some h]
        have := Lf_nonneg one two most ss k l'
        omega
    have h1 := key st left
    have h2 := key st (-1)
    have h3 := key (1 - st) most
    have h4 := key (1 - st) (-1)
    simp only [Lf]
    exact le_min4 h1 (by omega) (by omega) (by omega)
theorem bit_other {st : Int} (h : Bit st) : Bit (1 - st) := by
  unfold Bit at *
  omega
theorem Lf_bound {one two : List Nat} {most : Int} : ∀ {tx : List Nat} {st left : Int}, Bit st → Stands one two tx → Lf one two most tx st left ≤ 3 * tx.length
  | [], _, _, _, _ => by simp [Lf]
  | s :: ss, st, left, hb, hst => by
    have hm := @min4_le (onc one two (Lf one two most ss) s st left) (1 + onc one two (Lf one two most ss) s st (-1)) (1 + onc one two (Lf one two most ss) s (1 - st) most) (2 + onc one two (Lf one two most ss) s (1 - st) (-1))
    simp only [Lf, List.length_cons]
    rcases sst_stands hb (hst s (by simp)) with ⟨c, h⟩ | ⟨c, h⟩
    · have := Lf_bound (one := one) (two := two) (most := most) (tx := ss) (left := -1) hb hst.tail
      rw [onc_some h] at hm ⊢
      omega
    · have := Lf_bound (one := one) (two := two) (most := most) (tx := ss) (left := -1) (bit_other hb) hst.tail
      rw [onc_some h] at hm ⊢
      omega
theorem Lf_pos {one two : List Nat} {most : Int} {s : Nat} {ss : List Nat} {st left : Int} : 1 ≤ Lf one two most (s :: ss) st left := by
  have key : ∀ k l, 1 ≤ onc one two (Lf one two most ss) s k l := by
    intro k l
    cases h : sst one two k l s with
    | none => rw [onc_none h]; decide
    | some x =>
      obtain ⟨c, l'⟩ := x
      rw [onc_some h]
      have := Lf_nonneg one two most ss k l'
      omega
  have h1 := key st left
  have h2 := key st (-1)
  have h3 := key (1 - st) most
  have h4 := key (1 - st) (-1)
  simp only [Lf]
  exact le_min4 h1 (by omega) (by omega) (by omega)
theorem onc_free {one two : List Nat} {F : Int → Int → Int} {s : Nat} {st left : Int} (hF : ∀ l, F st (-1) ≤ F st l) (hB : F st (-1) ≤ 900000) : onc one two F s st (-1) ≤ onc one two F s st left := by
  cases h : sst one two st left s with
  | some x =>
    obtain ⟨c, l⟩ := x
    rw [onc_some h, onc_some (sst_free h)]
    have := hF l
    omega
  | none =>
    rw [onc_none h]
    cases h2 : sst one two st (-1) s with
    | none => rw [onc_none h2]; omega
    | some x =>
      obtain ⟨c, l⟩ := x
      rw [onc_some h2]
      obtain ⟨_, _, h3⟩ := sst_some h2
      have : l = -1 := by omega
      subst this
      omega
theorem Lf_free {one two : List Nat} {most : Int} : ∀ {tx : List Nat} {st : Int} (left : Int), Bit st → Stands one two tx → tx.length ≤ 1000 → Lf one two most tx st (-1) ≤ Lf one two most tx st left
  | [], _, _, _, _, _ => by simp [Lf]
  | s :: ss, st, left, hb, hst, hl => by
    rw [List.length_cons] at hl
    have h1 := onc_free (one := one) (two := two) (F := Lf one two most ss) (s := s) (st := st) (left := left) (fun l => Lf_free l hb hst.tail (by omega)) (by
      have := Lf_bound (one := one) (two := two) (most := most) (tx := ss) (left := -1) hb hst.tail
      omega)
    have hm := @min4_le (onc one two (Lf one two most ss) s st (-1)) (1 + onc one two (Lf one two most ss) s st (-1)) (1 + onc one two (Lf one two most ss) s (1 - st) most) (2 + onc one two (Lf one two most ss) s (1 - st) (-1))
    simp only [Lf]
    exact le_min4 (by omega) (by omega) (by omega) (by omega)
theorem onc_free' {one two : List Nat} {most : Int} {s : Nat} {ss : List Nat} {st : Int} (left : Int) (hb : Bit st) (hst : Stands one two ss) (hl : ss.length ≤ 1000) :
    onc one two (Lf one two most ss) s st (-1) ≤ onc one two (Lf one two most ss) s st left :=
  onc_free (fun l => Lf_free l hb hst hl) (by
    have := Lf_bound (one := one) (two := two) (most := most) (tx := ss) (left := -1) hb hst
    omega)
theorem Lf_sign {one two : List Nat} {most : Int} {s : Nat} {ss : List Nat} {st left c l : Int} (h : sst one two st left s = some (c, l)) : Lf one two most (s :: ss) st left ≤ 1 + Lf one two most ss st l := by
  have hm := @min4_le (onc one two (Lf one two most ss) s st left) (1 + onc one two (Lf one two most ss) s st (-1)) (1 + onc one two (Lf one two most ss) s (1 - st) most) (2 + onc one two (Lf one two most ss) s (1 - st) (-1))
  simp only [Lf]
  rw [onc_some h] at hm ⊢
  exact hm.1
theorem Lf_shift {one two : List Nat} {most : Int} {s : Nat} {ss : List Nat} {st left k : Int} (hb : Bit st) (hk : Bit k) (hst : Stands one two ss) (hl : ss.length ≤ 1000) : Lf one two most (s :: ss) st left ≤ 1 + Lf one two most (s :: ss) k (kept most st k) := by
  have hm := @min4_le (onc one two (Lf one two most ss) s st left) (1 + onc one two (Lf one two most ss) s st (-1)) (1 + onc one two (Lf one two most ss) s (1 - st) most) (2 + onc one two (Lf one two most ss) s (1 - st) (-1))
  by_cases e : k = st
  · subst e
    have hx : kept most k k = -1 := by simp [kept]
    rw [hx]
    simp only [Lf]
    have := le_min4 (x := Lf one two most (s :: ss) k left - 1) (a := onc one two (Lf one two most ss) s k (-1)) (b := 1 + onc one two (Lf one two most ss) s k (-1)) (c := 1 + onc one two (Lf one two most ss) s (1 - k) most) (d := 2 + onc one two (Lf one two most ss) s (1 - k) (-1)) (by simp only [Lf]; omega) (by simp only [Lf]; omega) (by simp only [Lf]; omega) (by simp only [Lf]; omega)
    simp only [Lf] at this
    omega
  · have ek : k = 1 - st := by
      unfold Bit at hb hk
      omega
    have hx : kept most st k = most := by simp [kept, e]
    have ek2 : 1 - k = st := by omega
    rw [hx]
    have hf := onc_free' (one := one) (two := two) (most := most) (s := s) (ss := ss) (st := st) most hb hst hl
    have := le_min4 (x := Lf one two most (s :: ss) st left - 1) (a := onc one two (Lf one two most ss) s k most) (b := 1 + onc one two (Lf one two most ss) s k (-1)) (c := 1 + onc one two (Lf one two most ss) s (1 - k) most) (d := 2 + onc one two (Lf one two most ss) s (1 - k) (-1)) (by simp only [Lf]; rw [ek]; omega) (by simp only [Lf]; rw [ek]; omega) (by simp only [Lf]; rw [ek2]; omega) (by simp only [Lf]; rw [ek2]; omega)
    simp only [Lf] at this ⊢
    omega
/-- some step keeps to the least length -/
theorem Lf_attain {one two : List Nat} {most : Int} {s : Nat} {ss : List Nat} {st left : Int} (hb : Bit st) (hst : Stands one two (s :: ss)) (hl : ss.length ≤ 1000) :
    (∃ c l, sst one two st left s = some (c, l) ∧ Lf one two most (s :: ss) st left = 1 + Lf one two most ss st l) ∨ ∃ k, Bit k ∧ Lf one two most (s :: ss) st left = 1 + Lf one two most (s :: ss) k (kept most st k) := by
  have hbd := Lf_bound (one := one) (two := two) (most := most) (tx := s :: ss) (left := left) hb hst
  rw [List.length_cons] at hbd
  have hs0 := Lf_shift (one := one) (two := two) (most := most) (s := s) (left := left) hb hb hst.tail hl
  have hs1 := Lf_shift (one := one) (two := two) (most := most) (s := s) (left := left) hb (bit_other hb) hst.tail hl
  have hx0 : kept most st st = -1 := by simp [kept]
  have hx1 : kept most st (1 - st) = most := by
    unfold kept
    rw [if_neg (by unfold Bit at hb; omega)]
  rw [hx0] at hs0
  rw [hx1] at hs1
  have hm := @min4_cases (onc one two (Lf one two most ss) s st left) (1 + onc one two (Lf one two most ss) s st (-1)) (1 + onc one two (Lf one two most ss) s (1 - st) most) (2 + onc one two (Lf one two most ss) s (1 - st) (-1))
  have hL : Lf one two most (s :: ss) st left = min4 (onc one two (Lf one two most ss) s st left) (1 + onc one two (Lf one two most ss) s st (-1)) (1 + onc one two (Lf one two most ss) s (1 - st) most) (2 + onc one two (Lf one two most ss) s (1 - st) (-1)) := by simp only [Lf]
  rw [← hL] at hm
  rcases hm with e | e | e | e
  · left
    cases h : sst one two st left s with
    | none =>
      rw [onc_none h] at e
      omega
    | some x =>
      obtain ⟨c, l⟩ := x
      rw [onc_some h] at e
      exact ⟨c, l, rfl, e⟩
  · right
    refine ⟨st, hb, ?_⟩
    rw [hx0]
    have h2 := @min4_le (onc one two (Lf one two most ss) s st (-1)) (1 + onc one two (Lf one two most ss) s st (-1)) (1 + onc one two (Lf one two most ss) s (1 - st) most) (2 + onc one two (Lf one two most ss) s (1 - st) (-1))
    have h3 : Lf one two most (s :: ss) st (-1) ≤ onc one two (Lf one two most ss) s st (-1) := by
      simp only [Lf]
      exact h2.1
    omega
  · right
    refine ⟨1 - st, bit_other hb, ?_⟩
    rw [hx1]
    have h2 := @min4_le (onc one two (Lf one two most ss) s (1 - st) most) (1 + onc one two (Lf one two most ss) s (1 - st) (-1)) (1 + onc one two (Lf one two most ss) s (1 - (1 - st)) most) (2 + onc one two (Lf one two most ss) s (1 - (1 - st)) (-1))
    have h3 : Lf one two most (s :: ss) (1 - st) most ≤ onc one two (Lf one two most ss) s (1 - st) most := by
      simp only [Lf]
      exact h2.1
    omega
  · right
    refine ⟨1 - st, bit_other hb, ?_⟩
    rw [hx1]
    have h2 := @min4_le (onc one two (Lf one two most ss) s (1 - st) most) (1 + onc one two (Lf one two most ss) s (1 - st) (-1)) (1 + onc one two (Lf one two most ss) s (1 - (1 - st)) most) (2 + onc one two (Lf one two most ss) s (1 - (1 - st)) (-1))
    have h3 : Lf one two most (s :: ss) (1 - st) most ≤ 1 + onc one two (Lf one two most ss) s (1 - st) (-1) := by
      simp only [Lf]
      exact h2.2.1
    omega
/-- no tape is shorter -/
theorem Run.lower {one two : List Nat} {most : Int} {st left : Int} {tx : List Nat} {t : List Int} (r : Run one two most st left tx t) (hb : Bit st) (hst : Stands one two tx) (hl : tx.length ≤ 1000) : Lf one two most tx st left ≤ t.length := by
  induction r with
  | nil => simp [Lf]
  | @sign st left s ss c l r h r' ih =>
    rw [List.length_cons] at hl
    have h1 := ih hb hst.tail (by omega)
    have h2 := Lf_sign (most := most) (ss := ss) h
    rw [List.length_cons]
    exact Int.le_trans h2 (by omega)
  | @shift st left s ss k r hk r' ih =>
    have h1 := ih hk hst hl
    rw [List.length_cons] at hl
    have h2 := Lf_shift (most := most) (s := s) (left := left) hb hk hst.tail (by omega)
    rw [List.length_cons]
    exact Int.le_trans h2 (by omega)
/-- there is one of the least length -/
theorem run_exists {one two : List Nat} {most : Int} : ∀ (n : Nat) {tx : List Nat} {st left : Int}, Bit st → Stands one two tx → tx.length ≤ 1000 → Lf one two most tx st left = n → ∃ t, Run one two most st left tx t ∧ t.length = n
  | 0, [], _, _, _, _, _, _ => ⟨[], .nil, rfl⟩
  | n + 1, [], _, _, _, _, _, e => by
    simp [Lf] at e
    omega
  | 0, s :: ss, st, left, _, _, _, e => by
    have := Lf_pos (one := one) (two := two) (most := most) (s := s) (ss := ss) (st := st) (left := left)
    omega
  | n + 1, s :: ss, st, left, hb, hst, hl, e => by
    have hl' := hl
    rw [List.length_cons] at hl'
    rcases Lf_attain (most := most) (left := left) hb hst (by omega) with ⟨c, l, h1, h2⟩ | ⟨k, h1, h2⟩
    · obtain ⟨t, h3, h4⟩ := run_exists n (most := most) (tx := ss) (st := st) (left := l) hb hst.tail (by omega) (by omega)
      exact ⟨c :: t, .sign h1 h3, by simp [h4]⟩
    · obtain ⟨t, h3, h4⟩ := run_exists n (most := most) (tx := s :: ss) (st := k) (left := kept most st k) h1 hst hl (by omega)
      exact ⟨_ :: t, .shift h1 h3, by simp [h4]⟩
/-! ### the least list of the shortest -/
theorem lex_irrefl : ∀ l : List Int, HT.lexLt l l = false
  | [] => rfl
  | x :: l => by simp [HT.lexLt, lex_irrefl l]
theorem lex_antisymm : ∀ {l m : List Int}, l.length = m.length → HT.lexLt l m = false → HT.lexLt m l = false → l = m
  | [], [], _, _, _ => rfl
  | [], _ :: _, h, _, _ => by simp at h
  | _ :: _, [], h, _, _ => by simp at h
  | x :: l, y :: m, h, h1, h2 => by
    by_cases e : x = y
    · subst e
      simp only [HT.lexLt, if_pos rfl] at h1 h2
      rw [lex_antisymm (by simpa using h) h1 h2]
    · have e2 : ¬ y = x := fun z => e z.symm
      simp only [HT.lexLt, if_neg e, if_neg e2, decide_eq_false_iff_not] at h1 h2
      omega
/-- shortest, and the least list of several -/
def Best (one two : List Nat) (most st left : Int) (tx : List Nat) (R : List Int) : Prop :=
  Run one two most st left tx R ∧ ∀ t, Run one two most st left tx t → R.length < t.length ∨ (R.length = t.length ∧ HT.lexLt t R = false)
theorem Best.unique {one two : List Nat} {most st left : Int} {tx : List Nat} {R R' : List Int} (h : Best one two most st left tx R) (h' : Best one two most st left tx R') : R = R' := by
  have h1 := h.2 R' h'.1
  have h2 := h'.2 R h.1
  have e : R.length = R'.length := by omega
  exact lex_antisymm e (by rcases h2 with h2 | h2; omega; exact h2.2) (by rcases h1 with h1 | h1; omega; exact h1.2)
theorem Best.len {one two : List Nat} {most st left : Int} {tx : List Nat} {R : List Int} (h : Best one two most st left tx R) (hb : Bit st) (hst : Stands one two tx) (hl : tx.length ≤ 1000) : (R.length : Int) = Lf one two most tx st left := by
  have h1 := h.1.lower hb hst hl
  have h0 := Lf_nonneg one two most tx st left
  obtain ⟨t, h2, h3⟩ := run_exists (Lf one two most tx st left).toNat (most := most) (left := left) hb hst hl (by omega)
  have h4 := h.2 t h2
  omega
theorem best_nil {one two : List Nat} {most st left : Int} : Best one two most st left [] [] := by
  refine ⟨.nil, fun t h => ?_⟩
  cases h
  exact .inr ⟨rfl, rfl⟩
theorem best_sign {one two : List Nat} (hs : Sets one two) {most st left c l : Int} {s : Nat} {ss : List Nat} {R : List Int} (hb : Bit st) (hst : Stands one two (s :: ss)) (hl : (s :: ss).length ≤ 1000) (hlf : -1 ≤ left ∧ left ≤ most)
    (h : sst one two st left s = some (c, l)) (e : Lf one two most (s :: ss) st left = 1 + Lf one two most ss st l) (hR : Best one two most st l ss R) : Best one two most st left (s :: ss) (c :: R) := by
  have hl' := hl
  rw [List.length_cons] at hl'
  have hlen := hR.len hb hst.tail (by omega)
  have hc := sst_range hs h hlf
  refine ⟨.sign h hR.1, fun t ht => ?_⟩
  have hlow := ht.lower hb hst hl
  rw [List.length_cons]
  by_cases hlt : R.length + 1 < t.length
  · exact .inl hlt
  · right
    refine ⟨by omega, ?_⟩
    cases ht with
    | sign h2 r2 =>
      rw [h] at h2
      cases h2
      have := hR.2 _ r2
      rw [List.length_cons] at hlt
      have h3 : R.length = _ ∧ _ := this.resolve_left (by omega)
      simp only [HT.lexLt, if_pos rfl]
      exact h3.2
    | @shift _ _ _ _ k r hk r2 =>
      have hk' := hk
      unfold Bit at hk'
      have h4 : ¬ (one.length : Int) + k = c := fun z => by omega
      simp only [HT.lexLt, if_neg h4, decide_eq_false_iff_not]
      omega
theorem best_shift {one two : List Nat} (hs : Sets one two) {most st left k : Int} {s : Nat} {ss : List Nat} {R : List Int} (hb : Bit st) (hk : Bit k) (hst : Stands one two (s :: ss)) (hl : (s :: ss).length ≤ 1000)
    (hno : ∀ c l, sst one two st left s = some (c, l) → Lf one two most (s :: ss) st left ≠ 1 + Lf one two most ss st l)
    (hno2 : ∀ k', Bit k' → k' < k → Lf one two most (s :: ss) st left ≠ 1 + Lf one two most (s :: ss) k' (kept most st k'))
    (e : Lf one two most (s :: ss) st left = 1 + Lf one two most (s :: ss) k (kept most st k)) (hR : Best one two most k (kept most st k) (s :: ss) R) : Best one two most st left (s :: ss) (((one.length : Int) + k) :: R) := by
  have hl' := hl
  rw [List.length_cons] at hl'
  have hlen := hR.len hk hst hl
  refine ⟨.shift hk hR.1, fun t ht => ?_⟩
  have hlow := ht.lower hb hst hl
  rw [List.length_cons]
  by_cases hlt : R.length + 1 < t.length
  · exact .inl hlt
  · right
    refine ⟨by omega, ?_⟩
    cases ht with
    | sign h2 r2 =>
      have h3 := r2.lower hb hst.tail (by omega)
      have h4 := Lf_sign (most := most) (ss := ss) h2
      have h5 := hno _ _ h2
      rw [List.length_cons] at hlt hlow
      omega
    | @shift _ _ _ _ k2 r hk2 r2 =>
      rw [List.length_cons] at hlt hlow
      have h3 := r2.lower hk2 hst hl
      have h4 := Lf_shift (most := most) (s := s) (left := left) hb hk2 hst.tail (by omega)
      by_cases e2 : k2 = k
      · subst e2
        have h5 := (hR.2 _ r2).resolve_left (by omega)
        simp only [HT.lexLt, if_pos rfl]
        exact h5.2
      · have h6 : ¬ k2 < k := fun z => by
          have := hno2 k2 hk2 z
          omega
        have h7 : ¬ (one.length : Int) + k2 = (one.length : Int) + k := by omega
        simp only [HT.lexLt, if_neg h7, decide_eq_false_iff_not]
        omega


/-! ### what a tape of a text is, by reading it -/
/-- no shift behind the last sign -/
def noTrail (n : Nat) : List Int → Prop
  | [] => True
  | [c] => c < (n : Int)
  | _ :: d :: r => noTrail n (d :: r)
theorem noTrail.tail {n : Nat} {c : Int} {r : List Int} (h : noTrail n (c :: r)) : noTrail n r := by
  cases r with
  | nil => exact trivial
  | cons d r => exact h
theorem noTrail.read {one two : List Nat} : ∀ {r : List Int} {k : Int}, noTrail one.length r → r ≠ [] → rdT one two k r ≠ []
  | [], _, _, h => absurd rfl h
  | [c], k, h, _ => by
    have h' : c < (one.length : Int) := h
    simp [rdT, h']
  | c :: d :: r, k, h, _ => by
    by_cases hc : c < (one.length : Int)
    · simp [rdT, hc]
    · have ih := noTrail.read (two := two) (r := d :: r) (k := c - one.length) h (by simp)
      rw [rdT, if_neg hc]
      exact ih
theorem noTrail.end {one : List Nat} {c : Int} {r : List Int} (h : noTrail one.length (c :: r)) (hc : ¬ c < (one.length : Int)) : r ≠ [] := by
  rintro rfl
  exact hc h
theorem cdS_sgn {one two : List Nat} {st : Int} {s : Nat} (h : ¬ cdS one two st s < 0) : sgn one two st (cdS one two st s) = s := by
  unfold cdS at h ⊢
  by_cases hm : s ∈ pickS one two st
  · rw [if_pos hm]
    unfold sgn pickS at *
    rw [Int.toNat_natCast, List.getD_eq_getElem?_getD, List.getElem?_eq_getElem (List.idxOf_lt_length_of_mem hm), Option.getD_some, List.getElem_idxOf]
  · rw [if_neg hm] at h
    omega
theorem cdS_code {one two : List Nat} (hs : Sets one two) {st c : Int} (h0 : 0 ≤ c) (h1 : c < (one.length : Int)) : cdS one two st (sgn one two st c) = c := by
  obtain ⟨h2, h3⟩ := pick_eq hs st
  have hlt : c.toNat < (pickS one two st).length := by omega
  have e : sgn one two st c = (pickS one two st)[c.toNat] := by
    unfold sgn pickS at *
    rw [List.getD_eq_getElem?_getD, List.getElem?_eq_getElem hlt]
    rfl
  unfold cdS
  rw [e, if_pos (List.getElem_mem hlt), h3.idxOf_getElem]
  omega
theorem Run.read {one two : List Nat} (hs : Sets one two) {most st left : Int} {tx : List Nat} {t : List Int} (r : Run one two most st left tx t) : Codes one.length t ∧ rdT one two st t = tx ∧ noTrail one.length t := by
  induction r with
  | nil => exact ⟨by simp [Codes], rfl, trivial⟩
  | @sign st left s ss c l r h r' ih =>
    obtain ⟨h1, rfl, _⟩ := sst_some h
    obtain ⟨h2, h3, _⟩ := cdS_range hs h1
    refine ⟨fun x hx => ?_, ?_, ?_⟩
    · rcases List.mem_cons.mp hx with rfl | hx
      · omega
      · exact ih.1 x hx
    · rw [rdT, if_pos h3, cdS_sgn h1, ih.2.1]
    · cases r with
      | nil => exact h3
      | cons d r => exact ih.2.2
  | @shift st left s ss k r hk r' ih =>
    have hk' := hk
    unfold Bit at hk'
    have hn : ¬ (one.length : Int) + k < one.length := by omega
    have e : (one.length : Int) + k - one.length = k := by omega
    refine ⟨fun x hx => ?_, ?_, ?_⟩
    · rcases List.mem_cons.mp hx with rfl | hx
      · omega
      · exact ih.1 x hx
    · rw [rdT, if_neg hn, e, ih.2.1]
    · cases r with
      | nil =>
        have := ih.2.1
        simp [rdT] at this
      | cons d r => exact ih.2.2
theorem los_zero (one two : List Nat) (st c : Int) (r : List Int) : los one two st (c :: r) 0 = los1 one two st c r := rfl
theorem los_succ (one two : List Nat) (st c : Int) (r : List Int) (j : Nat) : los one two st (c :: r) (j + 1) = los one two (if c < (one.length : Int) then st else c - one.length) r j := by
  unfold los
  by_cases hc : c < (one.length : Int)
  · simp [rdS, hc]
  · simp [rdS, hc]
/-- no lost code spoils more than so many -/
def Guard (one two : List Nat) (most st : Int) (t : List Int) : Prop := ∀ j, j < t.length → los one two st t j ≤ most
theorem guard_cons {one two : List Nat} {most st c : Int} {r : List Int} (hm : 0 ≤ most) : Guard one two most st (c :: r) ↔ los1 one two st c r ≤ most ∧ Guard one two most (if c < (one.length : Int) then st else c - one.length) r := by
  constructor
  · intro h
    refine ⟨h 0 (by simp), fun j hj => ?_⟩
    have := h (j + 1) (by simpa using hj)
    rw [los_succ] at this
    exact this
  · rintro ⟨h1, h2⟩ j hj
    cases j with
    | zero => exact h1
    | succ j =>
      rw [los_succ]
      exact h2 j (by simpa using hj)
theorem Run.guard {one two : List Nat} (hs : Sets one two) {most st left : Int} {tx : List Nat} {t : List Int} (r : Run one two most st left tx t) (hm : 0 ≤ most) (hl : -1 ≤ left) : Guard one two most st t ∧ (left ≠ -1 → (spo one two t : Int) ≤ left) := by
  induction r with
  | nil => exact ⟨fun j hj => by simp at hj, fun h => by simp [spo]; omega⟩
  | @sign st left s ss c l r h r' ih =>
    have hc := sst_some h
    have hrg := sst_range hs (most := max left most) h (by omega)
    have ih' := ih (by omega)
    have hn : c < (one.length : Int) := hrg.2.1
    have hn' : ¬ (one.length : Int) ≤ c := by omega
    refine ⟨(guard_cons hm).mpr ⟨?_, ?_⟩, fun hne => ?_⟩
    · unfold los1
      rw [if_neg hn']
      exact hm
    · rw [if_pos hn]
      exact ih'.1
    · rcases hc.2.2 with ⟨h1, h2⟩ | ⟨h1, h2, h3⟩
      · have h4 : comm one two c = true := h1.resolve_left hne
        rw [spo, if_neg hn', if_pos h4]
        have := ih'.2 (by omega)
        omega
      · have h4 : ¬ comm one two c = true := fun z => h1 (.inr z)
        rw [spo, if_neg hn', if_neg h4]
        have := ih'.2 (by omega)
        omega
  | @shift st left s ss k r hk r' ih =>
    have hk' := hk
    unfold Bit at hk'
    have hn : ¬ (one.length : Int) + k < one.length := by omega
    have hn' : (one.length : Int) ≤ (one.length : Int) + k := by omega
    have e : (one.length : Int) + k - one.length = k := by omega
    have ih' := ih (by unfold kept; split <;> omega)
    refine ⟨(guard_cons hm).mpr ⟨?_, ?_⟩, fun hne => ?_⟩
    · unfold los1
      rw [if_pos hn', e]
      by_cases hks : k = st
      · rw [if_pos hks]
        exact hm
      · rw [if_neg hks]
        have h1 := ih'.2
        have h2 : kept most st k = most := by simp [kept, hks]
        rw [h2] at h1
        exact h1 (by omega)
    · rw [if_neg hn, e]
      exact ih'.1
    · rw [spo_shift _ hn']
      omega
theorem run_of {one two : List Nat} (hs : Sets one two) {most : Int} (hm : 0 ≤ most) : ∀ {t : List Int} {st left : Int} {tx : List Nat}, Bit st → -1 ≤ left → Codes one.length t → rdT one two st t = tx → noTrail one.length t → Guard one two most st t → (left ≠ -1 → (spo one two t : Int) ≤ left) → Run one two most st left tx t
  | [], st, left, tx, _, _, _, e, _, _, _ => by
    simp only [rdT] at e
    subst e
    exact .nil
  | c :: r, st, left, tx, hb, hl, hc, e, ht, hg, hsp => by
    have h1 := hc c (by simp)
    have h2 : Codes one.length r := fun x hx => hc x (by simp [hx])
    obtain ⟨hg1, hg2⟩ := (guard_cons hm).mp hg
    by_cases hn : c < (one.length : Int)
    · have hn' : ¬ (one.length : Int) ≤ c := by omega
      rw [if_pos hn] at hg2
      simp only [rdT, if_pos hn] at e
      subst e
      have hcd := cdS_code hs (st := st) h1.1 hn
      have hneg : ¬ cdS one two st (sgn one two st c) < 0 := by rw [hcd]; omega
      simp only [spo, if_neg hn'] at hsp
      by_cases hfr : left = -1 ∨ comm one two c = true
      · refine .sign (l := left) ?_ (run_of hs hm hb hl h2 rfl ht.tail hg2 fun hne => ?_)
        · unfold sst
          rw [if_neg hneg, hcd, if_pos hfr]
        · have := hsp hne
          rw [if_pos (hfr.resolve_left hne)] at this
          omega
      · have hne : left ≠ -1 := fun z => hfr (.inl z)
        have hk : ¬ comm one two c = true := fun z => hfr (.inr z)
        have h3 := hsp hne
        rw [if_neg hk] at h3
        have hz : left ≠ 0 := by omega
        refine .sign (l := left - 1) ?_ (run_of hs hm hb (by omega) h2 rfl ht.tail hg2 fun _ => by omega)
        unfold sst
        rw [if_neg hneg, hcd, if_neg hfr, if_neg hz]
    · have hn' : (one.length : Int) ≤ c := by omega
      rw [if_neg hn] at hg2
      simp only [rdT, if_neg hn] at e
      have hk : Bit (c - one.length) := by
        unfold Bit
        omega
      have hne := ht.tail.read (two := two) (k := c - one.length) (ht.end hn)
      rw [e] at hne
      obtain ⟨s, ss, rfl⟩ : ∃ s ss, tx = s :: ss := by
        cases tx with
        | nil => exact absurd rfl hne
        | cons s ss => exact ⟨s, ss, rfl⟩
      have ec : c = (one.length : Int) + (c - one.length) := by omega
      rw [ec]
      refine .shift hk (run_of hs hm hk (by unfold kept; split <;> omega) h2 e ht.tail hg2 fun hne => ?_)
      unfold kept at hne ⊢
      by_cases hks : c - one.length = st
      · rw [if_pos hks] at hne
        exact absurd rfl hne
      · rw [if_neg hks]
        unfold los1 at hg1
        rw [if_pos hn', if_neg hks] at hg1
        exact hg1
/-- with all losses let pass -/
theorem run_free_of {one two : List Nat} (hs : Sets one two) : ∀ {t : List Int} {st : Int} {tx : List Nat}, Bit st → Codes one.length t → rdT one two st t = tx → noTrail one.length t → Run one two (-1) st (-1) tx t
  | [], st, tx, _, _, e, _ => by
    simp only [rdT] at e
    subst e
    exact .nil
  | c :: r, st, tx, hb, hc, e, ht => by
    have h1 := hc c (by simp)
    have h2 : Codes one.length r := fun x hx => hc x (by simp [hx])
    by_cases hn : c < (one.length : Int)
    · simp only [rdT, if_pos hn] at e
      subst e
      have hcd := cdS_code hs (st := st) h1.1 hn
      have hneg : ¬ cdS one two st (sgn one two st c) < 0 := by rw [hcd]; omega
      refine .sign (l := -1) ?_ (run_free_of hs hb h2 rfl ht.tail)
      unfold sst
      rw [if_neg hneg, hcd, if_pos (.inl rfl)]
    · simp only [rdT, if_neg hn] at e
      have hk : Bit (c - one.length) := by
        unfold Bit
        omega
      have hne := ht.tail.read (two := two) (k := c - one.length) (ht.end hn)
      rw [e] at hne
      obtain ⟨s, ss, rfl⟩ : ∃ s ss, tx = s :: ss := by
        cases tx with
        | nil => exact absurd rfl hne
        | cons s ss => exact ⟨s, ss, rfl⟩
      have ec : c = (one.length : Int) + (c - one.length) := by omega
      have hkp : kept (-1) st (c - one.length) = -1 := by
        unfold kept
        split <;> rfl
      rw [ec]
      refine .shift hk ?_
      rw [hkp]
      exact run_free_of hs hk h2 e ht.tail
/-- a wider number lets more tapes pass -/
theorem Run.mono {one two : List Nat} {m1 m2 st l1 : Int} {tx : List Nat} {t : List Int} (r : Run one two m1 st l1 tx t) (hm : m2 = -1 ∨ (m1 ≠ -1 ∧ m1 ≤ m2)) : ∀ {l2 : Int}, (l2 = -1 ∨ (l1 ≠ -1 ∧ l1 ≤ l2)) → -1 ≤ l1 → -1 ≤ m1 → Run one two m2 st l2 tx t := by
  induction r with
  | nil => intros; exact .nil
  | @sign st left s ss c l r h r' ih =>
    intro l2 hl h1 h2
    obtain ⟨h3, rfl, h4⟩ := sst_some h
    by_cases hfr : l2 = -1 ∨ comm one two (cdS one two st s) = true
    · refine .sign (l := l2) ?_ (ih ?_ ?_ h2)
      · unfold sst
        rw [if_neg h3, if_pos hfr]
      · rcases h4 with ⟨h5, rfl⟩ | ⟨h5, h6, rfl⟩
        · exact hl
        · rcases hfr with hf | hf
          · exact .inl hf
          · exact absurd (.inr hf) h5
      · rcases h4 with ⟨h5, rfl⟩ | ⟨h5, h6, rfl⟩
        · exact h1
        · have : left ≠ -1 := fun z => h5 (.inl z)
          omega
    · have hl2 : l2 ≠ -1 := fun z => hfr (.inl z)
      have hk : ¬ comm one two (cdS one two st s) = true := fun z => hfr (.inr z)
      have h7 := hl.resolve_left hl2
      rcases h4 with ⟨h5, rfl⟩ | ⟨h5, h6, rfl⟩
      · exact absurd (h5.resolve_left h7.1) hk
      · refine .sign (l := l2 - 1) ?_ (ih (.inr ⟨by omega, by omega⟩) (by omega) h2)
        unfold sst
        rw [if_neg h3, if_neg hfr, if_neg (by omega)]
  | @shift st left s ss k r hk r' ih =>
    intro l2 hl h1 h2
    refine .shift hk (ih ?_ ?_ h2)
    · unfold kept
      by_cases hks : k = st
      · rw [if_pos hks, if_pos hks]
        exact .inl rfl
      · rw [if_neg hks, if_neg hks]
        exact hm
    · unfold kept
      split <;> omega
/-- a number as great as the text is long lets all pass -/
theorem Run.wide0 {one two : List Nat} {m st l0 : Int} {tx : List Nat} {t : List Int} (r : Run one two (-1) st l0 tx t) : l0 = -1 → ∀ {l : Int}, (tx.length : Int) ≤ m → (l = -1 ∨ (tx.length : Int) ≤ l) → Run one two m st l tx t := by
  induction r with
  | nil => intros; exact .nil
  | @sign st left s ss c l' r h r' ih =>
    intro hl0 l hm hl
    subst hl0
    obtain ⟨h3, rfl, h4⟩ := sst_some h
    have hl' : l' = -1 := by
      rcases h4 with ⟨_, h⟩ | ⟨h5, _⟩
      · exact h
      · exact absurd (.inl rfl) h5
    rw [List.length_cons] at hm hl
    by_cases hfr : l = -1 ∨ comm one two (cdS one two st s) = true
    · refine .sign (l := l) ?_ (ih hl' (by omega) (by omega))
      unfold sst
      rw [if_neg h3, if_pos hfr]
    · have hl2 : l ≠ -1 := fun z => hfr (.inl z)
      refine .sign (l := l - 1) ?_ (ih hl' (by omega) (by omega))
      unfold sst
      rw [if_neg h3, if_neg hfr, if_neg (by omega)]
  | @shift st left s ss k r hk r' ih =>
    intro hl0 l hm hl
    have hkp : kept (-1) st k = -1 := by
      unfold kept
      split <;> rfl
    refine .shift hk (ih hkp hm ?_)
    unfold kept
    split
    · exact .inl rfl
    · exact .inr hm
theorem Run.wide {one two : List Nat} {m st : Int} {tx : List Nat} {t : List Int} (r : Run one two (-1) st (-1) tx t) {l : Int} (hm : (tx.length : Int) ≤ m) (hl : l = -1 ∨ (tx.length : Int) ≤ l) : Run one two m st l tx t := r.wide0 rfl hm hl
theorem Run.free {one two : List Nat} {m st l : Int} {tx : List Nat} {t : List Int} (r : Run one two m st l tx t) (hm : -1 ≤ m) (hl : -1 ≤ l) : Run one two (-1) st (-1) tx t := r.mono (.inl rfl) (.inl rfl) hl hm
theorem best_wide {one two : List Nat} {m st : Int} {tx : List Nat} {R : List Int} (hm : (tx.length : Int) ≤ m) : Best one two (-1) st (-1) tx R ↔ Best one two m st (-1) tx R := by
  have key : ∀ t, Run one two (-1) st (-1) tx t ↔ Run one two m st (-1) tx t := fun t => ⟨fun r => r.wide hm (.inl rfl), fun r => r.free (by omega) (by decide)⟩
  unfold Best
  constructor
  · rintro ⟨h1, h2⟩
    exact ⟨(key R).mp h1, fun t ht => h2 t ((key t).mpr ht)⟩
  · rintro ⟨h1, h2⟩
    exact ⟨(key R).mpr h1, fun t ht => h2 t ((key t).mp ht)⟩
/-- a text with a sign more -/
theorem Run.less {one two : List Nat} {m st l : Int} {tx : List Nat} {t : List Int} (r : Run one two m st l tx t) : ∀ {ss : List Nat} {s : Nat}, tx = ss ++ [s] → ∃ t', Run one two m st l ss t' ∧ t'.length < t.length := by
  induction r with
  | nil =>
    intro ss s e
    simp at e
  | @sign st left a as c l r h r' ih =>
    intro ss s e
    cases ss with
    | nil => exact ⟨[], .nil, by simp⟩
    | cons b bs =>
      simp only [List.cons_append, List.cons.injEq] at e
      obtain ⟨rfl, e⟩ := e
      obtain ⟨t', h1, h2⟩ := ih e
      exact ⟨c :: t', .sign h h1, by simpa using h2⟩
  | @shift st left a as k r hk r' ih =>
    intro ss s e
    cases ss with
    | nil => exact ⟨[], .nil, by simp⟩
    | cons b bs =>
      obtain ⟨t', h1, h2⟩ := ih e
      exact ⟨_ :: t', .shift hk h1, by simpa using h2⟩


/-! ### rows of lengths, by state and what is left -/
abbrev key2 (a b : Int) : List Key := [.inl a, .inl b]
def rowOf (F : Int → Int → Int) (ks : List (Int × Int)) : List (List Key × V) := ks.map fun k => (key2 k.1 k.2, V.int (F k.1 k.2))
def leftsM (most : Int) : List Int := -1 :: (List.range (most + 1).toNat).map fun i => ((i : Nat) : Int)
def keysM (most : Int) : List (Int × Int) := (leftsM most).map (fun l => (0, l)) ++ (leftsM most).map (fun l => (1, l))
theorem mem_lefts {most l : Int} (hm : -1 ≤ most) : l ∈ leftsM most ↔ -1 ≤ l ∧ l ≤ most := by
  unfold leftsM
  simp only [List.mem_cons, List.mem_map, List.mem_range]
  constructor
  · rintro (rfl | ⟨i, hi, rfl⟩)
    · omega
    · omega
  · intro h
    by_cases e : l = -1
    · exact .inl e
    · exact .inr ⟨l.toNat, by omega, by omega⟩
theorem nodup_lefts (most : Int) : (leftsM most).Nodup := by
  unfold leftsM
  refine List.nodup_cons.mpr ⟨?_, ?_⟩
  · intro h
    obtain ⟨i, _, e⟩ := List.mem_map.mp h
    omega
  · refine List.Pairwise.map _ (fun a b h => ?_) (List.nodup_range)
    omega
theorem mem_keys {most s l : Int} (hm : -1 ≤ most) : (s, l) ∈ keysM most ↔ Bit s ∧ -1 ≤ l ∧ l ≤ most := by
  unfold keysM Bit
  rw [List.mem_append, List.mem_map, List.mem_map]
  constructor
  · rintro (⟨x, h, e⟩ | ⟨x, h, e⟩)
    · cases e
      exact ⟨.inl rfl, (mem_lefts hm).mp h⟩
    · cases e
      exact ⟨.inr rfl, (mem_lefts hm).mp h⟩
  · rintro ⟨rfl | rfl, h⟩
    · exact .inl ⟨l, (mem_lefts hm).mpr h, rfl⟩
    · exact .inr ⟨l, (mem_lefts hm).mpr h, rfl⟩
theorem nodup_keys (most : Int) : (keysM most).Nodup := by
  unfold keysM
  refine List.nodup_append.mpr ⟨?_, ?_, ?_⟩
  · exact List.Pairwise.map _ (fun a b h e => h (by cases e; rfl)) (nodup_lefts most)
  · exact List.Pairwise.map _ (fun a b h e => h (by cases e; rfl)) (nodup_lefts most)
  · intro x hx y hy e
    obtain ⟨a, _, rfl⟩ := List.mem_map.mp hx
    obtain ⟨b, _, rfl⟩ := List.mem_map.mp hy
    have := congrArg Prod.fst e
    simp at this
theorem len_lefts {most : Int} (h1 : -1 ≤ most) : (leftsM most).length = (most + 2).toNat := by
  unfold leftsM
  simp
  omega
theorem len_keys {most : Int} (h1 : -1 ≤ most) : (keysM most).length = 2 * (most + 2).toNat := by
  unfold keysM
  rw [List.length_append, List.length_map, List.length_map, len_lefts h1]
  omega
theorem key2_inj {a b c d : Int} (h : key2 a b = key2 c d) : a = c ∧ b = d := by
  unfold key2 at h
  simp only [List.cons.injEq, Sum.inl.injEq, and_true] at h
  exact h
theorem val_row {F : Int → Int → Int} : ∀ {ks : List (Int × Int)} {s l : Int}, (s, l) ∈ ks → valV (rowOf F ks) (key2 s l) = some (.int (F s l))
  | [], _, _, h => by simp at h
  | k :: ks, s, l, h => by
    by_cases e : k = (s, l)
    · subst e
      exact valV_pos (p := (key2 s l, V.int (F s l))) rfl
    · have h2 : (s, l) ∈ ks := by
        rcases List.mem_cons.mp h with h | h
        · exact absurd h.symm e
        · exact h
      show valV ((key2 k.1 k.2, V.int (F k.1 k.2)) :: rowOf F ks) (key2 s l) = _
      rw [valV_neg (fun z => e (by obtain ⟨h3, h4⟩ := key2_inj z; exact Prod.ext h3 h4))]
      exact val_row h2
theorem val_no {F : Int → Int → Int} : ∀ {ks : List (Int × Int)} {s l : Int}, (s, l) ∉ ks → valV (rowOf F ks) (key2 s l) = none
  | [], _, _, _ => rfl
  | k :: ks, s, l, h => by
    rw [List.mem_cons, not_or] at h
    show valV ((key2 k.1 k.2, V.int (F k.1 k.2)) :: rowOf F ks) (key2 s l) = _
    rw [valV_neg (fun z => h.1 (by obtain ⟨h3, h4⟩ := key2_inj z; exact (Prod.ext h3 h4).symm))]
    exact val_no h.2
theorem len_row (F : Int → Int → Int) (ks : List (Int × Int)) : (rowOf F ks).length = ks.length := List.length_map _
theorem row_at {F : Int → Int → Int} {ks : List (Int × Int)} {i : Nat} {k : List Key} {v : V} (h : (rowOf F ks)[i]? = some (k, v)) : ∃ s l, ks[i]? = some (s, l) ∧ k = key2 s l ∧ v = .int (F s l) := by
  unfold rowOf at h
  rw [List.getElem?_map] at h
  cases e : ks[i]? with
  | none => rw [e] at h; cases h
  | some x =>
    rw [e] at h
    cases h
    exact ⟨x.1, x.2, rfl, rfl, rfl⟩
theorem put_row {F : Int → Int → Int} {ks : List (Int × Int)} {i : Nat} {s l : Int} (hn : ks.Nodup) (h : ks[i]? = some (s, l)) : putK (rowOf F (ks.take i)) (key2 s l) (.int (F s l)) = rowOf F (ks.take (i + 1)) := by
  obtain ⟨hi, hv⟩ := List.getElem?_eq_some_iff.mp h
  have hno : (s, l) ∉ ks.take i := by
    intro hm
    obtain ⟨j, hj, e⟩ := List.getElem_of_mem hm
    rw [List.getElem_take] at e
    rw [List.length_take] at hj
    have hp := List.pairwise_iff_getElem.mp hn j i (by omega) hi (by omega)
    exact hp (e.trans hv.symm)
  rw [putK_new _ (val_no hno), take_snoc h]
  unfold rowOf
  rw [List.map_append]
  rfl
theorem row_congr {F G : Int → Int → Int} {ks : List (Int × Int)} (h : ∀ s l, (s, l) ∈ ks → F s l = G s l) : rowOf F ks = rowOf G ks := by
  unfold rowOf
  refine List.map_congr_left fun k hk => ?_
  rw [h k.1 k.2 hk]


/-! ### the shortest tapes: what follows of them -/
theorem Best.le {one two : List Nat} {most st left : Int} {tx : List Nat} {R t : List Int} (h : Best one two most st left tx R) (r : Run one two most st left tx t) : R.length ≤ t.length := by
  have := h.2 t r
  omega
theorem noTrail.cons {n : Nat} {c : Int} {r : List Int} (hc : c < (n : Int)) (h : noTrail n r) : noTrail n (c :: r) := by
  cases r with
  | nil => exact hc
  | cons d r => exact h
theorem trm_trail {one two : List Nat} : ∀ {sh : Int} {l : List (Int × Int)}, Needs one.length l → noTrail one.length (trm one two sh l)
  | _, [], _ => trivial
  | sh, x :: l, hn => by
    have h1 := hn x (by simp)
    have h2 : Needs one.length l := fun y m => hn y (by simp [m])
    by_cases hw : wants one two sh x = true
    · simp only [trm, if_pos hw]
      show noTrail one.length (x.1 :: trm one two x.2 l)
      exact noTrail.cons h1.2.1 (trm_trail h2)
    · simp only [trm, if_neg hw]
      exact noTrail.cons h1.2.1 (trm_trail h2)
theorem trim_least {one two : List Nat} (hs : Sets one two) {st : Int} (hb : Bit st) {tx : List Nat} {R : List Int} (h : Best one two (-1) st (-1) tx R) : (trim one two st R).length = R.length := by
  obtain ⟨hc, hr, _⟩ := h.1.read hs
  have h1 := trim_len (one := one) (two := two) (st := st) (tp := R)
  have h2 : Run one two (-1) st (-1) tx (trim one two st R) := run_free_of hs hb (trim_codes hb hc) (by rw [trim_read hb hc, hr]) (trm_trail (need_ok hb hc))
  have h3 := h.le h2
  omega
/-- tapes of texts of so many signs have so many codes at the most -/
theorem Best.short {one two : List Nat} {most st left : Int} {tx : List Nat} {R : List Int} (h : Best one two most st left tx R) (hb : Bit st) (hst : Stands one two tx) (hl : tx.length ≤ 1000) : R.length ≤ 3 * tx.length := by
  have h1 := h.len hb hst hl
  have h2 := Lf_bound (one := one) (two := two) (most := most) (tx := tx) (left := left) hb hst
  omega


/-! ### level by level -/
theorem lex_ntrans : ∀ {a b c : List Int}, a.length = b.length → b.length = c.length → HT.lexLt a b = false → HT.lexLt b c = false → HT.lexLt a c = false
  | [], [], [], _, _, _, _ => rfl
  | [], _ :: _, _, h, _, _, _ => by simp at h
  | _ :: _, [], _, h, _, _, _ => by simp at h
  | _, [], _ :: _, _, h, _, _ => by simp at h
  | _, _ :: _, [], _, h, _, _ => by simp at h
  | x :: a, y :: b, z :: c, h1, h2, h3, h4 => by
    by_cases e1 : x = y
    · subst e1
      simp only [HT.lexLt, if_pos rfl] at h3
      by_cases e2 : x = z
      · subst e2
        simp only [HT.lexLt, if_pos rfl] at h4 ⊢
        exact lex_ntrans (by simpa using h1) (by simpa using h2) h3 h4
      · simp only [HT.lexLt, if_neg e2] at h4 ⊢
        exact h4
    · simp only [HT.lexLt, if_neg e1, decide_eq_false_iff_not] at h3
      by_cases e2 : y = z
      · subst e2
        simp only [HT.lexLt, if_neg e1, decide_eq_false_iff_not]
        exact h3
      · simp only [HT.lexLt, if_neg e2, decide_eq_false_iff_not] at h4
        have e3 : ¬ x = z := by omega
        simp only [HT.lexLt, if_neg e3, decide_eq_false_iff_not]
        omega
theorem lex_asymm : ∀ {a b : List Int}, HT.lexLt a b = true → HT.lexLt b a = false
  | [], [], h => by simp [HT.lexLt] at h
  | [], _ :: _, _ => by simp [HT.lexLt]
  | _ :: _, [], h => by simp [HT.lexLt] at h
  | x :: a, y :: b, h => by
    by_cases e : x = y
    · subst e
      simp only [HT.lexLt, if_pos rfl] at h ⊢
      exact lex_asymm h
    · have e2 : ¬ y = x := fun z => e z.symm
      simp only [HT.lexLt, if_neg e, decide_eq_true_eq] at h
      simp only [HT.lexLt, if_neg e2, decide_eq_false_iff_not]
      omega
theorem lex_snoc : ∀ {a b : List Int} (c : Int), a.length = b.length → HT.lexLt a b = false → HT.lexLt (a ++ [c]) (b ++ [c]) = false
  | [], [], c, _, _ => by simp [HT.lexLt]
  | [], _ :: _, _, h, _ => by simp at h
  | _ :: _, [], _, h, _ => by simp at h
  | x :: a, y :: b, c, h, h1 => by
    by_cases e : x = y
    · subst e
      simp only [List.cons_append, HT.lexLt, if_pos rfl] at h1 ⊢
      exact lex_snoc c (by simpa using h) h1
    · simp only [List.cons_append, HT.lexLt, if_neg e] at h1 ⊢
      exact h1
/-- a place in the text, a state, and how many the shift ahead spoils (-1 where none) -/
abbrev K3 := Int × Int × Int
def addS (one two : List Nat) (c sp : Int) : Int := sp + (if 0 ≤ sp ∧ comm one two c = false then 1 else 0)
def afterS (here k : Int) : Int := if k = here then -1 else 0
/-- one code more -/
inductive Stp (one two : List Nat) (most : Int) (tx : List Nat) : K3 → Int → K3 → Prop
  | shift {k h sp j : Int} : Bit j → Stp one two most tx (k, h, sp) ((one.length : Int) + j) (k, j, afterS h j)
  | sign {k : Nat} {h sp : Int} {s : Nat} : tx[k]? = some s → s ∈ pickS one two h → addS one two (cdS one two h s) sp ≤ most → Stp one two most tx ((k : Int), h, sp) (cdS one two h s) ((k : Int) + 1, h, addS one two (cdS one two h s) sp)
/-- a way to a place, through places ahead of the end -/
inductive Pth (one two : List Nat) (most : Int) (tx : List Nat) (st : Int) : List Int → K3 → Prop
  | nil : Pth one two most tx st [] (0, st, -1)
  | snoc {t : List Int} {k k' : K3} {c : Int} : Pth one two most tx st t k → k.1 ≠ tx.length → Stp one two most tx k c k' → Pth one two most tx st (t ++ [c]) k'
def InK (most : Int) (n : Nat) (k : K3) : Prop := 0 ≤ k.1 ∧ k.1 ≤ (n : Int) ∧ Bit k.2.1 ∧ -1 ≤ k.2.2 ∧ k.2.2 ≤ most
theorem cdS_pick {one two : List Nat} {h : Int} {s : Nat} (hm : s ∈ pickS one two h) : ¬ cdS one two h s < 0 := by
  unfold cdS
  rw [if_pos hm]
  omega
theorem Stp.inK {one two : List Nat} {most : Int} {tx : List Nat} {k k' : K3} {c : Int} (h : Stp one two most tx k c k') (hm : 0 ≤ most) (hk : InK most tx.length k) : InK most tx.length k' := by
  obtain ⟨h1, h2, h3, h4, h5⟩ := hk
  cases h with
  | shift hj =>
    refine ⟨h1, h2, hj, ?_, ?_⟩
    · show -1 ≤ afterS _ _
      unfold afterS
      split <;> omega
    · show afterS _ _ ≤ most
      unfold afterS
      split <;> omega
  | @sign k h sp s hs hp hle =>
    have hlt := (List.getElem?_eq_some_iff.mp hs).1
    refine ⟨by show (0 : Int) ≤ (k : Int) + 1; omega, by show (k : Int) + 1 ≤ _; omega, h3, ?_, hle⟩
    show -1 ≤ addS _ _ _ _
    simp only at h4
    unfold addS
    split <;> omega
theorem Pth.inK {one two : List Nat} {most : Int} {tx : List Nat} {st : Int} {t : List Int} {k : K3} (h : Pth one two most tx st t k) (hm : 0 ≤ most) (hb : Bit st) : InK most tx.length k := by
  induction h with
  | nil => exact ⟨Int.le_refl _, by show (0 : Int) ≤ _; omega, hb, Int.le_refl _, by show -1 ≤ most; omega⟩
  | snoc _ _ hs ih => exact hs.inK hm ih
/-- what is left, by what is spoilt -/
def lft (most sp : Int) : Int := if sp = -1 then -1 else most - sp
theorem lft_after {most h j : Int} : lft most (afterS h j) = kept most h j := by
  unfold lft afterS kept
  by_cases e : j = h
  · simp [e]
  · simp [e]
theorem sst_add {one two : List Nat} {most h sp : Int} {s : Nat} (h1 : -1 ≤ sp) (h2 : sp ≤ most) (hp : s ∈ pickS one two h) : (addS one two (cdS one two h s) sp ≤ most → sst one two h (lft most sp) s = some (cdS one two h s, lft most (addS one two (cdS one two h s) sp))) ∧
    (¬ addS one two (cdS one two h s) sp ≤ most → sst one two h (lft most sp) s = none) := by
  have hc := cdS_pick hp
  unfold sst
  rw [if_neg hc]
  generalize cdS one two h s = c
  unfold addS
  by_cases h3 : sp = -1
  · subst h3
    refine ⟨fun _ => ?_, fun z => ?_⟩
    · have e : lft most (-1) = -1 := by simp [lft]
      rw [e, if_pos (.inl rfl), if_neg (by omega)]
      simp [lft]
    · rw [if_neg (by omega)] at z
      omega
  · have h4 : lft most sp = most - sp := by simp [lft, h3]
    rw [h4]
    by_cases h5 : comm one two c = true
    · have h7 : most - sp = -1 ∨ comm one two c = true := .inr h5
      rw [if_pos h7]
      refine ⟨fun _ => ?_, fun z => ?_⟩
      · rw [if_neg (by simp [h5]), Int.add_zero, h4]
      · rw [if_neg (by simp [h5])] at z
        omega
    · have h6 : comm one two c = false := by simpa using h5
      have h7 : ¬ (most - sp = -1 ∨ comm one two c = true) := by
        rintro (z | z)
        · omega
        · exact h5 z
      rw [if_neg h7, if_pos ⟨by omega, h6⟩]
      refine ⟨fun z => ?_, fun z => ?_⟩
      · rw [if_neg (by omega)]
        have : lft most (sp + 1) = most - (sp + 1) := by
          unfold lft
          rw [if_neg (by omega)]
        rw [this]
        congr 2
        omega
      · rw [if_pos (by omega)]
theorem pth_run {one two : List Nat} {most : Int} {tx : List Nat} {st : Int} (hm : 0 ≤ most) (hb : Bit st) {t : List Int} {k : K3} (h : Pth one two most tx st t k) : ∀ r, Run one two most k.2.1 (lft most k.2.2) (tx.drop k.1.toNat) r → Run one two most st (-1) tx (t ++ r) := by
  induction h with
  | nil =>
    intro r hr
    exact hr
  | @snoc t k k' c hp hne hs ih =>
    have hk := hp.inK hm hb
    intro r hr
    rw [List.append_assoc]
    refine ih _ ?_
    obtain ⟨h1, h2, h3, h4, h5⟩ := hk
    cases hs with
    | @shift k h sp j hj =>
      simp only at h1 h2 h3 h4 h5 hne hr ⊢
      have hlt : k.toNat < tx.length := by omega
      rw [← List.getElem_cons_drop (i := k.toNat) (h := hlt)] at hr ⊢
      rw [lft_after] at hr
      exact .shift hj hr
    | @sign k h sp s hs hpk hle =>
      simp only at h1 h2 h3 h4 h5 hne hr ⊢
      obtain ⟨hlt, hv⟩ := List.getElem?_eq_some_iff.mp hs
      rw [Int.toNat_natCast, ← List.getElem_cons_drop (i := k) (h := hlt), hv]
      rw [show ((k : Int) + 1).toNat = k + 1 by omega] at hr
      exact .sign ((sst_add h4 h5 hpk).1 hle) hr
theorem run_pth {one two : List Nat} {most : Int} {tx : List Nat} {st : Int} (hm : 0 ≤ most) (hb : Bit st) {h left : Int} {ss : List Nat} {r : List Int} (hr : Run one two most h left ss r) : ∀ {t : List Int} {k sp : Int}, Pth one two most tx st t (k, h, sp) → left = lft most sp → ss = tx.drop k.toNat →
    ∃ h' sp', Pth one two most tx st (t ++ r) ((tx.length : Int), h', sp') := by
  induction hr with
  | @nil h left =>
    intro t k sp hp hl hd
    obtain ⟨h1, h2, _⟩ := hp.inK hm hb
    have h3 : tx.length ≤ k.toNat := List.drop_eq_nil_iff.mp hd.symm
    simp only at h1 h2
    have : k = (tx.length : Int) := by omega
    subst this
    exact ⟨h, sp, by rw [List.append_nil]; exact hp⟩
  | @sign h left s ss c l r hs hr ih =>
    intro t k sp hp hl hd
    obtain ⟨h1, h2, h3, h4, h5⟩ := hp.inK hm hb
    simp only at h1 h2 h3 h4 h5
    have hlt : k.toNat < tx.length := by
      refine Nat.lt_of_not_le fun z => ?_
      rw [List.drop_of_length_le z] at hd
      cases hd
    have hcons := List.getElem_cons_drop (i := k.toNat) (h := hlt)
    rw [← hcons] at hd
    obtain ⟨e1, e2⟩ := List.cons.inj hd
    have hss : tx[k.toNat]? = some s := by rw [List.getElem?_eq_getElem hlt, e1]
    have hneg := (sst_some hs).1
    have hpick : s ∈ pickS one two h := by
      unfold cdS at hneg
      by_cases hm : s ∈ pickS one two h
      · exact hm
      · rw [if_neg hm] at hneg
        omega
    have hadd := sst_add (one := one) (two := two) (h := h) (s := s) h4 h5 hpick
    rw [← hl, hs] at hadd
    have hle : addS one two (cdS one two h s) sp ≤ most := Classical.byContradiction fun z => by
      have := hadd.2 z
      cases this
    have hcl := hadd.1 hle
    cases hcl
    have hk' : ((k.toNat : Nat) : Int) = k := by omega
    have hstp := Stp.sign (sp := sp) hss hpick hle
    rw [hk'] at hstp
    obtain ⟨h', sp', hf⟩ := ih (hp.snoc (by simp only; omega) hstp) rfl (by rw [e2, show (k + 1).toNat = k.toNat + 1 by omega])
    exact ⟨h', sp', by rw [List.append_assoc] at hf; exact hf⟩
  | @shift h left s ss j r hj hr ih =>
    intro t k sp hp hl hd
    obtain ⟨h1, h2, h3, h4, h5⟩ := hp.inK hm hb
    simp only at h1 h2 h3 h4 h5
    have hlt : k.toNat < tx.length := by
      refine Nat.lt_of_not_le fun z => ?_
      rw [List.drop_of_length_le z] at hd
      cases hd
    obtain ⟨h', sp', hf⟩ := ih (hp.snoc (by simp only; omega) (Stp.shift (sp := sp) hj)) lft_after.symm hd
    exact ⟨h', sp', by rw [List.append_assoc] at hf; exact hf⟩
theorem pth_tape {one two : List Nat} {most : Int} {tx : List Nat} {st : Int} (hm : 0 ≤ most) (hb : Bit st) {t : List Int} {k : K3} (h : Pth one two most tx st t k) (hk : k.1 = tx.length) : Run one two most st (-1) tx t := by
  have := pth_run hm hb h [] (by
    rw [hk, Int.toNat_natCast, List.drop_length]
    exact .nil)
  rw [List.append_nil] at this
  exact this
theorem tape_pth {one two : List Nat} {most : Int} {tx : List Nat} {st : Int} (hm : 0 ≤ most) (hb : Bit st) {t : List Int} (h : Run one two most st (-1) tx t) : ∃ h' sp', Pth one two most tx st t ((tx.length : Int), h', sp') := by
  have := run_pth hm hb h (t := []) (k := 0) (sp := -1) .nil (by simp [lft]) rfl
  exact this
/-- what stands after so many codes: the least way to each place -/
structure Lvl (one two : List Nat) (most : Int) (tx : List Nat) (st : Int) (d : Nat) (M : K3 → Option (List Int)) : Prop where
  sound : ∀ k t, M k = some t → Pth one two most tx st t k ∧ t.length = d
  all : ∀ k t, Pth one two most tx st t k → t.length = d → ∃ t', M k = some t' ∧ HT.lexLt t t' = false
/-- .. of the next level, the steps of some places done -/
structure Nxt (one two : List Nat) (most : Int) (tx : List Nat) (st : Int) (d : Nat) (Dn : List Int → Int → K3 → Prop) (M : K3 → Option (List Int)) : Prop where
  sound : ∀ k t, M k = some t → Pth one two most tx st t k ∧ t.length = d + 1
  all : ∀ t c k, Dn t c k → t.length = d → ∃ t', M k = some t' ∧ HT.lexLt (t ++ [c]) t' = false
def updM (M : K3 → Option (List Int)) (k : K3) (t : List Int) : K3 → Option (List Int) := fun j => if j = k then some t else M j
theorem Nxt.put {one two : List Nat} {most : Int} {tx : List Nat} {st : Int} {d : Nat} {Dn : List Int → Int → K3 → Prop} {M : K3 → Option (List Int)} (h : Nxt one two most tx st d Dn M) {t : List Int} {k : K3} {c : Int} (hp : Pth one two most tx st (t ++ [c]) k) (hl : t.length = d)
    (hlt : ∀ o, M k = some o → HT.lexLt (t ++ [c]) o = true) : Nxt one two most tx st d (fun t' c' k' => Dn t' c' k' ∨ (t' = t ∧ c' = c ∧ k' = k)) (updM M k (t ++ [c])) := by
  refine ⟨fun j u e => ?_, fun t' c' k' hd hl' => ?_⟩
  · unfold updM at e
    by_cases z : j = k
    · rw [if_pos z] at e
      cases e
      rw [z]
      exact ⟨hp, by simp [hl]⟩
    · rw [if_neg z] at e
      exact h.sound j u e
  · unfold updM
    rcases hd with hd | ⟨rfl, rfl, rfl⟩
    · obtain ⟨o, ho, hlo⟩ := h.all t' c' k' hd hl'
      by_cases z : k' = k
      · rw [if_pos z]
        refine ⟨_, rfl, ?_⟩
        rw [z] at ho
        have h1 := lex_asymm (hlt o ho)
        have h2 := (h.sound k o ho).2
        exact lex_ntrans (by simp [hl', h2]) (by simp [hl, h2]) hlo h1
      · rw [if_neg z]
        exact ⟨o, ho, hlo⟩
    · rw [if_pos rfl]
      exact ⟨_, rfl, lex_irrefl _⟩
theorem Nxt.skip {one two : List Nat} {most : Int} {tx : List Nat} {st : Int} {d : Nat} {Dn : List Int → Int → K3 → Prop} {M : K3 → Option (List Int)} (h : Nxt one two most tx st d Dn M) {t : List Int} {k : K3} {c : Int} {o : List Int} (ho : M k = some o)
    (hlt : HT.lexLt (t ++ [c]) o = false) : Nxt one two most tx st d (fun t' c' k' => Dn t' c' k' ∨ (t' = t ∧ c' = c ∧ k' = k)) M := by
  refine ⟨h.sound, fun t' c' k' hd hl' => ?_⟩
  rcases hd with hd | ⟨rfl, rfl, rfl⟩
  · exact h.all t' c' k' hd hl'
  · exact ⟨o, ho, hlt⟩
theorem Nxt.done {one two : List Nat} {most : Int} {tx : List Nat} {st : Int} {d : Nat} {Dn : List Int → Int → K3 → Prop} {M M' : K3 → Option (List Int)} (h : Nxt one two most tx st d Dn M') (hL : Lvl one two most tx st d M)
    (hD : ∀ k t c k', M k = some t → k.1 ≠ tx.length → Stp one two most tx k c k' → Dn t c k') : Lvl one two most tx st (d + 1) M' := by
  refine ⟨h.sound, fun k t hp hl => ?_⟩
  cases hp with
  | nil => simp at hl
  | @snoc t k0 _ c hp hne hs =>
    have hl' : t.length = d := by simpa using hl
    obtain ⟨t0, h0, h1⟩ := hL.all k0 t hp hl'
    have hl0 := (hL.sound k0 t0 h0).2
    obtain ⟨t', h2, h3⟩ := h.all t0 c k (hD k0 t0 c k h0 hne hs) hl0
    refine ⟨t', h2, lex_ntrans (by simp [hl', hl0]) ?_ (lex_snoc c (by rw [hl', hl0]) h1) h3⟩
    have := (h.sound k t' h2).2
    simp [hl0, this]
theorem lvl_start {one two : List Nat} {most : Int} {tx : List Nat} {st : Int} : Lvl one two most tx st 0 (updM (fun _ => none) (0, st, -1) []) := by
  refine ⟨fun k t e => ?_, fun k t hp hl => ?_⟩
  · unfold updM at e
    by_cases z : k = (0, st, -1)
    · rw [if_pos z] at e
      cases e
      rw [z]
      exact ⟨.nil, rfl⟩
    · rw [if_neg z] at e
      cases e
  · obtain rfl := List.length_eq_zero_iff.mp hl
    generalize ht : ([] : List Int) = t at hp
    cases hp with
    | nil => exact ⟨[], by unfold updM; rw [if_pos rfl], by rw [← ht]; rfl⟩
    | snoc _ _ _ => simp at ht
/-- the least of some lists -/
theorem lexMin_le : ∀ (xs : List (List Int)) (x : List Int) {d : Nat}, x.length = d → (∀ y ∈ xs, y.length = d) → (lexMin x xs ∈ x :: xs) ∧ ∀ y ∈ x :: xs, HT.lexLt y (lexMin x xs) = false
  | [], x, d, _, _ => ⟨by simp [lexMin], fun y hy => by simp at hy; rw [hy]; exact lex_irrefl x⟩
  | z :: zs, x, d, hx, hz => by
    have hzl := hz z (by simp)
    have hzs : ∀ y ∈ zs, y.length = d := fun y hy => hz y (by simp [hy])
    by_cases h : HT.lexLt z x = true
    · have e : lexMin x (z :: zs) = lexMin z zs := by simp [lexMin, h]
      obtain ⟨h1, h2⟩ := lexMin_le zs z hzl hzs
      rw [e]
      refine ⟨List.mem_cons_of_mem _ h1, fun y hy => ?_⟩
      rcases List.mem_cons.mp hy with rfl | hy
      · have hm : (lexMin z zs).length = d := by
          rcases List.mem_cons.mp h1 with h3 | h3
          · rw [h3]; exact hzl
          · exact hzs _ h3
        exact lex_ntrans (by rw [hx, hzl]) (by rw [hzl, hm]) (lex_asymm h) (h2 z (by simp))
      · exact h2 y hy
    · have h' : HT.lexLt z x = false := by simpa using h
      have e : lexMin x (z :: zs) = lexMin x zs := by simp [lexMin, h']
      obtain ⟨h1, h2⟩ := lexMin_le zs x hx hzs
      rw [e]
      have hm : (lexMin x zs).length = d := by
        rcases List.mem_cons.mp h1 with h3 | h3
        · rw [h3]; exact hx
        · exact hzs _ h3
      refine ⟨?_, fun y hy => ?_⟩
      · rcases List.mem_cons.mp h1 with h3 | h3
        · rw [h3]; simp
        · simp [h3]
      · rcases List.mem_cons.mp hy with rfl | hy
        · exact h2 y (by simp)
        · rcases List.mem_cons.mp hy with rfl | hy
          · exact lex_ntrans (by rw [hzl, hx]) (by rw [hx, hm]) h' (h2 x (by simp))
          · exact h2 y (by simp [hy])
/-- the first level that comes to the end -/
theorem lvl_best {one two : List Nat} {most : Int} {tx : List Nat} {st : Int} (hm : 0 ≤ most) (hb : Bit st) {d : Nat} {M : K3 → Option (List Int)} (hL : Lvl one two most tx st d M) (hno : ∀ t, Run one two most st (-1) tx t → d ≤ t.length) {x : List Int} {xs : List (List Int)}
    (h1 : ∀ y ∈ x :: xs, ∃ k : K3, k.1 = (tx.length : Int) ∧ M k = some y) (h2 : ∀ k y, k.1 = (tx.length : Int) → M k = some y → y ∈ x :: xs) : Best one two most st (-1) tx (lexMin x xs) := by
  have hl : ∀ y ∈ x :: xs, y.length = d := fun y hy => by
    obtain ⟨k, _, hk⟩ := h1 y hy
    exact (hL.sound k y hk).2
  obtain ⟨hmem, hle⟩ := lexMin_le xs x (hl x (by simp)) fun y hy => hl y (by simp [hy])
  obtain ⟨k, hk1, hk2⟩ := h1 _ hmem
  obtain ⟨hp, hpl⟩ := hL.sound k _ hk2
  refine ⟨pth_tape hm hb hp hk1, fun t ht => ?_⟩
  have h3 := hno t ht
  by_cases h4 : (lexMin x xs).length < t.length
  · exact .inl h4
  · right
    have h5 : t.length = d := by omega
    refine ⟨by omega, ?_⟩
    obtain ⟨h', sp', hpt⟩ := tape_pth hm hb ht
    obtain ⟨t', h6, h7⟩ := hL.all _ t hpt h5
    have h8 := h2 _ t' rfl h6
    exact lex_ntrans (by rw [h5, hl t' h8]) (by rw [hl t' h8, hpl]) h7 (hle t' h8)


/-! ### dicts by places -/
abbrev key3 (k : K3) : List Key := [.inl k.1, .inl k.2.1, .inl k.2.2]
theorem key3_inj {a b : K3} (h : key3 a = key3 b) : a = b := by
  obtain ⟨a1, a2, a3⟩ := a
  obtain ⟨b1, b2, b3⟩ := b
  simp only [List.cons.injEq, Sum.inl.injEq, and_true] at h
  obtain ⟨rfl, rfl, rfl⟩ := h
  rfl
def kvsOf (es : List (K3 × Addr)) : List (List Key × V) := es.map fun e => (key3 e.1, V.ref e.2)
def putE (es : List (K3 × Addr)) (k : K3) (a : Addr) : List (K3 × Addr) := if k ∈ es.map (·.1) then es.map (fun e => if e.1 = k then (e.1, a) else e) else es ++ [(k, a)]
theorem val_es : ∀ {es : List (K3 × Addr)} {k : K3} {a : Addr}, (es.map (·.1)).Nodup → (k, a) ∈ es → valV (kvsOf es) (key3 k) = some (.ref a)
  | [], _, _, _, h => by simp at h
  | e :: es, k, a, hn, h => by
    rw [List.map_cons, List.nodup_cons] at hn
    show valV ((key3 e.1, V.ref e.2) :: kvsOf es) (key3 k) = _
    by_cases z : e.1 = k
    · rw [valV_pos (by simp only; rw [z])]
      rcases List.mem_cons.mp h with h | h
      · rw [← h]
      · exact absurd (List.mem_map.mpr ⟨(k, a), h, z.symm⟩) hn.1
    · rw [valV_neg (fun w => z (key3_inj w))]
      refine val_es hn.2 ?_
      rcases List.mem_cons.mp h with h | h
      · exact absurd (by rw [← h]) z
      · exact h
theorem val_esN : ∀ {es : List (K3 × Addr)} {k : K3}, k ∉ es.map (·.1) → valV (kvsOf es) (key3 k) = none
  | [], _, _ => rfl
  | e :: es, k, h => by
    rw [List.map_cons, List.mem_cons, not_or] at h
    show valV ((key3 e.1, V.ref e.2) :: kvsOf es) (key3 k) = _
    rw [valV_neg (fun w => h.1 (key3_inj w).symm)]
    exact val_esN h.2
theorem any_es (es : List (K3 × Addr)) (k : K3) : ((kvsOf es).any fun kv => decide (kv.1 = key3 k)) = decide (k ∈ es.map (·.1)) := by
  induction es with
  | nil => rfl
  | cons e es ih =>
    show (decide (key3 e.1 = key3 k) || (kvsOf es).any _) = _
    rw [ih, Bool.eq_iff_iff]
    simp only [Bool.or_eq_true, decide_eq_true_eq, List.map_cons, List.mem_cons]
    constructor
    · rintro (h | h)
      · exact .inl (key3_inj h).symm
      · exact .inr h
    · rintro (h | h)
      · exact .inl (by rw [h])
      · exact .inr h
theorem put_es (es : List (K3 × Addr)) (k : K3) (a : Addr) : putK (kvsOf es) (key3 k) (.ref a) = kvsOf (putE es k a) := by
  unfold putK putE
  rw [any_es]
  by_cases h : k ∈ es.map (·.1)
  · rw [decide_eq_true h, if_pos rfl, if_pos h]
    unfold kvsOf
    rw [List.map_map, List.map_map]
    refine List.map_congr_left fun e _ => ?_
    show (if key3 e.1 = key3 k then (key3 e.1, V.ref a) else (key3 e.1, V.ref e.2)) = (key3 (if e.1 = k then (e.1, a) else e).1, V.ref (if e.1 = k then (e.1, a) else e).2)
    by_cases z : e.1 = k
    · rw [if_pos (by rw [z]), if_pos z]
    · rw [if_neg (fun w => z (key3_inj w)), if_neg z]
  · rw [decide_eq_false h, if_neg (by decide), if_neg h]
    unfold kvsOf
    rw [List.map_append]
    rfl
theorem putE_keys (es : List (K3 × Addr)) (k : K3) (a : Addr) : (putE es k a).map (·.1) = if k ∈ es.map (·.1) then es.map (·.1) else es.map (·.1) ++ [k] := by
  unfold putE
  by_cases h : k ∈ es.map (·.1)
  · rw [if_pos h, if_pos h, List.map_map]
    refine List.map_congr_left fun e _ => ?_
    show (if e.1 = k then (e.1, a) else e).1 = e.1
    split <;> rfl
  · rw [if_neg h, if_neg h, List.map_append]
    rfl
theorem putE_same {es : List (K3 × Addr)} {k : K3} {a : Addr} : (k, a) ∈ putE es k a := by
  unfold putE
  by_cases h : k ∈ es.map (·.1)
  · rw [if_pos h]
    obtain ⟨e, he, z⟩ := List.mem_map.mp h
    exact List.mem_map.mpr ⟨e, he, by rw [if_pos z, z]⟩
  · rw [if_neg h]
    simp
theorem putE_other {es : List (K3 × Addr)} {k j : K3} {a b : Addr} (hn : j ≠ k) (h : (j, b) ∈ es) : (j, b) ∈ putE es k a := by
  unfold putE
  by_cases z : k ∈ es.map (·.1)
  · rw [if_pos z]
    exact List.mem_map.mpr ⟨(j, b), h, by rw [if_neg hn]⟩
  · rw [if_neg z]
    exact List.mem_append_left _ h
/-- a dict of lists by places, and what it tells -/
structure Rep (H0 : Hp) (S : List Addr) (H : Hp) (es : List (K3 × Addr)) (M : K3 → Option (List Int)) : Prop where
  nd : (es.map (·.1)).Nodup
  val : ∀ k t, M k = some t → ∃ a, (k, a) ∈ es ∧ H a = some (.lst (Ints t)) ∧ a ∉ S ∧ H0 a = none
  mem : ∀ k, k ∈ es.map (·.1) → ∃ t, M k = some t
def KeepS (S : List Addr) (H H' : Hp) : Prop := ∀ x o, x ∉ S → H x = some o → H' x = some o
theorem KeepS.refl (S : List Addr) (H : Hp) : KeepS S H H := fun _ _ _ h => h
theorem KeepS.same {S : List Addr} {H H' : Hp} (s : Same H H') : KeepS S H H' := fun x o _ h => s x o h
theorem KeepS.trans {S : List Addr} {H H1 H2 : Hp} (a : KeepS S H H1) (b : KeepS S H1 H2) : KeepS S H H2 := fun x o n h => b x o n (a x o n h)
theorem KeepS.upd {S : List Addr} {H : Hp} {b : Addr} {o : HO} (h : b ∈ S) : KeepS S H (L2.upd H b o) := fun x u n e => by
  have hne : x ≠ b := fun z => by
    rw [z] at n
    exact n h
  rw [upd_ne hne]
  exact e
theorem Rep.keep {H0 : Hp} {S : List Addr} {H H' : Hp} {es : List (K3 × Addr)} {M : K3 → Option (List Int)} (h : Rep H0 S H es M) (k : KeepS S H H') : Rep H0 S H' es M :=
  ⟨h.nd, fun j t e => let ⟨a, h1, h2, h3, h4⟩ := h.val j t e; ⟨a, h1, k _ _ h3 h2, h3, h4⟩, h.mem⟩
theorem Rep.more {H0 : Hp} {S : List Addr} {H : Hp} {es : List (K3 × Addr)} {M : K3 → Option (List Int)} {b : Addr} (h : Rep H0 S H es M) (hb : H b = none) : Rep H0 (b :: S) H es M :=
  ⟨h.nd, fun j t e => let ⟨a, h1, h2, h3, h4⟩ := h.val j t e; ⟨a, h1, h2, by rw [List.mem_cons, not_or]; exact ⟨ne_of_none h2 hb, h3⟩, h4⟩, h.mem⟩
theorem Rep.sub {H0 : Hp} {S S' : List Addr} {H : Hp} {es : List (K3 × Addr)} {M : K3 → Option (List Int)} (h : Rep H0 S H es M) (hs : ∀ x ∈ S', x ∈ S) : Rep H0 S' H es M :=
  ⟨h.nd, fun j t e => let ⟨a, h1, h2, h3, h4⟩ := h.val j t e; ⟨a, h1, h2, fun z => h3 (hs _ z), h4⟩, h.mem⟩
theorem Rep.at {H0 : Hp} {S : List Addr} {H : Hp} {es : List (K3 × Addr)} {M : K3 → Option (List Int)} (h : Rep H0 S H es M) {k : K3} {a : Addr} (he : (k, a) ∈ es) : ∃ t, M k = some t ∧ H a = some (.lst (Ints t)) ∧ a ∉ S ∧ H0 a = none ∧ valV (kvsOf es) (key3 k) = some (.ref a) := by
  obtain ⟨t, ht⟩ := h.mem k (List.mem_map.mpr ⟨(k, a), he, rfl⟩)
  obtain ⟨a', h1, h2, h3, h4⟩ := h.val k t ht
  have e1 := val_es h.nd he
  have e2 := val_es h.nd h1
  rw [e1] at e2
  have : a = a' := V.ref.inj (Option.some.inj e2)
  subst this
  exact ⟨t, ht, h2, h3, h4, e1⟩
theorem Rep.no {H0 : Hp} {S : List Addr} {H : Hp} {es : List (K3 × Addr)} {M : K3 → Option (List Int)} (h : Rep H0 S H es M) {k : K3} (he : M k = none) : valV (kvsOf es) (key3 k) = none := by
  refine val_esN fun hm => ?_
  obtain ⟨t, ht⟩ := h.mem k hm
  rw [he] at ht
  cases ht
theorem Rep.put {H0 : Hp} {S : List Addr} {H : Hp} {es : List (K3 × Addr)} {M : K3 → Option (List Int)} (h : Rep H0 S H es M) {k : K3} {a : Addr} {t : List Int} (ha : H a = some (.lst (Ints t))) (hS : a ∉ S) (h0 : H0 a = none) : Rep H0 S H (putE es k a) (updM M k t) := by
  refine ⟨?_, fun j u e => ?_, fun j hj => ?_⟩
  · rw [putE_keys]
    by_cases z : k ∈ es.map (·.1)
    · rw [if_pos z]
      exact h.nd
    · rw [if_neg z]
      refine List.nodup_append.mpr ⟨h.nd, by simp, fun x hx y hy e => ?_⟩
      rw [List.mem_singleton.mp hy] at e
      exact z (e ▸ hx)
  · unfold updM at e
    by_cases z : j = k
    · rw [if_pos z] at e
      cases e
      subst z
      exact ⟨a, putE_same, ha, hS, h0⟩
    · rw [if_neg z] at e
      obtain ⟨b, h1, h2⟩ := h.val j u e
      exact ⟨b, putE_other z h1, h2⟩
  · unfold updM
    by_cases z : j = k
    · rw [if_pos z]
      exact ⟨_, rfl⟩
    · rw [if_neg z]
      refine h.mem j ?_
      rw [putE_keys] at hj
      by_cases w : k ∈ es.map (·.1)
      · rw [if_pos w] at hj
        exact hj
      · rw [if_neg w] at hj
        rcases List.mem_append.mp hj with hj | hj
        · exact hj
        · exact absurd (List.mem_singleton.mp hj) z
/-- places are few -/
def codeK (k : K3) : Nat := ((k.1 * 2 + k.2.1) * 200 + (k.2.2 + 1)).toNat
theorem nodup_on {α : Type} {f : α → Nat} : ∀ {l : List α}, l.Nodup → (∀ x ∈ l, ∀ y ∈ l, f x = f y → x = y) → (l.map f).Nodup
  | [], _, _ => by simp
  | x :: l, hn, h => by
    rw [List.nodup_cons] at hn
    rw [List.map_cons, List.nodup_cons]
    refine ⟨fun hm => ?_, nodup_on hn.2 fun a ha b hb => h a (List.mem_cons_of_mem _ ha) b (List.mem_cons_of_mem _ hb)⟩
    obtain ⟨y, hy, e⟩ := List.mem_map.mp hm
    have := h y (List.mem_cons_of_mem _ hy) x (by simp) e
    rw [this] at hy
    exact hn.1 hy
theorem few {most : Int} {n : Nat} {ks : List K3} (hn : ks.Nodup) (hk : ∀ k ∈ ks, InK most n k) (hm : most ≤ 100) (h60 : n ≤ 60) : ks.length ≤ 30000 := by
  have h1 : (ks.map codeK).Nodup := nodup_on hn fun x hx y hy e => by
    obtain ⟨a1, a2, a3, a4, a5⟩ := hk x hx
    obtain ⟨b1, b2, b3, b4, b5⟩ := hk y hy
    obtain ⟨x1, x2, x3⟩ := x
    obtain ⟨y1, y2, y3⟩ := y
    unfold codeK at e
    unfold Bit at a3 b3
    simp only at a1 a2 a3 a4 a5 b1 b2 b3 b4 b5 e
    have e1 : x1 = y1 := by omega
    have e2 : x2 = y2 := by omega
    have e3 : x3 = y3 := by omega
    rw [e1, e2, e3]
  have h2 := nodup_le h1 (m := List.range 30000) fun c hc => by
    obtain ⟨x, hx, rfl⟩ := List.mem_map.mp hc
    obtain ⟨a1, a2, a3, a4, a5⟩ := hk x hx
    rw [List.mem_range]
    unfold codeK
    unfold Bit at a3
    omega
  rw [List.length_map, List.length_range] at h2
  exact h2
/-- the steps from a place -/
def stepsK (one two : List Nat) (most : Int) (tx : List Nat) (k : K3) : List (Int × K3) :=
  [((one.length : Int) + 0, (k.1, 0, afterS k.2.1 0)), ((one.length : Int) + 1, (k.1, 1, afterS k.2.1 1))] ++
    match tx[k.1.toNat]? with
    | some s => if s ∈ pickS one two k.2.1 ∧ addS one two (cdS one two k.2.1 s) k.2.2 ≤ most then [(cdS one two k.2.1 s, (k.1 + 1, k.2.1, addS one two (cdS one two k.2.1 s) k.2.2))] else []
    | none => []
theorem steps_stp {one two : List Nat} {most : Int} {tx : List Nat} {k k' : K3} {c : Int} (hk : 0 ≤ k.1) (h : (c, k') ∈ stepsK one two most tx k) : Stp one two most tx k c k' := by
  obtain ⟨k1, k2, k3⟩ := k
  unfold stepsK at h
  simp only at hk h
  rcases List.mem_append.mp h with h | h
  · simp only [List.mem_cons, List.not_mem_nil, or_false] at h
    rcases h with h | h
    · cases h
      exact .shift (.inl rfl)
    · cases h
      exact .shift (.inr rfl)
  · cases e : tx[k1.toNat]? with
    | none => rw [e] at h; simp at h
    | some s =>
      rw [e] at h
      simp only at h
      by_cases z : s ∈ pickS one two k2 ∧ addS one two (cdS one two k2 s) k3 ≤ most
      · rw [if_pos z, List.mem_singleton] at h
        cases h
        have hs := Stp.sign (sp := k3) e z.1 z.2
        rw [show ((k1.toNat : Nat) : Int) = k1 by omega] at hs
        exact hs
      · rw [if_neg z] at h
        simp at h
theorem stp_steps {one two : List Nat} {most : Int} {tx : List Nat} {k k' : K3} {c : Int} (h : Stp one two most tx k c k') : (c, k') ∈ stepsK one two most tx k := by
  unfold stepsK
  cases h with
  | shift hj =>
    refine List.mem_append_left _ ?_
    rcases hj with rfl | rfl <;> simp
  | @sign k h sp s hs hp hle =>
    refine List.mem_append_right _ ?_
    simp only [Int.toNat_natCast, hs]
    rw [if_pos ⟨hp, hle⟩]
    simp

/-! ### the text by places -/
def topS (i : Nat) : Stmt := PySem.Challenge.pw_shiftrow_k06_whole_guarded.main.body.getD i (.Pass ⟨0, 0, 0, 0⟩)
abbrev s_p_can_be_set : Stmt := topS 9
abbrev n_p_can_be_set : List Str := ["text"]
theorem sc_p_can_be_set : FnScope ["text"] ["text"] (defScope s_p_can_be_set) := ⟨rfl, rfl, rfl, by decide +kernel, rfl, by decide +kernel, by decide +kernel⟩
abbrev s_p_check_sets : Stmt := topS 10
abbrev n_p_check_sets : List Str := ["sets", "first", "second"]
theorem sc_p_check_sets : FnScope ["sets", "first", "second"] ["sets"] (defScope s_p_check_sets) := ⟨rfl, rfl, rfl, by decide +kernel, rfl, by decide +kernel, by decide +kernel⟩
abbrev s_p_check_tape : Stmt := topS 11
abbrev n_p_check_tape : List Str := ["sets", "tape", "last", "at", "code"]
theorem sc_p_check_tape : FnScope ["sets", "tape", "last", "at", "code"] ["sets", "tape"] (defScope s_p_check_tape) := ⟨rfl, rfl, rfl, by decide +kernel, rfl, by decide +kernel, by decide +kernel⟩
abbrev s_p_check_state : Stmt := topS 12
abbrev n_p_check_state : List Str := ["state"]
theorem sc_p_check_state : FnScope ["state"] ["state"] (defScope s_p_check_state) := ⟨rfl, rfl, rfl, by decide +kernel, rfl, by decide +kernel, by decide +kernel⟩
abbrev s_p_is_common : Stmt := topS 13
abbrev n_p_is_common : List Str := ["sets", "code"]
theorem sc_p_is_common : FnScope ["sets", "code"] ["sets", "code"] (defScope s_p_is_common) := ⟨rfl, rfl, rfl, by decide +kernel, rfl, by decide +kernel, by decide +kernel⟩
abbrev s_p_read : Stmt := topS 14
abbrev n_p_read : List Str := ["sets", "tape", "state", "many", "signs", "now", "code"]
theorem sc_p_read : FnScope ["sets", "tape", "state", "many", "signs", "now", "code"] ["sets", "tape", "state"] (defScope s_p_read) := ⟨rfl, rfl, rfl, by decide +kernel, rfl, by decide +kernel, by decide +kernel⟩
abbrev s_p_check_text : Stmt := topS 19
abbrev n_p_check_text : List Str := ["sets", "text", "at", "sign"]
theorem sc_p_check_text : FnScope ["sets", "text", "at", "sign"] ["sets", "text"] (defScope s_p_check_text) := ⟨rfl, rfl, rfl, by decide +kernel, rfl, by decide +kernel, by decide +kernel⟩
abbrev s_p_sign_step : Stmt := topS 20
abbrev n_p_sign_step : List Str := ["sets", "sign", "state", "left", "code"]
theorem sc_p_sign_step : FnScope ["sets", "sign", "state", "left", "code"] ["sets", "sign", "state", "left"] (defScope s_p_sign_step) := ⟨rfl, rfl, rfl, by decide +kernel, rfl, by decide +kernel, by decide +kernel⟩
abbrev s_p_steps : Stmt := topS 21
abbrev n_p_steps : List Str := ["sets", "sign", "state", "left", "most", "many", "found", "step", "code", "kept", "told"]
theorem sc_p_steps : FnScope ["sets", "sign", "state", "left", "most", "many", "found", "step", "code", "kept", "told"] ["sets", "sign", "state", "left", "most"] (defScope s_p_steps) := ⟨rfl, rfl, rfl, by decide +kernel, rfl, by decide +kernel, by decide +kernel⟩
abbrev s_p_lengths_ahead : Stmt := topS 22
abbrev n_p_lengths_ahead : List Str := ["sets", "sign", "behind", "most", "at_once", "state", "left", "step", "ahead", "other"]
theorem sc_p_lengths_ahead : FnScope ["sets", "sign", "behind", "most", "at_once", "state", "left", "step", "ahead", "other"] ["sets", "sign", "behind", "most"] (defScope s_p_lengths_ahead) := ⟨rfl, rfl, rfl, by decide +kernel, rfl, by decide +kernel, by decide +kernel⟩
abbrev s_p_shortest_lengths : Stmt := topS 23
abbrev n_p_shortest_lengths : List Str := ["sets", "text", "most", "lefts", "row", "rows", "sign", "state", "left"]
theorem sc_p_shortest_lengths : FnScope ["sets", "text", "most", "lefts", "row", "rows", "sign", "state", "left"] ["sets", "text", "most"] (defScope s_p_shortest_lengths) := ⟨rfl, rfl, rfl, by decide +kernel, rfl, by decide +kernel, by decide +kernel⟩
abbrev s_p_shortest : Stmt := topS 24
abbrev n_p_shortest : List Str := ["sets", "text", "state", "most", "rows", "tape", "at", "now", "left", "length", "code", "reads", "told", "kept"]
theorem sc_p_shortest : FnScope ["sets", "text", "state", "most", "rows", "tape", "at", "now", "left", "length", "code", "reads", "told", "kept"] ["sets", "text", "state", "most"] (defScope s_p_shortest) := ⟨rfl, rfl, rfl, by decide +kernel, rfl, by decide +kernel, by decide +kernel⟩
abbrev s_p_guarded : Stmt := topS 25
abbrev n_p_guarded : List Str := ["sets", "text", "state", "most"]
theorem sc_p_guarded : FnScope ["sets", "text", "state", "most"] ["sets", "text", "state", "most"] (defScope s_p_guarded) := ⟨rfl, rfl, rfl, by decide +kernel, rfl, by decide +kernel, by decide +kernel⟩
abbrev s_l_dice : Stmt := topS 27
abbrev n_l_dice : List Str := ["_law_script", "_law_k", "_law_found", "_law_cell"]
theorem sc_l_dice : FnScope ["_law_script", "_law_k", "_law_found", "_law_cell"] ["_law_script", "_law_k"] (defScope s_l_dice) := ⟨rfl, rfl, rfl, by decide +kernel, rfl, by decide +kernel, by decide +kernel⟩
abbrev s_l_off : Stmt := topS 28
abbrev n_l_off : List Str := ["_law_d", "_law_most", "_law_found"]
theorem sc_l_off : FnScope ["_law_d", "_law_most", "_law_found"] ["_law_d", "_law_most"] (defScope s_l_off) := ⟨rfl, rfl, rfl, by decide +kernel, rfl, by decide +kernel, by decide +kernel⟩
abbrev s_l_alike : Stmt := topS 29
abbrev n_l_alike : List Str := ["_law_found", "_law_due", "_law_k"]
theorem sc_l_alike : FnScope ["_law_found", "_law_due", "_law_k"] ["_law_found", "_law_due"] (defScope s_l_alike) := ⟨rfl, rfl, rfl, by decide +kernel, rfl, by decide +kernel, by decide +kernel⟩
abbrev s_l_mixed : Stmt := topS 30
abbrev n_l_mixed : List Str := ["_law_d", "_law_row", "_law_left", "_law_found"]
theorem sc_l_mixed : FnScope ["_law_d", "_law_row", "_law_left", "_law_found"] ["_law_d", "_law_row"] (defScope s_l_mixed) := ⟨rfl, rfl, rfl, by decide +kernel, rfl, by decide +kernel, by decide +kernel⟩
abbrev s_l_sets : Stmt := topS 31
abbrev n_l_sets : List Str := ["_law_d", "_law_many", "_law_signs", "_law_every", "_law_turn", "_law_one", "_law_often", "_law_other", "_law_left", "_law_k", "_law_some", "_law_sign"]
theorem sc_l_sets : FnScope ["_law_d", "_law_many", "_law_signs", "_law_every", "_law_turn", "_law_one", "_law_often", "_law_other", "_law_left", "_law_k", "_law_some", "_law_sign"] ["_law_d"] (defScope s_l_sets) := ⟨rfl, rfl, rfl, by decide +kernel, rfl, by decide +kernel, by decide +kernel⟩
abbrev s_l_text : Stmt := topS 32
abbrev n_l_text : List Str := ["_law_d", "_law_sets_here", "_law_most", "_law_found", "_law_row", "_law_k"]
theorem sc_l_text : FnScope ["_law_d", "_law_sets_here", "_law_most", "_law_found", "_law_row", "_law_k"] ["_law_d", "_law_sets_here", "_law_most"] (defScope s_l_text) := ⟨rfl, rfl, rfl, by decide +kernel, rfl, by decide +kernel, by decide +kernel⟩
abbrev s_l_gone : Stmt := topS 33
abbrev n_l_gone : List Str := ["_law_sets_here", "_law_tape", "_law_state", "_law_text_here", "_law_code"]
theorem sc_l_gone : FnScope ["_law_sets_here", "_law_tape", "_law_state", "_law_text_here", "_law_code"] ["_law_sets_here", "_law_tape", "_law_state"] (defScope s_l_gone) := ⟨rfl, rfl, rfl, by decide +kernel, rfl, by decide +kernel, by decide +kernel⟩
abbrev s_l_losses : Stmt := topS 34
abbrev n_l_losses : List Str := ["_law_sets_here", "_law_tape", "_law_state", "_law_whole", "_law_found", "_law_at", "_law_left", "_law_many", "_law_k"]
theorem sc_l_losses : FnScope ["_law_sets_here", "_law_tape", "_law_state", "_law_whole", "_law_found", "_law_at", "_law_left", "_law_many", "_law_k"] ["_law_sets_here", "_law_tape", "_law_state"] (defScope s_l_losses) := ⟨rfl, rfl, rfl, by decide +kernel, rfl, by decide +kernel, by decide +kernel⟩
abbrev s_l_shortest : Stmt := topS 35
abbrev n_l_shortest : List Str := ["_law_sets_here", "_law_text_here", "_law_state", "_law_most", "_law_many", "_law_level", "_law_key", "_law_behind", "_law_at", "_law_here", "_law_spoils", "_law_tape", "_law_steps", "_law_code", "_law_more", "_law_k"]
theorem sc_l_shortest : FnScope ["_law_sets_here", "_law_text_here", "_law_state", "_law_most", "_law_many", "_law_level", "_law_key", "_law_behind", "_law_at", "_law_here", "_law_spoils", "_law_tape", "_law_steps", "_law_code", "_law_more", "_law_k"] ["_law_sets_here", "_law_text_here", "_law_state", "_law_most"] (defScope s_l_shortest) := ⟨rfl, rfl, rfl, by decide +kernel, rfl, by decide +kernel, by decide +kernel⟩
abbrev s_l_is_tape : Stmt := topS 36
abbrev n_l_is_tape : List Str := ["_law_tape", "_law_sets_here", "_law_code"]
theorem sc_l_is_tape : FnScope ["_law_tape", "_law_sets_here", "_law_code"] ["_law_tape", "_law_sets_here"] (defScope s_l_is_tape) := ⟨rfl, rfl, rfl, by decide +kernel, rfl, by decide +kernel, by decide +kernel⟩
abbrev s_l_runs : Stmt := topS 37
abbrev n_l_runs : List Str := ["_law_d", "_law_sets_here", "_law_found", "_law_k", "_law_common", "_law_turn", "_law_row"]
theorem sc_l_runs : FnScope ["_law_d", "_law_sets_here", "_law_found", "_law_k", "_law_common", "_law_turn", "_law_row"] ["_law_d", "_law_sets_here"] (defScope s_l_runs) := ⟨rfl, rfl, rfl, by decide +kernel, rfl, by decide +kernel, by decide +kernel⟩
abbrev s_law : Stmt := topS 38
abbrev n_law : List Str := ["_law_script", "_law_d", "_law_sets_here", "_law_turn", "_law_text_here", "_law_most", "_law_state", "_law_again", "_law_found"]
theorem sc_law : FnScope ["_law_script", "_law_d", "_law_sets_here", "_law_turn", "_law_text_here", "_law_most", "_law_state", "_law_again", "_law_found"] ["_law_script"] (defScope s_law) := ⟨rfl, rfl, rfl, by decide +kernel, rfl, by decide +kernel, by decide +kernel⟩
/-- what the top has left -/
structure Txt (K : PySem.W.Frag) (mg : Str → Option Value) where
  a_p_can_be_set : Addr
  d_p_can_be_set : FuncData
  F_p_can_be_set : Fun K "can_be_set" "can_be_set" s_p_can_be_set a_p_can_be_set d_p_can_be_set
  g_p_can_be_set : mg "can_be_set" = some (.ref a_p_can_be_set)
  b_p_can_be_set : Binds K d_p_can_be_set ["text"] []
  a_p_check_sets : Addr
  d_p_check_sets : FuncData
  F_p_check_sets : Fun K "check_sets" "check_sets" s_p_check_sets a_p_check_sets d_p_check_sets
  g_p_check_sets : mg "check_sets" = some (.ref a_p_check_sets)
  b_p_check_sets : Binds K d_p_check_sets ["sets"] []
  a_p_check_tape : Addr
  d_p_check_tape : FuncData
  F_p_check_tape : Fun K "check_tape" "check_tape" s_p_check_tape a_p_check_tape d_p_check_tape
  g_p_check_tape : mg "check_tape" = some (.ref a_p_check_tape)
  b_p_check_tape : Binds K d_p_check_tape ["sets", "tape"] []
  a_p_check_state : Addr
  d_p_check_state : FuncData
  F_p_check_state : Fun K "check_state" "check_state" s_p_check_state a_p_check_state d_p_check_state
  g_p_check_state : mg "check_state" = some (.ref a_p_check_state)
  b_p_check_state : Binds K d_p_check_state ["state"] []
  a_p_is_common : Addr
  d_p_is_common : FuncData
  F_p_is_common : Fun K "is_common" "is_common" s_p_is_common a_p_is_common d_p_is_common
  g_p_is_common : mg "is_common" = some (.ref a_p_is_common)
  b_p_is_common : Binds K d_p_is_common ["sets", "code"] []
  a_p_read : Addr
  d_p_read : FuncData
  F_p_read : Fun K "read" "read" s_p_read a_p_read d_p_read
  g_p_read : mg "read" = some (.ref a_p_read)
  b_p_read : Binds K d_p_read ["sets", "tape", "state"] []
  a_p_check_text : Addr
  d_p_check_text : FuncData
  F_p_check_text : Fun K "check_text" "check_text" s_p_check_text a_p_check_text d_p_check_text
  g_p_check_text : mg "check_text" = some (.ref a_p_check_text)
  b_p_check_text : Binds K d_p_check_text ["sets", "text"] []
  a_p_sign_step : Addr
  d_p_sign_step : FuncData
  F_p_sign_step : Fun K "sign_step" "sign_step" s_p_sign_step a_p_sign_step d_p_sign_step
  g_p_sign_step : mg "sign_step" = some (.ref a_p_sign_step)
  b_p_sign_step : Binds K d_p_sign_step ["sets", "sign", "state", "left"] []
  a_p_steps : Addr
  d_p_steps : FuncData
  F_p_steps : Fun K "steps" "steps" s_p_steps a_p_steps d_p_steps
  g_p_steps : mg "steps" = some (.ref a_p_steps)
  b_p_steps : Binds K d_p_steps ["sets", "sign", "state", "left", "most"] []
  a_p_lengths_ahead : Addr
  d_p_lengths_ahead : FuncData
  F_p_lengths_ahead : Fun K "lengths_ahead" "lengths_ahead" s_p_lengths_ahead a_p_lengths_ahead d_p_lengths_ahead
  g_p_lengths_ahead : mg "lengths_ahead" = some (.ref a_p_lengths_ahead)
  b_p_lengths_ahead : Binds K d_p_lengths_ahead ["sets", "sign", "behind", "most"] []
  a_p_shortest_lengths : Addr
  d_p_shortest_lengths : FuncData
  F_p_shortest_lengths : Fun K "shortest_lengths" "shortest_lengths" s_p_shortest_lengths a_p_shortest_lengths d_p_shortest_lengths
  g_p_shortest_lengths : mg "shortest_lengths" = some (.ref a_p_shortest_lengths)
  b_p_shortest_lengths : Binds K d_p_shortest_lengths ["sets", "text", "most"] []
  a_p_shortest : Addr
  d_p_shortest : FuncData
  F_p_shortest : Fun K "shortest" "shortest" s_p_shortest a_p_shortest d_p_shortest
  g_p_shortest : mg "shortest" = some (.ref a_p_shortest)
  b_p_shortest : Binds K d_p_shortest ["sets", "text", "state", "most"] []
  a_p_guarded : Addr
  d_p_guarded : FuncData
  F_p_guarded : Fun K "guarded" "guarded" s_p_guarded a_p_guarded d_p_guarded
  g_p_guarded : mg "guarded" = some (.ref a_p_guarded)
  b_p_guarded : Binds K d_p_guarded ["sets", "text", "state", "most"] []
  a_l_dice : Addr
  d_l_dice : FuncData
  F_l_dice : Fun K "_law_dice" "_law_dice" s_l_dice a_l_dice d_l_dice
  g_l_dice : mg "_law_dice" = some (.ref a_l_dice)
  b_l_dice : Binds K d_l_dice ["_law_script", "_law_k"] []
  a_l_off : Addr
  d_l_off : FuncData
  F_l_off : Fun K "_law_off" "_law_off" s_l_off a_l_off d_l_off
  g_l_off : mg "_law_off" = some (.ref a_l_off)
  b_l_off : Binds K d_l_off ["_law_d", "_law_most"] []
  a_l_alike : Addr
  d_l_alike : FuncData
  F_l_alike : Fun K "_law_alike" "_law_alike" s_l_alike a_l_alike d_l_alike
  g_l_alike : mg "_law_alike" = some (.ref a_l_alike)
  b_l_alike : Binds K d_l_alike ["_law_found", "_law_due"] []
  a_l_mixed : Addr
  d_l_mixed : FuncData
  F_l_mixed : Fun K "_law_mixed" "_law_mixed" s_l_mixed a_l_mixed d_l_mixed
  g_l_mixed : mg "_law_mixed" = some (.ref a_l_mixed)
  b_l_mixed : Binds K d_l_mixed ["_law_d", "_law_row"] []
  a_l_sets : Addr
  d_l_sets : FuncData
  F_l_sets : Fun K "_law_sets" "_law_sets" s_l_sets a_l_sets d_l_sets
  g_l_sets : mg "_law_sets" = some (.ref a_l_sets)
  b_l_sets : Binds K d_l_sets ["_law_d"] []
  a_l_text : Addr
  d_l_text : FuncData
  F_l_text : Fun K "_law_text" "_law_text" s_l_text a_l_text d_l_text
  g_l_text : mg "_law_text" = some (.ref a_l_text)
  b_l_text : Binds K d_l_text ["_law_d", "_law_sets_here", "_law_most"] []
  a_l_gone : Addr
  d_l_gone : FuncData
  F_l_gone : Fun K "_law_gone" "_law_gone" s_l_gone a_l_gone d_l_gone
  g_l_gone : mg "_law_gone" = some (.ref a_l_gone)
  b_l_gone : Binds K d_l_gone ["_law_sets_here", "_law_tape", "_law_state"] []
  a_l_losses : Addr
  d_l_losses : FuncData
  F_l_losses : Fun K "_law_losses" "_law_losses" s_l_losses a_l_losses d_l_losses
  g_l_losses : mg "_law_losses" = some (.ref a_l_losses)
  b_l_losses : Binds K d_l_losses ["_law_sets_here", "_law_tape", "_law_state"] []
  a_l_shortest : Addr
  d_l_shortest : FuncData
  F_l_shortest : Fun K "_law_shortest" "_law_shortest" s_l_shortest a_l_shortest d_l_shortest
  g_l_shortest : mg "_law_shortest" = some (.ref a_l_shortest)
  b_l_shortest : Binds K d_l_shortest ["_law_sets_here", "_law_text_here", "_law_state", "_law_most"] []
  a_l_is_tape : Addr
  d_l_is_tape : FuncData
  F_l_is_tape : Fun K "_law_is_tape" "_law_is_tape" s_l_is_tape a_l_is_tape d_l_is_tape
  g_l_is_tape : mg "_law_is_tape" = some (.ref a_l_is_tape)
  b_l_is_tape : Binds K d_l_is_tape ["_law_tape", "_law_sets_here"] []
  a_l_runs : Addr
  d_l_runs : FuncData
  F_l_runs : Fun K "_law_runs" "_law_runs" s_l_runs a_l_runs d_l_runs
  g_l_runs : mg "_law_runs" = some (.ref a_l_runs)
  b_l_runs : Binds K d_l_runs ["_law_d", "_law_sets_here"] []
  a_law : Addr
  d_law : FuncData
  F_law : Fun K "law" "law" s_law a_law d_law
  g_law : mg "law" = some (.ref a_law)
  b_law : Binds K d_law ["_law_script"] []
  m_ValueError : mg "ValueError" = none
  m_abs : mg "abs" = none
  m_all : mg "all" = none
  m_bool : mg "bool" = none
  m_enumerate : mg "enumerate" = none
  m_int : mg "int" = none
  m_isinstance : mg "isinstance" = none
  m_len : mg "len" = none
  m_list : mg "list" = none
  m_max : mg "max" = none
  m_min : mg "min" = none
  m_range : mg "range" = none
  m_reversed : mg "reversed" = none
  m_set : mg "set" = none
  m_str : mg "str" = none
  m_tuple : mg "tuple" = none
  t_MOST_SIGNS : Tok
  c_MOST_SIGNS : mg "MOST_SIGNS" = some (.int (10) t_MOST_SIGNS)
  t_MOST_CODES : Tok
  c_MOST_CODES : mg "MOST_CODES" = some (.int (200) t_MOST_CODES)
  t_MOST_SPOILT : Tok
  c_MOST_SPOILT : mg "MOST_SPOILT" = some (.int (20) t_MOST_SPOILT)
  t_FREE : Tok
  c_FREE : mg "FREE" = some (.int (-1) t_FREE)
  t_NEVER : Tok
  c_NEVER : mg "NEVER" = some (.int (1000000) t_NEVER)

section
variable {P : Program} {w : World} {K : PySem.W.Frag} {mg : Str → Option Value} {base : Heap}
def spOff : Sp := fun vs H Q _ => ∃ (d : Addr) (ds : List Int) (m : Int), vs = [.ref d, .int m] ∧ H d = some (.lst (Ints ds)) ∧ Dice ds ∧ 1 ≤ m ∧ m < 1000000 ∧
  ∀ k ds', 0 ≤ k → k < m → Dice ds' → Q (.int k) (upd H d (.lst (Ints ds')))
theorem ok_l_off (T : Txt K mg) : FnOk P w K mg base CX0 1 T.a_l_off T.d_l_off ["_law_d", "_law_most"] spOff := by
  refine T.F_l_off.ok sc_l_off (fun vs H Q E h => ?_) (fun cdv A outer s H vs Q E hr h => ?_)
  · obtain ⟨d, ds, m, rfl, _⟩ := h
    rfl
  · obtain ⟨d, ds, m, rfl, hd, ⟨f, r, bs, rfl, hf0, hf1, hr0, hb, hl⟩, hm1, hm2, q⟩ := h
    refine ⟨_,
    (C8.pss_cut (ps_if (PW.pt (pw_and (pt_cmpR op_eq (pe_ix ix_list (pv 0) pe_int (fun _ _ => rfl)) pe_int (nomark _)) (pw_and1 (pt_cmpR op_gt (pe_callB call_len_seq (by rfl) T.m_len PySem.boot_len (pa_cons (pv 0) pa_nil)) pe_int (nomark _))))) 
      (pss_one (ps_asg (pe_bm PySem.F.plainAttrs_list PySem.F.slot_list_pop PySem.F.type_list_pop mt_popAt (pv 0) (pa_cons pe_int pa_nil)) (pg_sub (pv 0) pe_int set_list))) pss_nil) 
    (pss_cons (ps_if (pt_cmpR op_gt (pe_ix ix_list (pv 0) pe_int (fun _ _ => rfl)) pe_int (nomark _)) 
      (pss_cons (ps_set (i := 2) sc_l_off.nd rfl (Or.inl rfl) (pe_op op_mod (pe_ix ix_list (pv 0) pe_int (fun _ _ => rfl)) (pv 1))) 
      (pss_cons (ps_asg (pe_op op_fdiv (pe_ix ix_list (pv 0) pe_int (fun _ _ => rfl)) (pv 1)) (pg_sub (pv 0) pe_int set_list)) 
      (pss_one (ps_ret (pv 2))))) pss_nil) 
    (pss_cons (ps_asg (pe_op op_mod (pe_op op_add (pe_op op_mul (pe_ix ix_list (pv 0) pe_int (fun _ _ => rfl)) pe_int) pe_int) pe_int) (pg_sub (pv 0) pe_int set_list)) 
    (pss_one (ps_ret (pe_op op_mod (pe_op op_fdiv (pe_ix ix_list (pv 0) pe_int (fun _ _ => rfl)) pe_int) (pv 1))))))), ?_⟩
    refine ⟨fun σ' H' => ∃ r bs, σ' = [some (.ref d), some (.int m), none] ∧ 0 ≤ r ∧ (∀ b ∈ bs, 0 ≤ b) ∧ bs.length ≤ 63 ∧ H' = upd H d (.lst (Ints (f :: r :: bs))), ?_, ?_⟩
    · -- the second number, taken from behind when it is 0
      refine ⟨.ref d, rfl, d, _, 1, .int r, rfl, rfl, SqL.of hd, atI_nat (j := 1) rfl, rfl, _, rfl, ite2 (fun h0 => ?_) (fun h0 => ?_)⟩
      · have e0 : r = 0 := V.int.inj (of_decide_eq_true h0)
        subst e0
        refine ⟨.ref d, rfl, d, _, rfl, .inl (SqL.of hd), _, _, rfl, rfl, _, rfl, ite2 (fun h2 => ?_) (fun h2 => ?_)⟩
        · cases bs with
          | nil =>
            have := of_decide_eq_true h2
            simp at this
          | cons b bs =>
            refine ⟨.ref d, rfl, .inl ⟨rfl, _, SqL.of hd⟩, d, _, 2, 2, .int b, rfl, rfl, hd, by decide, by decide, ?_, rfl, ?_⟩
            · simp [seqIndex?]
              omega
            · refine ⟨.ref d, rfl, d, _, 1, 1, rfl, rfl, upd_same, ?_, b, bs, rfl, hb b (by simp), fun c hc => hb c (by simp [hc]), by simp at hl; omega, ?_⟩
              · exact ixn (j := 1) (by simp)
              · rw [upd_upd]
                rfl
        · exact ⟨0, bs, rfl, hr0, hb, hl, (upd_self hd).symm⟩
      · refine iteF ?_
        exact ⟨r, bs, rfl, hr0, hb, hl, (upd_self hd).symm⟩
    · rintro σ' H' ⟨r, bs, rfl, hr0, hb, hl, rfl⟩
      have hd1 : (upd H d (.lst (Ints (f :: r :: bs)))) d = some (.lst (Ints (f :: r :: bs))) := upd_same
      refine ⟨.ref d, rfl, d, _, 1, .int r, rfl, rfl, SqL.of hd1, atI_nat (j := 1) rfl, _, _, rfl, rfl, _, rfl, ite2 (fun h2 => ?_) (fun h2 => ?_)⟩
      · have hm : 0 < m := by omega
        refine ⟨.ref d, rfl, d, _, 1, .int r, rfl, rfl, SqL.of hd1, atI_nat (j := 1) rfl, .int m, rfl, _, _, rfl, rfl, hm, ?_⟩
        refine ⟨.ref d, rfl, d, _, 1, .int r, rfl, rfl, SqL.of hd1, atI_nat (j := 1) rfl, .int m, rfl, _, _, rfl, rfl, ⟨hm, by omega⟩, ?_⟩
        refine ⟨.ref d, rfl, d, _, 1, 1, rfl, rfl, upd_same, ixn (j := 1) (by simp), .int (r % m), rfl, ?_⟩
        rw [upd_upd]
        exact q _ (f :: (r / m) :: bs) (Int.emod_nonneg _ (by omega)) (Int.emod_lt_of_pos _ hm) ⟨f, r / m, bs, rfl, hf0, hf1, Int.ediv_nonneg hr0 (by omega), hb, hl⟩
      · refine ⟨.ref d, rfl, d, _, 0, .int f, rfl, rfl, SqL.of hd1, atI_nat (j := 0) rfl, _, _, rfl, rfl, .inl ⟨by omega, by omega⟩, _, _, rfl, rfl, _, _, rfl, rfl, (by show (0 : Int) < 2147483647; decide), ?_⟩
        refine ⟨.ref d, rfl, d, _, 0, 0, rfl, rfl, upd_same, ixn (j := 0) (by simp), ?_⟩
        rw [upd_upd]
        have g0 := Int.emod_nonneg (f * 48271 + 11) (show (2147483647 : Int) ≠ 0 by decide)
        have g1 := Int.emod_lt_of_pos (f * 48271 + 11) (show (0 : Int) < 2147483647 by decide)
        refine ⟨.ref d, rfl, d, _, 0, .int ((f * 48271 + 11) % 2147483647), rfl, rfl, SqL.of upd_same, atI_nat (j := 0) rfl, _, _, rfl, rfl, ⟨by decide, by decide⟩, .int m, rfl, _, _, rfl, rfl, (by show 0 < m; omega), ?_⟩
        exact q _ (_ :: r :: bs) (Int.emod_nonneg _ (by omega)) (Int.emod_lt_of_pos _ (by omega)) ⟨_, r, bs, rfl, g0, g1, hr0, hb, hl⟩
/-- .. by what is kept -/
def spOffK : Sp := fun vs H Q _ => ∃ (d : Addr) (ds : List Int) (m : Int), vs = [.ref d, .int m] ∧ H d = some (.lst (Ints ds)) ∧ Dice ds ∧ 1 ≤ m ∧ m < 1000000 ∧
  ∀ k ds' H', 0 ≤ k → k < m → Dice ds' → Keep d H H' → H' d = some (.lst (Ints ds')) → Q (.int k) H'
theorem ok_l_offK (T : Txt K mg) : FnOk P w K mg base CX0 1 T.a_l_off T.d_l_off ["_law_d", "_law_most"] spOffK :=
  (ok_l_off T).imp fun vs H Q E h => by
    obtain ⟨d, ds, m, rfl, hd, hD, h1, h2, q⟩ := h
    exact ⟨d, ds, m, rfl, hd, hD, h1, h2, fun k ds' h3 h4 h5 => q k ds' _ h3 h4 h5 Keep.upd upd_same⟩

def spDice (K : PySem.W.Frag) : Sp := fun vs H Q _ => ∃ (a : Addr) (ns : List Int), vs = [.ref a, .int 0] ∧ SqL K H a (Ints ns) ∧ ns.length ≤ 63 ∧
  ∀ H' p ds, Same H H' → H p = none → H' p = some (.lst (Ints ds)) → Dice ds → Q (.ref p) H'
theorem ok_l_dice (T : Txt K mg) : FnOk P w K mg base CX0 1 T.a_l_dice T.d_l_dice ["_law_script", "_law_k"] (spDice K) := by
  refine T.F_l_dice.ok sc_l_dice (fun vs H Q E h => ?_) (fun cdv A outer s H vs Q E hr h => ?_)
  · obtain ⟨a, ns, rfl, _⟩ := h
    rfl
  · obtain ⟨a, ns, rfl, hS, hn, q⟩ := h
    refine ⟨_,
    (pss_cons (ps_set (i := 2) sc_l_dice.nd rfl (Or.inl rfl) (pv 1)) 
    (pss_cons (ps_for PassesOwn.never rfl (pi_list (pv 0)) (pg_name (i := 3) sc_l_dice.nd rfl (Or.inl rfl)) 
      (pss_one (ps_set (i := 2) sc_l_dice.nd rfl (Or.inl rfl) (pe_op op_mod (pe_op op_add (pe_op op_mul (pv 2) pe_int) (pe_callB call_abs (by rfl) T.m_abs (by decide +kernel) (pa_cons (pv 3) pa_nil))) pe_int)))) 
    (pss_one (ps_ret (pe_op op_cat (pe_lst (pa_cons (pv 2) (pa_cons pe_int pa_nil))) (pe_lc (own := [("_law_cell", 3)]) (g := gName 3) rfl sc_l_dice.nd (pi_list (pv 0)) (blkOk_by (own := [("_law_cell", 3)]) (N := n_l_dice) (sc := (defScope s_l_dice)) (by decide +kernel)) (fun _ _ _ _ _ => (pg_name (i := 3) sc_l_dice.nd rfl (Or.inl rfl))) (fun _ _ _ _ _ => (pts_one (pt_cmpR op_ge (pv 3) (pe_op op_pow pe_int pe_int) (nomark _)))) (fun _ _ _ _ _ => (pv 3)))))))), ?_⟩
    refine ⟨.int 0, rfl, .ref a, rfl, a, rfl, ⟨_, hS⟩, for_list (xs := Ints ns) (fun i σ H' => ∃ y3 f, σ = [some (.ref a), some (.int 0), some (.int f), y3] ∧ 0 ≤ f ∧ f < 2147483647 ∧ H = H') ⟨none, 0, rfl, by decide, by decide, rfl⟩ ?_ ?_ ?_⟩
    · rintro i σ H' _ ⟨y3, f, rfl, h0, h1, rfl⟩
      exact hS
    · rintro i x σ H' hx ⟨y3, f, rfl, h0, h1, rfl⟩
      rw [List.getElem?_map] at hx
      obtain ⟨c, hc, rfl⟩ := Option.map_eq_some_iff.mp hx
      refine ⟨_, rfl, _, _, rfl, rfl, .inl ⟨by omega, by omega⟩, _, rfl, c, rfl, _, _, rfl, rfl, _, _, rfl, rfl, (by show (0 : Int) < 2147483647; decide), ?_⟩
      exact ⟨_, _, rfl, Int.emod_nonneg _ (by decide), Int.emod_lt_of_pos _ (by decide), rfl⟩
    · rintro σ H' ⟨y3, f, rfl, h0, h1, rfl⟩
      refine ⟨_, rfl, (by show 2 ≤ sizeLine; decide), fun l hl => ?_⟩
      have hS' := (Same.new (o := .lst [.int f, .int 0]) hl).seq hS
      refine ⟨_, rfl, a, rfl, ⟨_, hS'⟩, fun D hD => lc_list (xs := Ints ns) (fun i H' => ∃ bs, H' D = some (.lst (Ints bs)) ∧ (∀ b ∈ bs, 0 ≤ b) ∧ bs.length ≤ i ∧ H' l = some (.lst [.int f, .int 0]) ∧ Same H H') ?_ ?_ ?_ ?_⟩
      · have hlD : l ≠ D := ne_of_none upd_same hD
        exact ⟨[], upd_same, by simp, Nat.le_refl _, by rw [upd_ne hlD, upd_same], (Same.new hl).trans (Same.new hD)⟩
      · rintro i H' _ ⟨bs, _, _, _, _, sm⟩
        exact sm.seq hS
      · rintro i x H' hx ⟨bs, eD, hb, hbl, el, sm⟩
        rw [List.getElem?_map] at hx
        obtain ⟨c, hc, rfl⟩ := Option.map_eq_some_iff.mp hx
        have hi : i < ns.length := (List.getElem?_eq_some_iff.mp hc).1
        refine ⟨rfl, _, rfl, _, _, rfl, rfl, ⟨by decide, by decide, by decide⟩, _, _, rfl, rfl, _, rfl, ?_⟩
        refine ite2 (fun h => ?_) (fun h => ?_)
        · have hc : (10 : Int) ^ 18 ≤ c := of_decide_eq_true h
          refine ⟨_, rfl, _, eD, (by rw [List.length_map]; exact small1000 (by omega)), bs ++ [c], ?_, ?_, ?_, ?_, ?_⟩
          · rw [upd_same]
            simp
          · intro b hm
            rcases List.mem_append.mp hm with hm | hm
            · exact hb b hm
            · rw [List.mem_singleton.mp hm]
              have : (0 : Int) ≤ (10 : Int) ^ 18 := by decide
              omega
          · rw [List.length_append]
            simp
            omega
          · have hlD : l ≠ D := ne_of_none upd_same hD
            rw [upd_ne hlD]
            exact el
          · exact Same.mut sm (Same.free (Same.new hl) hD)
        · exact ⟨bs, eD, hb, by omega, el, sm⟩
      · rintro H' ⟨bs, eD, hb, hbl, el, sm⟩
        rw [List.length_map] at hbl
        refine ⟨l, D, _, _, rfl, rfl, el, eD, ?_, fun p hp => ?_⟩
        · simp only [List.length_map, List.length_cons, List.length_nil]
          exact Nat.le_of_lt (small1000 (by omega))
        · exact q _ p (f :: 0 :: bs) (sm.trans (Same.new hp)) (sm.free hp) (by rw [upd_same]; rfl) ⟨f, 0, bs, rfl, h0, h1, by decide, hb, by omega⟩

/-- a def that draws: the dice at d turns, all else stands -/
def spMixed : Sp := fun vs H Q _ => ∃ (d r : Addr) (ds : List Int) (cs : List Nat), vs = [.ref d, .ref r] ∧ H d = some (.lst (Ints ds)) ∧ Dice ds ∧ H r = some (.lst (Sgs cs)) ∧ cs.length ≤ 1000 ∧ (∀ c ∈ cs, c < 1114112) ∧
  ∀ H' p ds' ps, Keep d H H' → H p = none → H' d = some (.lst (Ints ds')) → Dice ds' → H' p = some (.lst (Sgs ps)) → ps.Perm cs → Q (.ref p) H'
def MixInv (d r l o : Addr) (H : Hp) (cs ls : List Nat) (σ : L2.St) (H' : Hp) : Prop :=
  ∃ ps ds', σ = [some (.ref d), some (.ref r), some (.ref l), some (.ref o)] ∧ Keep d H H' ∧ H' d = some (.lst (Ints ds')) ∧ Dice ds' ∧ H' l = some (.lst (Sgs ls)) ∧ H' o = some (.lst (Sgs ps)) ∧ (ps ++ ls).Perm cs
theorem erase_map {α β : Type} (f : α → β) (l : List α) (k : Nat) : (l.map f).eraseIdx k = (l.eraseIdx k).map f := by
  rw [List.eraseIdx_eq_take_drop_succ, List.eraseIdx_eq_take_drop_succ, List.map_append, List.map_take, List.map_drop]
theorem perm_take {ps ls : List Nat} {k : Nat} (h : k < ls.length) : ((ps ++ [ls[k]]) ++ ls.eraseIdx k).Perm (ps ++ ls) := by
  rw [List.append_assoc]
  refine List.Perm.append_left ps ?_
  show (ls[k] :: ls.eraseIdx k).Perm ls
  have e := List.eraseIdx_eq_take_drop_succ ls k
  rw [e]
  have e2 : ls = ls.take k ++ ls[k] :: ls.drop (k + 1) := by
    rw [List.getElem_cons_drop, List.take_append_drop]
  conv => rhs; rw [e2]
  exact List.perm_middle.symm
theorem ok_l_mixed (T : Txt K mg) : FnOk P w K mg base CX0 2 T.a_l_mixed T.d_l_mixed ["_law_d", "_law_row"] spMixed := by
  refine T.F_l_mixed.ok sc_l_mixed (fun vs H Q E h => ?_) (fun cdv A outer s H vs Q E hr h => ?_)
  · obtain ⟨d, r, ds, cs, rfl, _⟩ := h
    rfl
  · obtain ⟨d, r, ds, cs, rfl, hd, hD, hR, hlen, hcs, q⟩ := h
    refine ⟨_,
    (pss_cons (ps_set (i := 2) sc_l_mixed.nd rfl (Or.inl rfl) (pe_callTy call_list_of (by rfl) T.m_list (by decide +kernel) (pa_cons (pv 1) pa_nil))) 
    (pss_cons (ps_set (i := 3) sc_l_mixed.nd rfl (Or.inl rfl) (pe_lst pa_nil)) 
    (pss_cons (ps_while PassesOwn.never (pt_cmpR (op_neD hr.units) (pv 2) (pe_lst pa_nil) (nomark _)) 
      (pss_one (ps_expr (pe_bm PySem.F.plainAttrs_list PySem.F.slot_list_append PySem.F.type_list_append mt_append (pv 3) (pa_cons (pe_bm PySem.F.plainAttrs_list PySem.F.slot_list_pop PySem.F.type_list_pop mt_popAt (pv 2) (pa_cons (pe_call (ok_l_off T) (hr.mono (by decide)) (by rfl) T.g_l_off T.F_l_off.kp T.b_l_off .nil pass0 (pa_cons (pv 0) (pa_cons (pe_callB call_len_seq (by rfl) T.m_len PySem.boot_len (pa_cons (pv 2) pa_nil)) pa_nil))) pa_nil)) pa_nil))))) 
    (pss_one (ps_ret (pv 3)))))), ?_⟩
    refine ⟨.ref r, rfl, r, _, rfl, .inl (SqL.of hR), fun l hl => ⟨Nat.zero_le _, fun o ho => ?_⟩⟩
    have hlo : l ≠ o := ne_of_none upd_same ho
    have hdl : d ≠ l := ne_of_none hd hl
    have hdo : d ≠ o := ne_of_none (by rw [upd_ne hdl]; exact hd) ho
    have hoN : H o = none := Same.free (Same.new hl) ho
    refine ⟨fun m σ H' => ∃ ls, m = ls.length ∧ MixInv d r l o H cs ls σ H', ⟨_, cs, rfl, [], ds, rfl, Keep.same ((Same.new hl).trans (Same.new ho)), ?_, hD, ?_, upd_same, List.Perm.refl _⟩, ?_⟩
    · rw [upd_ne hdo, upd_ne hdl]
      exact hd
    · rw [upd_ne hlo, upd_same]
    · rintro m σ H' ⟨ls, rfl, ps, ds', rfl, kp, ed, hD', el, eo, pm⟩
      have hls : ∀ c ∈ ls, c < 1114112 := fun c hc => hcs c (pm.mem_iff.mp (List.mem_append_right _ hc))
      have hll : ps.length + ls.length = cs.length := by
        rw [← List.length_append]
        exact pm.length_eq
      refine ⟨_, rfl, Nat.zero_le _, fun t ht => ?_⟩
      have st : Same H' (upd H' t (.lst [])) := Same.new ht
      have kt : Keep d H (upd H' t (.lst [])) := kp.trans (Keep.same st)
      refine ⟨dSgs ls, .list [], Dp.sgs (st _ _ el), .lst (SqL.of upd_same) .nil, shaped_sgs hls, rfl, _, rfl, ite2 (fun h => ?_) (fun h => ?_)⟩
      · have hne : ls ≠ [] := by
          rintro rfl
          simp [eqv_nil] at h
        have hpos : 0 < ls.length := List.length_pos_iff.mpr hne
        refine ⟨fun σ' H' => ∃ ls', ls'.length < ls.length ∧ MixInv d r l o H cs ls' σ' H', fun σ' H' hN => ?_, ?_⟩
        · obtain ⟨ls', h1, h2⟩ := hN
          exact ⟨ls'.length, h1, ls', rfl, h2⟩
        · refine ⟨_, rfl, .inl ⟨rfl, _, SqL.of (st _ _ eo)⟩, _, rfl, .inl ⟨rfl, _, SqL.of (st _ _ el)⟩, _, rfl, _, rfl, l, _, rfl, .inl (SqL.of (st _ _ el)), ?_⟩
          refine ⟨d, ds', _, rfl, st _ _ ed, hD', by simp; omega, by simp; omega, fun k ds2 hk0 hk1 hD2 => ?_⟩
          have hlk : k.toNat < ls.length := by
            simp at hk1
            omega
          have el2 : (upd (upd H' t (.lst [])) d (.lst (Ints ds2))) l = some (.lst (Sgs ls)) := by
            rw [upd_ne hdl.symm]
            exact st _ _ el
          have eo2 : (upd (upd H' t (.lst [])) d (.lst (Ints ds2))) o = some (.lst (Sgs ps)) := by
            rw [upd_ne hdo.symm]
            exact st _ _ eo
          refine ⟨l, _, k, k.toNat, sg ls[k.toNat], rfl, rfl, el2, by omega, by omega, ?_, ?_, ?_⟩
          · simp [seqIndex?]
            simp at hk1
            omega
          · rw [List.getElem?_map, List.getElem?_eq_getElem hlk]
            rfl
          · refine ⟨o, _, _, rfl, rfl, (by rw [upd_ne hlo.symm]; exact eo2), ?_, ls.eraseIdx k.toNat, ?_, ps ++ [ls[k.toNat]], ds2, rfl, ?_, ?_, hD2, ?_, ?_, ?_⟩
            · rw [List.length_map]
              exact small1000 (by omega)
            · rw [List.length_eraseIdx_of_lt hlk]
              omega
            · exact ((kt.trans Keep.upd).mut hl).mut hoN
            · rw [upd_ne hdo, upd_ne hdl, upd_same]
            · rw [upd_ne hlo, upd_same, erase_map]
            · rw [upd_same]
              simp
            · exact (perm_take hlk).trans pm
      · have e : ls = [] := by
          have : PyData.eqv (dSgs ls) (.list []) = true := by
            cases hh : PyData.eqv (dSgs ls) (.list []) with
            | true => rfl
            | false =>
              rw [hh] at h
              exact absurd rfl h
          rw [eqv_nil] at this
          cases ls with
          | nil => rfl
          | cons _ _ => cases this
        subst e
        rw [List.append_nil] at pm
        exact ⟨_, rfl, q _ o ds' ps kt hoN (st _ _ ed) hD' (st _ _ eo) pm⟩

/-! ### the drawn sets -/
def sg0 : List Nat := (List.range 10).map (· + 97) ++ [32] ++ (List.range 7).map (· + 48) ++ [46, 44, 45, 120]
def sg1 : List Nat := (List.range 127).filter fun c => decide (32 ≤ c) && !decide (c = 34) && !decide (c = 37) && !decide (c = 92)
theorem sg0_ok : sg0.length = 22 ∧ sg0.Nodup ∧ ∀ c ∈ sg0, c < 127 := by decide +kernel
theorem sg1_ok : sg1.length = 92 ∧ sg1.Nodup ∧ ∀ c ∈ sg1, c < 127 := by decide +kernel
/-- 22 signs -/
def Signs (cs : List Nat) : Prop := cs.length = 22 ∧ cs.Nodup ∧ ∀ c ∈ cs, c < 127
theorem Signs.turn {cs : List Nat} (h : Signs cs) (n : Nat) : Signs (cs.drop n ++ cs.take n) := by
  have pm : (cs.drop n ++ cs.take n).Perm cs := by
    have := List.perm_append_comm (l₁ := cs.drop n) (l₂ := cs.take n)
    rw [List.take_append_drop] at this
    exact this
  exact ⟨by rw [pm.length_eq]; exact h.1, pm.nodup_iff.mpr h.2.1, fun c hc => h.2.2 c (pm.mem_iff.mp hc)⟩
theorem join_cut (ps : List Nat) (n : Int) (h : 0 ≤ n) : cutV (Sgs ps) none (some n) = ((ps.take n.toNat).map fun c => S [c]).map V.str := by
  rw [cutV_to h, ← Sgs_eq]
  exact List.map_take.symm
theorem at_many {k0 k1 : Int} (h0 : 0 ≤ k0) (h1 : k0 < 10) (h2 : 0 ≤ k1) (h3 : k1 < 4) : ∃ m : Int, atI [V.int 3, V.int 4, V.int 6, V.int (1 + k0)] k1 = some (.int m) ∧ 1 ≤ m ∧ m ≤ 10 := by
  have : k1 = 0 ∨ k1 = 1 ∨ k1 = 2 ∨ k1 = 3 := by omega
  rcases this with rfl | rfl | rfl | rfl
  · exact ⟨3, atI_nat (j := 0) rfl, by decide, by decide⟩
  · exact ⟨4, atI_nat (j := 1) rfl, by decide, by decide⟩
  · exact ⟨6, atI_nat (j := 2) rfl, by decide, by decide⟩
  · exact ⟨1 + k0, atI_nat (j := 3) rfl, by omega, by omega⟩
def spSets : Sp := fun vs H Q _ => ∃ (d : Addr) (ds : List Int), vs = [.ref d] ∧ H d = some (.lst (Ints ds)) ∧ Dice ds ∧
  ∀ H' p ds' one two, Keep d H H' → H p = none → H' d = some (.lst (Ints ds')) → Dice ds' → SetsAt H' p one two → Sets one two → Q (.ref p) H'
theorem ok_l_sets (T : Txt K mg) : FnOk P w K mg base CX0 3 T.a_l_sets T.d_l_sets ["_law_d"] spSets := by
  refine T.F_l_sets.ok sc_l_sets (fun vs H Q E h => ?_) (fun cdv A outer s H vs Q E hr h => ?_)
  · obtain ⟨d, ds, rfl, _⟩ := h
    rfl
  · obtain ⟨d, ds, rfl, hd, hD, q⟩ := h
    refine ⟨_,
    (pss_cons (ps_set (i := 1) sc_l_sets.nd rfl (Or.inl rfl) (pe_ix ix_list (pe_lst (pa_cons pe_int (pa_cons pe_int (pa_cons pe_int (pa_cons (pe_op op_add pe_int (pe_call (ok_l_offK T) (hr.mono (by decide)) (by rfl) T.g_l_off T.F_l_off.kp T.b_l_off .nil pass0 (pa_cons (pv 0) (pa_cons pe_int pa_nil)))) pa_nil))))) (pe_call (ok_l_offK T) (hr.mono (by decide)) (by rfl) T.g_l_off T.F_l_off.kp T.b_l_off .nil pass0 (pa_cons (pv 0) (pa_cons pe_int pa_nil))) (fun _ _ => rfl))) 
    (pss_cons (ps_set (i := 2) sc_l_sets.nd rfl (Or.inl rfl) pe_str) 
    (C8.pss_cut (ps_if (pt_cmpR op_eq (pe_call (ok_l_offK T) (hr.mono (by decide)) (by rfl) T.g_l_off T.F_l_off.kp T.b_l_off .nil pass0 (pa_cons (pv 0) (pa_cons pe_int pa_nil))) pe_int (nomark _)) 
      (pss_cons (ps_set (i := 3) sc_l_sets.nd rfl (Or.inl rfl) pe_str) 
      (pss_one (ps_set (i := 2) sc_l_sets.nd rfl (Or.inl rfl) (pe_join pe_str (pe_slice sl_list (pe_call (ok_l_mixed T) (hr.mono (by decide)) (by rfl) T.g_l_mixed T.F_l_mixed.kp T.b_l_mixed .nil pass0 (pa_cons (pv 0) (pa_cons (pe_callTy (call_list_text rfl) (by rfl) T.m_list (by decide +kernel) (pa_cons (pv 3) pa_nil)) pa_nil))) po_none (po_some pe_int)))))) pss_nil) 
    (pss_cons (ps_set (i := 4) sc_l_sets.nd rfl (Or.inl rfl) (pe_call (ok_l_offK T) (hr.mono (by decide)) (by rfl) T.g_l_off T.F_l_off.kp T.b_l_off .nil pass0 (pa_cons (pv 0) (pa_cons pe_int pa_nil)))) 
    (pss_cons (ps_set (i := 2) sc_l_sets.nd rfl (Or.inl rfl) (pe_op op_add_str (pe_slice sl_str (pv 2) (po_some (pv 4)) po_none) (pe_slice sl_str (pv 2) po_none (po_some (pv 4))))) 
    (pss_cons (ps_set (i := 5) sc_l_sets.nd rfl (Or.inl rfl) (pe_join pe_str (pe_slice sl_list (pe_call (ok_l_mixed T) (hr.mono (by decide)) (by rfl) T.g_l_mixed T.F_l_mixed.kp T.b_l_mixed .nil pass0 (pa_cons (pv 0) (pa_cons (pe_callTy (call_list_text rfl) (by rfl) T.m_list (by decide +kernel) (pa_cons (pe_slice sl_str (pv 2) po_none (po_some (pe_op op_add (pv 1) (pe_call (ok_l_offK T) (hr.mono (by decide)) (by rfl) T.g_l_off T.F_l_off.kp T.b_l_off .nil pass0 (pa_cons (pv 0) (pa_cons pe_int pa_nil)))))) pa_nil)) pa_nil))) po_none (po_some (pv 1))))) 
    (pss_cons (ps_set (i := 6) sc_l_sets.nd rfl (Or.inl rfl) (pe_op op_add pe_int (pe_call (ok_l_offK T) (hr.mono (by decide)) (by rfl) T.g_l_off T.F_l_off.kp T.b_l_off .nil pass0 (pa_cons (pv 0) (pa_cons pe_int pa_nil))))) 
    (pss_cons (ps_set (i := 7) sc_l_sets.nd rfl (Or.inr rfl) pe_str) 
    (pss_cons (ps_set (i := 8) sc_l_sets.nd rfl (Or.inl rfl) (pe_call (ok_l_mixed T) (hr.mono (by decide)) (by rfl) T.g_l_mixed T.F_l_mixed.kp T.b_l_mixed .nil pass0 (pa_cons (pv 0) (pa_cons (pe_callTy (call_list_text rfl) (by rfl) T.m_list (by decide +kernel) (pa_cons (pv 2) pa_nil)) pa_nil)))) 
    (pss_cons (ps_for PassesOwn.never rfl (pi_range1 (by rfl) T.m_range (pa_cons (pv 1) pa_nil)) (pg_name (i := 9) sc_l_sets.nd rfl (Or.inl rfl)) 
      (pss_one (ps_if (pt_cut (PW.pt (pw_and (pt_cmpR op_eq (pe_call (ok_l_offK T) (hr.mono (by decide)) (by rfl) T.g_l_off T.F_l_off.kp T.b_l_off .nil pass0 (pa_cons (pv 0) (pa_cons (pv 6) pa_nil))) pe_int (nomark _)) (pw_and1 (pt_cmpR op_notIn_sign (pe_ix ix_str (pv 5) (pv 9) (fun _ _ => rfl)) (pv 7) (by rfl)))))) 
        (pss_one (ps_set (i := 7) sc_l_sets.nd rfl (Or.inr rfl) (pe_op op_add_str (pv 7) (pe_ix ix_str (pv 5) (pv 9) (fun _ _ => rfl))))) 
        (pss_cons (ps_setLc (i := 10) (own := [("_law_sign", 11)]) (g := gName 11) rfl sc_l_sets.nd rfl rfl (sw_true rfl rfl rfl (by decide +kernel)) (pi_list (pv 8)) (blkOk_by (own := [("_law_sign", 11)]) (N := n_l_sets) (sc := (defScope s_l_sets)) (by decide +kernel)) (fun _ _ _ _ _ => (pg_name (i := 11) sc_l_sets.nd rfl (Or.inl rfl))) (fun _ _ _ _ _ => (pts_one (pt_cmpR op_notIn_sign (pv 11) (pv 7) (by rfl)))) (fun _ _ _ _ _ => (pv 11))) 
        (pss_one (ps_set (i := 7) sc_l_sets.nd rfl (Or.inr rfl) (pe_op op_add_str (pv 7) (pe_ix ix_list (pv 10) pe_int (fun _ _ => rfl))))))))) 
    (pss_one (ps_ret (pe_tup (pa_cons (pv 5) (pa_cons (pv 7) pa_nil))))))))))))))), ?_⟩
    -- how many signs
    refine ⟨_, rfl, d, ds, 10, rfl, hd, hD, by decide, by decide, fun k0 ds0 H0 hk0 hk0' hD0 kp0 e0 => ?_⟩
    refine ⟨_, _, rfl, rfl, (by show 4 ≤ sizeLine; decide), fun l hl => ?_⟩
    have hdl : d ≠ l := ne_of_none e0 hl
    refine ⟨_, rfl, d, ds0, 4, rfl, (by rw [upd_ne hdl]; exact e0), hD0, by decide, by decide, fun k1 ds1 H1 hk1 hk1' hD1 kp1 e1 => ?_⟩
    obtain ⟨m, hm, hm1, hm2⟩ := at_many hk0 hk0' hk1 hk1'
    refine ⟨l, _, k1, .int m, rfl, rfl, SqL.of (kp1 l _ hdl.symm upd_same), hm, ?_⟩
    have kpA : Keep d H H1 := kp0.trans ((Keep.same (Same.new hl)).trans kp1)
    -- which signs
    refine ⟨fun σ' H' => ∃ cs y3 ds', σ' = [some (.ref d), some (.int m), some (.str (S cs)), y3, none, none, none, none, none, none, none, none] ∧ Keep d H H' ∧ H' d = some (.lst (Ints ds')) ∧ Dice ds' ∧ Signs cs, ?_, ?_⟩
    · refine ⟨_, rfl, d, ds1, 4, rfl, e1, hD1, by decide, by decide, fun k2 ds2 H2 hk2 hk2' hD2 kp2 e2 => ?_⟩
      refine ⟨rfl, _, rfl, ite2 (fun h => ?_) (fun h => ?_)⟩
      · refine ⟨⟨_, rfl⟩, _, rfl, _, rfl, sg1, by rfl, small_le (by rw [sg1_ok.1]; decide), fun r hr => ?_⟩
        have hdr : d ≠ r := ne_of_none e2 hr
        refine ⟨d, r, ds2, sg1, rfl, (by rw [upd_ne hdr]; exact e2), hD2, upd_same, (by rw [sg1_ok.1]; decide), fun c hc => Nat.lt_trans (sg1_ok.2.2 c hc) (by decide), fun H3 p ds3 ps kp3 hp e3 hD3 ep pm => ?_⟩
        refine ⟨22, rfl, p, _, rfl, SqL.of ep, fun z hz => ?_⟩
        have hdz : d ≠ z := ne_of_none e3 hz
        have hl3 : ps.length = 92 := by rw [pm.length_eq, sg1_ok.1]
        refine ⟨S [], z, (ps.take 22).map (fun c => S [c]), rfl, rfl, .inl (SqL.of (by rw [upd_same, join_cut ps 22 (by decide)]; rfl)), ?_, ?_⟩
        · rw [len_sgs, List.length_map, List.length_take, S_len]
          simp
          omega
        · rw [join_sgs]
          refine ⟨_, _, ds3, rfl, (kpA.trans (kp2.trans ((Keep.same (Same.new hr)).trans kp3))).trans (Keep.same (Same.new hz)), by rw [upd_ne hdz]; exact e3, hD3, ?_, ?_, ?_⟩
          · rw [List.length_take, hl3]
            rfl
          · exact (List.take_sublist 22 ps).nodup (pm.nodup_iff.mpr sg1_ok.2.1)
          · exact fun c hc => sg1_ok.2.2 c (pm.mem_iff.mp (List.mem_of_mem_take hc))
      · exact ⟨sg0, none, ds2, by rfl, kpA.trans kp2, e2, hD2, sg0_ok⟩
    · rintro σ' H2 ⟨cs0, y3, ds2, rfl, kp2, e2, hD2, hs0⟩
      -- turned
      refine ⟨_, rfl, d, ds2, 20, rfl, e2, hD2, by decide, by decide, fun k3 ds3 H3 hk3 hk3' hD3 kp3 e3 => ?_⟩
      refine ⟨_, rfl, _, rfl, k3, rfl, S cs0, rfl, small_le (by rw [S_len, hs0.1]; decide), ?_⟩
      refine ⟨_, rfl, _, rfl, k3, rfl, S cs0, rfl, small_le (by rw [S_len, hs0.1]; decide), ?_⟩
      rw [cut_from hk3, cut_to hk3]
      have hs1 := hs0.turn k3.toNat
      refine ⟨_, _, rfl, rfl, small_le ?_, ?_⟩
      · rw [S_len, S_len, ← List.length_append, hs1.1]
        decide
      rw [S_cat]
      generalize cs0.drop k3.toNat ++ cs0.take k3.toNat = cs at hs1 ⊢
      have kpB : Keep d H H3 := kp2.trans kp3
      -- the first set
      refine ⟨⟨_, rfl⟩, _, rfl, _, rfl, _, rfl, _, rfl, d, ds3, 3, rfl, e3, hD3, by decide, by decide, fun k4 ds4 H4 hk4 hk4' hD4 kp4 e4 => ?_⟩
      refine ⟨_, _, rfl, rfl, m + k4, rfl, S cs, rfl, small_le (by rw [S_len, hs1.1]; decide), ?_⟩
      rw [cut_to (by omega)]
      refine ⟨_, rfl, small_le (by rw [List.length_take, hs1.1]; omega), fun r hr => ?_⟩
      have hdr : d ≠ r := ne_of_none e4 hr
      refine ⟨d, r, ds4, _, rfl, (by rw [upd_ne hdr]; exact e4), hD4, upd_same, (by rw [List.length_take, hs1.1]; omega), fun c hc => Nat.lt_trans (hs1.2.2 c (List.mem_of_mem_take hc)) (by decide), fun H5 p ds5 ps kp5 hp e5 hD5 ep pm => ?_⟩
      refine ⟨_, rfl, m, rfl, p, _, rfl, SqL.of ep, fun z hz => ?_⟩
      have hdz : d ≠ z := ne_of_none e5 hz
      have hl5 : ps.length = min (m + k4).toNat 22 := by rw [pm.length_eq, List.length_take, hs1.1]
      refine ⟨S [], z, (ps.take m.toNat).map (fun c => S [c]), rfl, rfl, .inl (SqL.of (by rw [upd_same, join_cut ps m (by omega)])), ?_, ?_⟩
      · rw [len_sgs, List.length_map, List.length_take, S_len]
        simp
        omega
      rw [join_sgs]
      have hone : (ps.take m.toNat).length = m.toNat ∧ (ps.take m.toNat).Nodup ∧ ∀ c ∈ ps.take m.toNat, c < 127 := by
        refine ⟨by rw [List.length_take, hl5]; omega, ?_, fun c hc => hs1.2.2 c (List.mem_of_mem_take (pm.mem_iff.mp (List.mem_of_mem_take hc)))⟩
        exact (List.take_sublist _ _).nodup (pm.nodup_iff.mpr ((List.take_sublist _ _).nodup hs1.2.1))
      generalize ps.take m.toNat = one at hone ⊢
      have kpC : Keep d H (upd H5 z (.lst (cutV (Sgs ps) none (some m)))) := (kpB.trans (kp4.trans ((Keep.same (Same.new hr)).trans kp5))).trans (Keep.same (Same.new hz))
      have eC : (upd H5 z (.lst (cutV (Sgs ps) none (some m)))) d = some (.lst (Ints ds5)) := by
        rw [upd_ne hdz]
        exact e5
      generalize upd H5 z (.lst (cutV (Sgs ps) none (some m))) = H6 at kpC eC ⊢
      -- the second one
      refine ⟨_, rfl, d, ds5, 4, rfl, eC, hD5, by decide, by decide, fun k6 ds6 H7 hk6 hk6' hD6 kp6 e6 => ?_⟩
      refine ⟨_, _, rfl, rfl, ?_⟩
      refine ⟨_, rfl, _, rfl, cs, rfl, small_le (by rw [hs1.1]; decide), fun r2 hr2 => ?_⟩
      have hdr2 : d ≠ r2 := ne_of_none e6 hr2
      refine ⟨d, r2, ds6, cs, rfl, (by rw [upd_ne hdr2]; exact e6), hD6, upd_same, (by rw [hs1.1]; decide), fun c hc => Nat.lt_trans (hs1.2.2 c hc) (by decide), fun H8 lf ds8 ls kp8 hlf e8 hD8 elf pm2 => ?_⟩
      have kpD : Keep d H H8 := kpC.trans (kp6.trans ((Keep.same (Same.new hr2)).trans kp8))
      have hln : ls.Nodup := pm2.nodup_iff.mpr hs1.2.1
      have hll : ls.length = 22 := by rw [pm2.length_eq, hs1.1]
      have hlc : ∀ c ∈ ls, c < 127 := fun c hc => hs1.2.2 c (pm2.mem_iff.mp hc)
      have hdlf : d ≠ lf := ne_of_none (by rw [upd_ne hdr2]; exact e6) hlf
      have hoff : 1 ≤ 1 + k6 ∧ 1 + k6 < 1000000 := by omega
      refine ⟨_, rfl, m, rfl, by omega, by omega, for_range (n := m.toNat) (fun i σ H' => ∃ ot y9 y10 y11 ds', σ = [some (.ref d), some (.int m), some (.str (S cs)), y3, some (.int k3), some (.str (S one)), some (.int (1 + k6)), some (.str (S ot)), some (.ref lf), y9, y10, y11] ∧
        Keep d H H' ∧ H' d = some (.lst (Ints ds')) ∧ Dice ds' ∧ H' lf = some (.lst (Sgs ls)) ∧ ot.length = i ∧ ot.Nodup ∧ ∀ c ∈ ot, c < 127) ⟨[], none, none, none, ds8, rfl, kpD, e8, hD8, elf, rfl, List.nodup_nil, by simp⟩ ?_ ?_⟩
      · rintro i σ H' hi ⟨ot, y9, y10, y11, ds', rfl, kp, ed, hD', ef, hol, hon, hoc⟩
        have hio : i < one.length := by omega
        have hiz : (0 : Int) ≤ 0 + (i : Nat) ∧ (0 : Int) + (i : Nat) < (one.length : Int) := by omega
        have hic : one.getD ((0 : Int) + (i : Nat)).toNat 0 ∈ one := by
          rw [show ((0 : Int) + (i : Nat)).toNat = i by omega, List.getD_eq_getElem?_getD, List.getElem?_eq_getElem hio]
          exact List.getElem_mem hio
        have hat := at_sign hiz.1 hiz.2
        generalize one.getD ((0 : Int) + (i : Nat)).toNat 0 = c at hic hat
        refine ⟨fun H1 => ∃ ds', Keep d H H1 ∧ H1 d = some (.lst (Ints ds')) ∧ Dice ds' ∧ H1 lf = some (.lst (Sgs ls)) ∧ c ∉ ot, fun H1 => ∃ ds', Keep d H H1 ∧ H1 d = some (.lst (Ints ds')) ∧ Dice ds' ∧ H1 lf = some (.lst (Sgs ls)), ?_, ?_, ?_⟩
        · refine ⟨_, rfl, _, rfl, d, ds', 1 + k6, rfl, ed, hD', hoff.1, hoff.2, fun k9 ds9 H9 hk9 hk9' hD9 kp9 e9 => ?_⟩
          have kp2 := kp.trans kp9
          have ef2 := kp9 _ _ hdlf.symm ef
          refine ⟨rfl, _, rfl, ite2 (fun h => ?_) (fun h => ?_)⟩
          · refine ⟨_, rfl, _, rfl, S one, _, c, rfl, rfl, small_le (by rw [S_len]; omega), hat, _, rfl, c, S ot, rfl, rfl, _, rfl, ?_⟩
            by_cases hc : c ∈ ot
            · rw [decide_eq_true (show c ∈ (S ot).cps.toList from hc)]
              exact ⟨ds9, kp2, e9, hD9, ef2⟩
            · rw [decide_eq_false (show ¬ c ∈ (S ot).cps.toList from hc)]
              exact ⟨ds9, kp2, e9, hD9, ef2, hc⟩
          · exact iteF ⟨ds9, kp2, e9, hD9, ef2⟩
        · rintro H1 ⟨ds1, kp1, e1, hD1, ef1, hc⟩
          refine ⟨_, rfl, _, rfl, _, rfl, S one, _, c, rfl, rfl, small_le (by rw [S_len]; omega), hat, S ot, S [c], rfl, rfl, small_le (by rw [S_len, S_len]; simp; omega), ?_⟩
          refine ⟨ot ++ [c], _, _, _, ds1, by rw [← S_cat]; rfl, kp1, e1, hD1, ef1, by simp [hol], ?_, ?_⟩
          · rw [List.nodup_append]
            exact ⟨hon, by simp, fun a ha b hb e => by
              rw [List.mem_singleton.mp hb] at e
              exact hc (e ▸ ha)⟩
          · intro x hx
            rcases List.mem_append.mp hx with hx | hx
            · exact hoc x hx
            · rw [List.mem_singleton.mp hx]
              exact hone.2.2 c hic
        · rintro H1 ⟨ds1, kp1, e1, hD1, ef1⟩
          have elf1 : SqL K H1 lf (Sgs ls) := SqL.of ef1
          refine ⟨_, rfl, lf, rfl, ⟨_, elf1⟩, fun D hD => lc_list (xs := Sgs ls) (fun j H' => H' D = some (.lst (Sgs (off2 (ls.take j) ot))) ∧ Same H1 H') ⟨upd_same, Same.new hD⟩ ?_ ?_ ?_⟩
          · rintro j H' _ ⟨_, sm⟩
            exact SqL.of (sm _ _ ef1)
          · rintro j x H' hx ⟨eD, sm⟩
            obtain ⟨e, hex, rfl⟩ := sgs_at hx
            have hj : j < ls.length := (List.getElem?_eq_some_iff.mp hex).1
            refine ⟨rfl, _, rfl, _, rfl, e, S ot, rfl, rfl, _, rfl, ?_⟩
            rw [take_snoc hex, off2_snoc]
            by_cases hc : e ∈ ot
            · rw [decide_eq_true (show e ∈ (S ot).cps.toList from hc), if_pos hc]
              exact ⟨eD, sm⟩
            · rw [decide_eq_false (show ¬ e ∈ (S ot).cps.toList from hc), if_neg hc]
              refine ⟨_, rfl, _, eD, ?_, ?_, Same.mut sm hD⟩
              · rw [len_sg]
                have := List.length_filter_le (fun c => !decide (c ∈ ot)) (ls.take j)
                rw [List.length_take] at this
                exact small1000 (by unfold off2; omega)
              · rw [upd_same, sgs_snoc]
          · rintro H' ⟨eD, sm⟩
            rw [len_sg, List.take_of_length_le (Nat.le_refl _)] at eD
            obtain ⟨e, r, e1', hel, heo⟩ := off2_ne hln (show ot.length < ls.length by omega)
            rw [e1'] at eD
            refine ⟨_, rfl, _, rfl, D, _, 0, sg e, rfl, rfl, SqL.of eD, atI_nat (j := 0) rfl, S ot, S [e], rfl, rfl, small_le (by rw [S_len, S_len]; simp; omega), ?_⟩
            refine ⟨ot ++ [e], _, _, _, ds1, by rw [← S_cat]; rfl, kp1.trans (Keep.same sm), sm _ _ e1, hD1, sm _ _ ef1, by simp [hol], ?_, ?_⟩
            · rw [List.nodup_append]
              exact ⟨hon, by simp, fun a ha b hb e => by
                rw [List.mem_singleton.mp hb] at e
                exact heo (e ▸ ha)⟩
            · intro x hx
              rcases List.mem_append.mp hx with hx | hx
              · exact hoc x hx
              · rw [List.mem_singleton.mp hx]
                exact hlc e hel
      · rintro σ H' ⟨ot, y9, y10, y11, ds', rfl, kp, ed, hD', ef, hol, hon, hoc⟩
        refine ⟨_, rfl, _, rfl, (by show 2 ≤ sizeLine; decide), fun p hp => ?_⟩
        have hdp : d ≠ p := ne_of_none ed hp
        refine q _ p ds' one ot (kp.trans (Keep.same (Same.new hp))) (kp.free ed hp) (by rw [upd_ne hdp]; exact ed) hD' upd_same ⟨by omega, by omega, by omega, hone.2.1, hon, hone.2.2, hoc⟩

/-! ### data in tracked objects -/
mutual
inductive Tk (H : Hp) : V → PyData → Prop
  | non : Tk H .non .none
  | bl (b : Bool) : Tk H (.bl b) (.bool b)
  | int (i : Int) : Tk H (.int i) (.int i)
  | str (x : Str) : Tk H (.str x) (.str x)
  | lst {a : Addr} {xs : List V} {ds : List PyData} : H a = some (.lst xs) → xs.length ≤ 1000 → TkAll H xs ds → Tk H (.ref a) (.list ds)
  | tup {a : Addr} {xs : List V} {ds : List PyData} : H a = some (.tup xs) → xs.length ≤ 1000 → TkAll H xs ds → Tk H (.ref a) (.tuple ds)
inductive TkAll (H : Hp) : List V → List PyData → Prop
  | nil : TkAll H [] []
  | cons {v : V} {vs : List V} {d : PyData} {ds : List PyData} : Tk H v d → TkAll H vs ds → TkAll H (v :: vs) (d :: ds)
end
mutual
theorem Tk.same {H H' : Hp} (s : Same H H') : ∀ {v : V} {d : PyData}, Tk H v d → Tk H' v d
  | _, _, .non => .non
  | _, _, .bl b => .bl b
  | _, _, .int i => .int i
  | _, _, .str x => .str x
  | _, _, .lst h z t => .lst (s _ _ h) z (TkAll.same s t)
  | _, _, .tup h z t => .tup (s _ _ h) z (TkAll.same s t)
theorem TkAll.same {H H' : Hp} (s : Same H H') : ∀ {vs : List V} {ds : List PyData}, TkAll H vs ds → TkAll H' vs ds
  | _, _, .nil => .nil
  | _, _, .cons a b => .cons (Tk.same s a) (TkAll.same s b)
end
theorem TkAll.len {H : Hp} : ∀ {vs : List V} {ds : List PyData}, TkAll H vs ds → vs.length = ds.length
  | _, _, .nil => rfl
  | _, _, .cons _ t => by rw [List.length_cons, List.length_cons, TkAll.len t]
theorem TkAll.at {H : Hp} : ∀ {vs : List V} {ds : List PyData} {i : Nat}, TkAll H vs ds → i < ds.length → ∃ v d, vs[i]? = some v ∧ ds[i]? = some d ∧ Tk H v d
  | _, _, _, .nil, h => by simp at h
  | _, _, 0, .cons (v := v) (d := d) a _, _ => ⟨v, d, rfl, rfl, a⟩
  | _, _, i + 1, .cons _ t, h => by
    obtain ⟨v, d, h1, h2, h3⟩ := TkAll.at (i := i) t (by simpa using h)
    exact ⟨v, d, by simpa using h1, by simpa using h2, h3⟩
theorem Tk.inv_list {H : Hp} {y : V} {ds : List PyData} (h : Tk H y (.list ds)) : ∃ b ys, y = .ref b ∧ H b = some (.lst ys) ∧ ys.length ≤ 1000 ∧ TkAll H ys ds := by
  cases h with
  | lst hb z tb => exact ⟨_, _, rfl, hb, z, tb⟩
theorem Tk.inv_tuple {H : Hp} {y : V} {ds : List PyData} (h : Tk H y (.tuple ds)) : ∃ b ys, y = .ref b ∧ H b = some (.tup ys) ∧ ys.length ≤ 1000 ∧ TkAll H ys ds := by
  cases h with
  | tup hb z tb => exact ⟨_, _, rfl, hb, z, tb⟩
def tyN : PyData → String
  | .none => "NoneType"
  | .bool _ => "bool"
  | .int _ => "int"
  | .str _ => "str"
  | .list _ => "list"
  | .tuple _ => "tuple"
  | .dict _ => "dict"
theorem Tk.ty {K : PySem.W.Frag} {H : Hp} {x : V} {d : PyData} (h : Tk H x d) : TyX K H x (.type (tyN d)) := by
  cases h with
  | non => exact .base .non
  | bl b => exact .base (.bl b)
  | int i => exact .base (.int i)
  | str s => exact .base (.str s)
  | lst h _ _ => exact .base (.lst h)
  | tup h _ _ => exact .base (.tup h)
theorem isi_step {K : PySem.W.Frag} {H : Hp} {x : V} {d : PyData} {c : String} {b : Bool} {Q : VK} (h : Tk H x d) (k : kitB (tyN d) c = some b) (q : Q (.bl b) H) : rIsi K [x, .ty c] H Q :=
  ⟨x, .ty c, _, _, b, rfl, .ty c, h.ty, kit_ty k, q⟩
theorem depth_at : ∀ {ds : List PyData} {i : Nat} {d : PyData}, ds[i]? = some d → d.depth ≤ PyData.depthAll ds
  | [], _, _, h => by simp at h
  | x :: xs, 0, d, h => by
    simp at h
    subst h
    simp only [PyData.depthAll]
    exact Nat.le_max_left _ _
  | x :: xs, i + 1, d, h => by
    have := depth_at (ds := xs) (i := i) (by simpa using h)
    simp only [PyData.depthAll]
    exact Nat.le_trans this (Nat.le_max_right _ _)
def spAlike (n : Nat) : Sp := fun vs H Q _ => ∃ (x y : V) (d : PyData), vs = [x, y] ∧ Tk H x d ∧ Tk H y d ∧ d.depth < n ∧ ∀ H', Same H H' → Q (.bl true) H'
theorem ok_l_alike (T : Txt K mg) : ∀ n, FnOk P w K mg base CX0 n T.a_l_alike T.d_l_alike ["_law_found", "_law_due"] (spAlike n)
  | 0 => ⟨fun vs H Q E h => by
      obtain ⟨x, y, d, rfl, _⟩ := h
      rfl, fun A outer s H args us vs Q E hr he hb hv h => by
      obtain ⟨x, y, d, _, _, _, h, _⟩ := h
      exact absurd h (Nat.not_lt_zero _)⟩
  | n + 1 => by
    have GA : FnOk P w K mg base CX0 n T.a_l_alike T.d_l_alike ["_law_found", "_law_due"] (spAlike n) := ok_l_alike T n
    refine T.F_l_alike.ok sc_l_alike (fun vs H Q E h => ?_) (fun cdv A outer s H vs Q E hr h => ?_)
    · obtain ⟨x, y, d, rfl, _⟩ := h
      rfl
    · obtain ⟨x, y, d, rfl, hx, hy, hdp, q⟩ := h
      refine ⟨_,
    (pss_cons (ps_if (pt_cmpR op_isN (pv 1) pe_non (nomark _)) 
      (pss_one (ps_ret (pe_cmpR op_isN (pv 0) pe_non (nomark _)))) pss_nil) 
    (pss_cons (ps_if (pt_val (pe_callB call_isi (by rfl) T.m_isinstance (by decide +kernel) (pa_cons (pv 1) (pa_cons (pe_bltn (v := .ty "bool") (by rfl) T.m_bool (by decide +kernel) rfl) pa_nil)))) 
      (pss_one (ps_ret (pe_and (pe_callB call_isi (by rfl) T.m_isinstance (by decide +kernel) (pa_cons (pv 0) (pa_cons (pe_bltn (v := .ty "bool") (by rfl) T.m_bool (by decide +kernel) rfl) pa_nil))) (pe_one (pe_cmpR op_eq (pv 0) (pv 1) (nomark _)))))) pss_nil) 
    (pss_cons (ps_if (pt_val (pe_callB call_isi (by rfl) T.m_isinstance (by decide +kernel) (pa_cons (pv 1) (pa_cons (pe_bltn (v := .ty "int") (by rfl) T.m_int (by decide +kernel) rfl) pa_nil)))) 
      (pss_one (ps_ret (pe_and (pe_callB call_isi (by rfl) T.m_isinstance (by decide +kernel) (pa_cons (pv 0) (pa_cons (pe_bltn (v := .ty "int") (by rfl) T.m_int (by decide +kernel) rfl) pa_nil))) (pe_and (pe_not (pe_callB call_isi (by rfl) T.m_isinstance (by decide +kernel) (pa_cons (pv 0) (pa_cons (pe_bltn (v := .ty "bool") (by rfl) T.m_bool (by decide +kernel) rfl) pa_nil)))) (pe_one (pe_cmpR op_eq (pv 0) (pv 1) (nomark _))))))) pss_nil) 
    (pss_cons (ps_if (pt_val (pe_callB call_isi (by rfl) T.m_isinstance (by decide +kernel) (pa_cons (pv 1) (pa_cons (pe_bltn (v := .ty "str") (by rfl) T.m_str (by decide +kernel) rfl) pa_nil)))) 
      (pss_one (ps_ret (pe_and (pe_callB call_isi (by rfl) T.m_isinstance (by decide +kernel) (pa_cons (pv 0) (pa_cons (pe_bltn (v := .ty "str") (by rfl) T.m_str (by decide +kernel) rfl) pa_nil))) (pe_one (pe_cmpR op_eq (pv 0) (pv 1) (nomark _)))))) pss_nil) 
    (pss_cons (ps_if (PW.pt (pw_or (pt_cmpR op_ne (pe_callB call_isi (by rfl) T.m_isinstance (by decide +kernel) (pa_cons (pv 1) (pa_cons (pe_bltn (v := .ty "tuple") (by rfl) T.m_tuple (by decide +kernel) rfl) pa_nil))) (pe_callB call_isi (by rfl) T.m_isinstance (by decide +kernel) (pa_cons (pv 0) (pa_cons (pe_bltn (v := .ty "tuple") (by rfl) T.m_tuple (by decide +kernel) rfl) pa_nil))) (nomark _)) (pw_or1 (pt_cmpR op_ne (pe_callB call_isi (by rfl) T.m_isinstance (by decide +kernel) (pa_cons (pv 1) (pa_cons (pe_bltn (v := .ty "list") (by rfl) T.m_list (by decide +kernel) rfl) pa_nil))) (pe_callB call_isi (by rfl) T.m_isinstance (by decide +kernel) (pa_cons (pv 0) (pa_cons (pe_bltn (v := .ty "list") (by rfl) T.m_list (by decide +kernel) rfl) pa_nil))) (nomark _))))) 
      (pss_one (ps_ret pe_bl)) pss_nil) 
    (pss_cons (ps_if (pt_cmpR op_ne (pe_callB call_len_seq (by rfl) T.m_len PySem.boot_len (pa_cons (pv 0) pa_nil)) (pe_callB call_len_seq (by rfl) T.m_len PySem.boot_len (pa_cons (pv 1) pa_nil)) (nomark _)) 
      (pss_one (ps_ret pe_bl)) pss_nil) 
    (pss_one (ps_ret (pe_callB (cr_all rfl) (by rfl) T.m_all (by decide +kernel) (pa_cons (pe_lc (own := [("_law_k", 2)]) (g := gName 2) (tt := tYes) rfl sc_l_alike.nd (pi_range1 (by rfl) T.m_range (pa_cons (pe_callB call_len_seq (by rfl) T.m_len PySem.boot_len (pa_cons (pv 1) pa_nil)) pa_nil)) (blkOk_by (own := [("_law_k", 2)]) (N := n_l_alike) (sc := (defScope s_l_alike)) (by decide +kernel)) (fun _ _ _ _ _ => (pg_name (i := 2) sc_l_alike.nd rfl (Or.inl rfl))) (fun _ _ _ _ _ => pts_nil) (fun _ _ _ _ _ => (pe_call GA hr (by rfl) T.g_l_alike T.F_l_alike.kp T.b_l_alike .nil pass0 (pa_cons (pe_ix (ix_seq : IxR _ (rIx K)) (pv 0) (pv 2) (fun _ _ => rfl)) (pa_cons (pe_ix (ix_seq : IxR _ (rIx K)) (pv 1) (pv 2) (fun _ _ => rfl)) pa_nil))))) pa_nil)))))))))), ?_⟩
      cases hx with
      | non =>
        cases hy
        exact ⟨_, rfl, rfl, _, rfl, iteT ⟨_, rfl, rfl, q _ (Same.refl _)⟩⟩
      | bl b =>
        have hy' := hy
        cases hy
        refine ⟨_, rfl, rfl, _, rfl, iteF ?_⟩
        refine ⟨_, rfl, _, _, _, _, true, rfl, .ty _, hy'.ty, kit_ty (by dsimp only [tyN]; decide +kernel), ⟨true, rfl, iteT ?_⟩⟩
        refine ⟨_, rfl, _, _, _, _, true, rfl, .ty _, hy'.ty, kit_ty (by dsimp only [tyN]; decide +kernel), ⟨true, rfl, iteT ?_⟩⟩
        exact ⟨_, rfl, _, rfl, rfl, by rw [decide_eq_true rfl]; exact q _ (Same.refl _)⟩
      | int i =>
        have hy' := hy
        cases hy
        refine ⟨_, rfl, rfl, _, rfl, iteF ?_⟩
        refine ⟨_, rfl, _, _, _, _, false, rfl, .ty _, hy'.ty, kit_ty (by dsimp only [tyN]; decide +kernel), ⟨false, rfl, iteF ?_⟩⟩
        refine ⟨_, rfl, _, _, _, _, true, rfl, .ty _, hy'.ty, kit_ty (by dsimp only [tyN]; decide +kernel), ⟨true, rfl, iteT ?_⟩⟩
        refine ⟨_, rfl, _, _, _, _, true, rfl, .ty _, hy'.ty, kit_ty (by dsimp only [tyN]; decide +kernel), ⟨true, rfl, iteT ?_⟩⟩
        refine ⟨_, rfl, _, _, _, _, false, rfl, .ty _, hy'.ty, kit_ty (by dsimp only [tyN]; decide +kernel), ⟨false, rfl, ?_⟩⟩
        refine ⟨true, rfl, iteT ?_⟩
        exact ⟨_, rfl, _, rfl, rfl, by rw [decide_eq_true rfl]; exact q _ (Same.refl _)⟩
      | str z =>
        have hy' := hy
        cases hy
        refine ⟨_, rfl, rfl, _, rfl, iteF ?_⟩
        refine ⟨_, rfl, _, _, _, _, false, rfl, .ty _, hy'.ty, kit_ty (by dsimp only [tyN]; decide +kernel), ⟨false, rfl, iteF ?_⟩⟩
        refine ⟨_, rfl, _, _, _, _, false, rfl, .ty _, hy'.ty, kit_ty (by dsimp only [tyN]; decide +kernel), ⟨false, rfl, iteF ?_⟩⟩
        refine ⟨_, rfl, _, _, _, _, true, rfl, .ty _, hy'.ty, kit_ty (by dsimp only [tyN]; decide +kernel), ⟨true, rfl, iteT ?_⟩⟩
        refine ⟨_, rfl, _, _, _, _, true, rfl, .ty _, hy'.ty, kit_ty (by dsimp only [tyN]; decide +kernel), ⟨true, rfl, iteT ?_⟩⟩
        exact ⟨_, rfl, _, rfl, rfl, by rw [decide_eq_true rfl]; exact q _ (Same.refl _)⟩
      | @lst a xs ds ha za ta =>
        have hx' : Tk H (.ref a) (.list _) := .lst ha za ta
        have hy' := hy
        obtain ⟨b, ys, rfl, hb, zb, tb⟩ := hy.inv_list
        have ea : SqL K H a xs ∨ SqT K H a xs := .inl (SqL.of ha)
        have eb : SqL K H b ys ∨ SqT K H b ys := .inl (SqL.of hb)
        refine ⟨_, rfl, rfl, _, rfl, iteF ?_⟩
        refine ⟨_, rfl, _, _, _, _, false, rfl, .ty _, hy'.ty, kit_ty (by dsimp only [tyN]; decide +kernel), ⟨false, rfl, iteF ?_⟩⟩
        refine ⟨_, rfl, _, _, _, _, false, rfl, .ty _, hy'.ty, kit_ty (by dsimp only [tyN]; decide +kernel), ⟨false, rfl, iteF ?_⟩⟩
        refine ⟨_, rfl, _, _, _, _, false, rfl, .ty _, hy'.ty, kit_ty (by dsimp only [tyN]; decide +kernel), ⟨false, rfl, iteF ?_⟩⟩
        refine ⟨_, rfl, _, _, _, _, false, rfl, .ty _, hy'.ty, kit_ty (by dsimp only [tyN]; decide +kernel), ?_⟩
        refine ⟨_, rfl, _, _, _, _, false, rfl, .ty _, hx'.ty, kit_ty (by dsimp only [tyN]; decide +kernel), rfl, _, rfl, iteF ?_⟩
        refine ⟨_, rfl, _, _, _, _, true, rfl, .ty _, hy'.ty, kit_ty (by dsimp only [tyN]; decide +kernel), ?_⟩
        refine ⟨_, rfl, _, _, _, _, true, rfl, .ty _, hx'.ty, kit_ty (by dsimp only [tyN]; decide +kernel), rfl, _, rfl, iteF ?_⟩
        have la := ta.len
        have lb := tb.len
        refine ⟨_, rfl, a, xs, rfl, ea, _, rfl, b, ys, rfl, eb, rfl, _, rfl, iteNS (by rw [la, lb]) ?_⟩
        simp only [PyData.depth] at hdp
        refine ⟨_, rfl, b, ys, rfl, eb, _, rfl, by omega, by omega, fun D hD => lc_range (lo := 0) (n := ((ys.length : Nat) : Int).toNat) (fun i H' => H' D = some (.lst ((List.replicate i true).map V.bl)) ∧ Same H H') ⟨upd_same, Same.new hD⟩ ?_ ?_⟩
        · rintro i H' hi ⟨eD, sm⟩
          have hi' : i < ds.length := by omega
          obtain ⟨v1, d1, e1, e2, t1⟩ := TkAll.at ta hi'
          obtain ⟨v2, d2, e3, e4, t2⟩ := TkAll.at tb hi'
          rw [e2] at e4
          cases e4
          have dd := depth_at e2
          have z0 : (0 : Int) + (i : Nat) = ((i : Nat) : Int) := Int.zero_add _
          have ix1 : atI xs ((0 : Int) + (i : Nat)) = some v1 := by
            rw [z0]
            exact atI_nat e1
          have ix2 : atI ys ((0 : Int) + (i : Nat)) = some v2 := by
            rw [z0]
            exact atI_nat e3
          refine ⟨rfl, _, rfl, _, rfl, .inl ⟨a, xs, _, v1, rfl, rfl, SqL.of (sm _ _ ha), ix1, _, rfl, _, rfl, .inl ⟨b, ys, _, v2, rfl, rfl, SqL.of (sm _ _ hb), ix2, ?_⟩⟩⟩
          refine ⟨v1, v2, d1, rfl, Tk.same sm t1, Tk.same sm t2, by omega, fun H2 s2 => ?_⟩
          have eD2 := s2 _ _ eD
          refine ⟨_, eD2, ?_, ?_, ?_⟩
          · rw [List.length_map, List.length_replicate]
            exact small1000 (by omega)
          · rw [upd_same]
            congr 2
            rw [List.replicate_succ', List.map_append]
            rfl
          · exact Same.mut (sm.trans s2) hD
        · rintro H' ⟨eD, sm⟩
          refine ⟨D, _, rfl, SqL.of eD, ?_⟩
          have e : (List.replicate ((ys.length : Nat) : Int).toNat true).all id = true := by
            rw [List.all_eq_true]
            intro z hz
            rw [List.eq_of_mem_replicate hz]
            rfl
          rw [e]
          exact q _ sm
      | @tup a xs ds ha za ta =>
        have hx' : Tk H (.ref a) (.tuple _) := .tup ha za ta
        have hy' := hy
        obtain ⟨b, ys, rfl, hb, zb, tb⟩ := hy.inv_tuple
        have ea : SqL K H a xs ∨ SqT K H a xs := .inr (SqT.of ha)
        have eb : SqL K H b ys ∨ SqT K H b ys := .inr (SqT.of hb)
        refine ⟨_, rfl, rfl, _, rfl, iteF ?_⟩
        refine ⟨_, rfl, _, _, _, _, false, rfl, .ty _, hy'.ty, kit_ty (by dsimp only [tyN]; decide +kernel), ⟨false, rfl, iteF ?_⟩⟩
        refine ⟨_, rfl, _, _, _, _, false, rfl, .ty _, hy'.ty, kit_ty (by dsimp only [tyN]; decide +kernel), ⟨false, rfl, iteF ?_⟩⟩
        refine ⟨_, rfl, _, _, _, _, false, rfl, .ty _, hy'.ty, kit_ty (by dsimp only [tyN]; decide +kernel), ⟨false, rfl, iteF ?_⟩⟩
        refine ⟨_, rfl, _, _, _, _, true, rfl, .ty _, hy'.ty, kit_ty (by dsimp only [tyN]; decide +kernel), ?_⟩
        refine ⟨_, rfl, _, _, _, _, true, rfl, .ty _, hx'.ty, kit_ty (by dsimp only [tyN]; decide +kernel), rfl, _, rfl, iteF ?_⟩
        refine ⟨_, rfl, _, _, _, _, false, rfl, .ty _, hy'.ty, kit_ty (by dsimp only [tyN]; decide +kernel), ?_⟩
        refine ⟨_, rfl, _, _, _, _, false, rfl, .ty _, hx'.ty, kit_ty (by dsimp only [tyN]; decide +kernel), rfl, _, rfl, iteF ?_⟩
        have la := ta.len
        have lb := tb.len
        refine ⟨_, rfl, a, xs, rfl, ea, _, rfl, b, ys, rfl, eb, rfl, _, rfl, iteNS (by rw [la, lb]) ?_⟩
        simp only [PyData.depth] at hdp
        refine ⟨_, rfl, b, ys, rfl, eb, _, rfl, by omega, by omega, fun D hD => lc_range (lo := 0) (n := ((ys.length : Nat) : Int).toNat) (fun i H' => H' D = some (.lst ((List.replicate i true).map V.bl)) ∧ Same H H') ⟨upd_same, Same.new hD⟩ ?_ ?_⟩
        · rintro i H' hi ⟨eD, sm⟩
          have hi' : i < ds.length := by omega
          obtain ⟨v1, d1, e1, e2, t1⟩ := TkAll.at ta hi'
          obtain ⟨v2, d2, e3, e4, t2⟩ := TkAll.at tb hi'
          rw [e2] at e4
          cases e4
          have dd := depth_at e2
          have z0 : (0 : Int) + (i : Nat) = ((i : Nat) : Int) := Int.zero_add _
          have ix1 : atI xs ((0 : Int) + (i : Nat)) = some v1 := by
            rw [z0]
            exact atI_nat e1
          have ix2 : atI ys ((0 : Int) + (i : Nat)) = some v2 := by
            rw [z0]
            exact atI_nat e3
          refine ⟨rfl, _, rfl, _, rfl, .inr (.inl ⟨a, xs, _, v1, rfl, rfl, SqT.of (sm _ _ ha), ix1, _, rfl, _, rfl, .inr (.inl ⟨b, ys, _, v2, rfl, rfl, SqT.of (sm _ _ hb), ix2, ?_⟩)⟩)⟩
          refine ⟨v1, v2, d1, rfl, Tk.same sm t1, Tk.same sm t2, by omega, fun H2 s2 => ?_⟩
          have eD2 := s2 _ _ eD
          refine ⟨_, eD2, ?_, ?_, ?_⟩
          · rw [List.length_map, List.length_replicate]
            exact small1000 (by omega)
          · rw [upd_same]
            congr 2
            rw [List.replicate_succ', List.map_append]
            rfl
          · exact Same.mut (sm.trans s2) hD
        · rintro H' ⟨eD, sm⟩
          refine ⟨D, _, rfl, SqL.of eD, ?_⟩
          have e : (List.replicate ((ys.length : Nat) : Int).toNat true).all id = true := by
            rw [List.all_eq_true]
            intro z hz
            rw [List.eq_of_mem_replicate hz]
            rfl
          rw [e]
          exact q _ sm

theorem tkall_ints {H : Hp} : ∀ ns : List Int, TkAll H (Ints ns) (ns.map .int)
  | [] => .nil
  | n :: ns => .cons (.int n) (tkall_ints ns)
theorem tk_ints {H : Hp} {p : Addr} {ns : List Int} (h : H p = some (.lst (Ints ns))) (hl : ns.length ≤ 1000) : Tk H (.ref p) (dInts ns) :=
  .lst h (by rw [List.length_map]; exact hl) (tkall_ints ns)
theorem depth_ints (ns : List Int) : (dInts ns).depth < 2 := by
  have := (flat_lay (flat_ints ns)).2
  simp [PyData.depth, this]
theorem at_four {k : Int} (h0 : 0 ≤ k) (h1 : k < 4) : ∃ m : Int, atI [V.int 40, V.int 40, V.int 40, V.int 200] k = some (.int m) ∧ 0 ≤ m ∧ m ≤ 200 := by
  have : k = 0 ∨ k = 1 ∨ k = 2 ∨ k = 3 := by omega
  rcases this with rfl | rfl | rfl | rfl
  · exact ⟨40, atI_nat (j := 0) rfl, by decide, by decide⟩
  · exact ⟨40, atI_nat (j := 1) rfl, by decide, by decide⟩
  · exact ⟨40, atI_nat (j := 2) rfl, by decide, by decide⟩
  · exact ⟨200, atI_nat (j := 3) rfl, by decide, by decide⟩

/-- whether a text can be a set -/
def canBe (cs : List Nat) : Bool := decide (1 ≤ cs.length) && decide (cs.length ≤ 10) && decide (cs.Nodup)
theorem uniq_iff (cs : List Nat) : (uniq cs).length = cs.length ↔ cs.Nodup := by
  have h : ∀ (cs l : List Nat), l.Nodup → ((cs.foldl (fun l c => if l.contains c then l else l ++ [c]) l).length ≤ l.length + cs.length) ∧ ((cs.foldl (fun l c => if l.contains c then l else l ++ [c]) l).length = l.length + cs.length ↔ (l ++ cs).Nodup) := by
    intro cs
    induction cs with
    | nil =>
      intro l hl
      simp [hl]
    | cons c cs ih =>
      intro l hl
      rw [List.foldl_cons]
      by_cases hc : l.contains c = true
      · rw [if_pos hc]
        obtain ⟨h1, h2⟩ := ih l hl
        have hm : c ∈ l := by simpa using hc
        rw [List.length_cons]
        refine ⟨by omega, fun e => ?_, fun e => ?_⟩
        · omega
        · rw [List.nodup_append] at e
          exact absurd rfl (e.2.2 c hm c (by simp))
      · rw [if_neg hc]
        have hm : c ∉ l := by simpa using hc
        have hl2 : (l ++ [c]).Nodup := by
          rw [List.nodup_append]
          exact ⟨hl, by simp, fun a ha b hb e => by
            rw [List.mem_singleton.mp hb] at e
            exact hm (e ▸ ha)⟩
        obtain ⟨h1, h2⟩ := ih (l ++ [c]) hl2
        rw [List.append_assoc] at h2
        rw [List.length_append, List.length_singleton] at h1 h2
        rw [List.length_cons]
        exact ⟨by omega, by rw [show l.length + (cs.length + 1) = l.length + 1 + cs.length by omega]; exact h2⟩
  have := (h cs [] List.nodup_nil).2
  simpa [uniq] using this
def spCan : Sp := fun vs H Q _ => ∃ cs : List Nat, vs = [.str (S cs)] ∧ cs.length ≤ 1000 ∧ Q (.bl (canBe cs)) H
theorem ok_p_can_be_set (T : Txt K mg) : FnOk P w K mg base CX0 1 T.a_p_can_be_set T.d_p_can_be_set ["text"] spCan := by
  refine T.F_p_can_be_set.ok sc_p_can_be_set (fun vs H Q E h => ?_) (fun cdv A outer s H vs Q E hr h => ?_)
  · obtain ⟨cs, rfl, _⟩ := h
    rfl
  · obtain ⟨cs, rfl, hl, q⟩ := h
    have hlen : ((S cs).length : Int) = (cs.length : Int) := by rw [S_len]
    refine ⟨_,
    (pss_one (ps_ret (pe_and (pe_chain op_le op_le pe_int (pe_callB call_len_str (by rfl) T.m_len PySem.boot_len (pa_cons (pv 0) pa_nil)) (pe_glob (v := .int 10) (by rfl) T.c_MOST_SIGNS ⟨_, rfl⟩)) (pe_one (pe_cmpR op_eq (pe_lenSetTxt rfl (by rfl) T.m_len (by rfl) T.m_set (pv 0)) (pe_callB call_len_str (by rfl) T.m_len PySem.boot_len (pa_cons (pv 0) pa_nil)) (nomark _)))))), ?_⟩
    refine ⟨_, rfl, _, rfl, small_le (by rw [S_len]; omega), _, _, rfl, rfl, _, rfl, ite2 (fun h1 => ?_) (fun h1 => ?_)⟩
    · have h1' : (1 : Int) ≤ ((S cs).length : Int) := of_decide_eq_true h1
      rw [hlen] at h1'
      refine ⟨_, _, rfl, rfl, _, rfl, ite2 (fun h2 => ?_) (fun h2 => ?_)⟩
      · have h2' : ((S cs).length : Int) ≤ 10 := of_decide_eq_true h2
        rw [hlen] at h2'
        refine ⟨_, rfl, _, rfl, hl, _, rfl, _, rfl, small_le (by rw [S_len]; omega), rfl, ?_⟩
        have e : canBe cs = decide (V.int ((uniq cs).length : Int) = V.int ((S cs).length : Int)) := by
          rw [hlen]
          unfold canBe
          rw [decide_eq_true (by omega), decide_eq_true (by omega)]
          simp only [Bool.true_and]
          rw [decide_eq_decide, ← uniq_iff]
          constructor
          · intro h
            rw [h]
          · intro h
            have := V.int.inj h
            omega
        rw [e] at q
        exact q
      · have h2' : ¬ ((S cs).length : Int) ≤ 10 := fun h => h2 (decide_eq_true h)
        rw [hlen] at h2'
        have e : canBe cs = false := by
          unfold canBe
          rw [decide_eq_false (p := cs.length ≤ 10) (by omega)]
          simp
        rw [e] at q
        exact q
    · have h1' : ¬ (1 : Int) ≤ ((S cs).length : Int) := fun h => h1 (decide_eq_true h)
      rw [hlen] at h1'
      have e : canBe cs = false := by
        unfold canBe
        rw [decide_eq_false (p := 1 ≤ cs.length) (by omega)]
        simp
      rw [e] at q
      exact ⟨false, rfl, iteF q⟩

theorem canBe_of {cs : List Nat} (h1 : 1 ≤ cs.length) (h2 : cs.length ≤ 10) (h3 : cs.Nodup) : canBe cs = true := by
  unfold canBe
  simp [h1, h2, h3]
def spCheckSets : Sp := fun vs H Q _ => ∃ (t : Addr) (one two : List Nat), vs = [.ref t] ∧ SetsAt H t one two ∧ Sets one two ∧ Q .non H
theorem ok_p_check_sets (T : Txt K mg) : FnOk P w K mg base CX0 2 T.a_p_check_sets T.d_p_check_sets ["sets"] spCheckSets := by
  refine T.F_p_check_sets.ok sc_p_check_sets (fun vs H Q E h => ?_) (fun cdv A outer s H vs Q E hr h => ?_)
  · obtain ⟨t, one, two, rfl, _⟩ := h
    rfl
  · obtain ⟨t, one, two, rfl, hT, hs, q⟩ := h
    have hp := hs.pos
    have ht := hs.top
    have hsm := hs.same
    refine ⟨_,
    (pss_cons (ps_asg (pv 0) (pg_tup rfl (pgs_cons (pg_name (i := 1) sc_p_check_sets.nd rfl (Or.inl rfl)) (pgs_cons (pg_name (i := 2) sc_p_check_sets.nd rfl (Or.inl rfl)) pgs_nil)))) 
    (pss_cons (ps_if (pt_not (pt_val (pe_call (ok_p_can_be_set T) (hr.mono (by decide)) (by rfl) T.g_p_can_be_set T.F_p_can_be_set.kp T.b_p_can_be_set .nil pass0 (pa_cons (pv 1) pa_nil)))) 
      (pss_one ps_never) pss_nil) 
    (pss_one (ps_if (PW.pt (pw_or (pt_cmpR op_ne (pe_callB call_len_str (by rfl) T.m_len PySem.boot_len (pa_cons (pv 2) pa_nil)) (pe_callB call_len_str (by rfl) T.m_len PySem.boot_len (pa_cons (pv 1) pa_nil)) (nomark _)) (pw_or1 (pt_not (pt_val (pe_call (ok_p_can_be_set T) (hr.mono (by decide)) (by rfl) T.g_p_can_be_set T.F_p_can_be_set.kp T.b_p_can_be_set .nil pass0 (pa_cons (pv 2) pa_nil))))))) 
      (pss_one ps_never) pss_nil)))), ?_⟩
    refine ⟨_, rfl, t, _, rfl, SqT.of hT, rfl, _, _, rfl, _, _, rfl, rfl, ?_⟩
    refine ⟨_, rfl, one, rfl, by omega, _, rfl, ?_⟩
    rw [canBe_of hp ht hs.nd1]
    refine iteF ?_
    refine ⟨_, rfl, _, rfl, small_le (by rw [S_len]; omega), _, rfl, _, rfl, small_le (by rw [S_len]; omega), rfl, _, rfl, ?_⟩
    have e : (V.int ((S two).length : Int)) = V.int ((S one).length : Int) := by
      rw [S_len, S_len, hsm]
    refine iteNS e ?_
    refine ⟨_, rfl, two, rfl, by omega, _, rfl, ?_⟩
    rw [canBe_of (by omega) (by omega) hs.nd2]
    exact iteF q
def spCheckTape : Sp := fun vs H Q _ => ∃ (t a : Addr) (one two : List Nat) (tp : List Int), vs = [.ref t, .ref a] ∧ SetsAt H t one two ∧ Sets one two ∧ H a = some (.lst (Ints tp)) ∧ Tape one.length tp ∧ ∀ H', Same H H' → Q .non H'
theorem ok_p_check_tape (T : Txt K mg) : FnOk P w K mg base CX0 1 T.a_p_check_tape T.d_p_check_tape ["sets", "tape"] spCheckTape := by
  refine T.F_p_check_tape.ok sc_p_check_tape (fun vs H Q E h => ?_) (fun cdv A outer s H vs Q E hr h => ?_)
  · obtain ⟨t, a, one, two, tp, rfl, _⟩ := h
    rfl
  · obtain ⟨t, a, one, two, tp, rfl, hT, hs, hA, ⟨hl, hc⟩, q⟩ := h
    have ht := hs.top
    refine ⟨_,
    (pss_cons (ps_set (i := 2) sc_p_check_tape.nd rfl (Or.inl rfl) (pe_op op_add (pe_callB call_len_str (by rfl) T.m_len PySem.boot_len (pa_cons (pe_ix ix_tup (pv 0) pe_int (fun _ _ => rfl)) pa_nil)) pe_int)) 
    (pss_one (ps_for PassesOwn.never rfl (pi_enum (by rfl) T.m_enumerate (pa_cons (pv 1) pa_nil)) (pg_tup rfl (pgs_cons (pg_name (i := 3) sc_p_check_tape.nd rfl (Or.inl rfl)) (pgs_cons (pg_name (i := 4) sc_p_check_tape.nd rfl (Or.inl rfl)) pgs_nil))) 
      (pss_one (ps_if (PW.pt (pw_or (pt_cmpR op_eq (pv 3) (pe_glob (v := .int 200) (by rfl) T.c_MOST_CODES ⟨_, rfl⟩) (nomark _)) (pw_or1 (pt_not (pt_chain op_le op_le pe_int (pv 4) (pv 2)))))) 
        (pss_one ps_never) pss_nil))))), ?_⟩
    refine ⟨_, rfl, t, _, 0, _, rfl, rfl, SqT.of hT, atI_nat (j := 0) rfl, _, rfl, small_le (by rw [S_len]; omega), _, _, rfl, rfl, ?_⟩
    refine ⟨_, rfl, a, _, rfl, SqL.of hA, for_it (walk_enum (xs := Ints tp)) (fun i σ H' => ∃ y3 y4, σ = [some (.ref t), some (.ref a), some (.int ((S one).length + 1)), y3, y4] ∧ Same H H') ⟨none, none, rfl, Same.refl _⟩ ?_ ?_ ?_⟩
    · rintro i σ H' _ ⟨y3, y4, rfl, sm⟩
      exact sm.seq (SqL.of hA)
    · rintro i x σ H' H2 hi ⟨y3, y4, rfl, sm⟩ ⟨p, x1, x2, rfl, hp, rfl, e1, e2⟩
      cases e1
      obtain ⟨c, hcx, rfl⟩ := ints_at e2
      have hm := hc c (List.mem_of_getElem? hcx)
      have hi' : i < tp.length := (List.getElem?_eq_some_iff.mp hcx).1
      have s2 : Same H (upd H' p (.tup [.int (i : Nat), .int c])) := sm.trans (Same.new hp)
      refine ⟨p, _, rfl, SqT.of upd_same, rfl, _, _, rfl, _, _, rfl, rfl, ?_⟩
      refine ⟨_, rfl, rfl, _, rfl, ?_⟩
      have e : ¬ V.int (i : Nat) = V.int 200 := fun z => by
        have := V.int.inj z
        omega
      rw [decide_eq_false e]
      refine iteF ?_
      refine ⟨_, rfl, _, _, rfl, rfl, _, rfl, ?_⟩
      rw [decide_eq_true hm.1]
      refine iteT ⟨_, rfl, _, _, rfl, rfl, _, rfl, ?_⟩
      have e3 : c ≤ ((S one).length : Int) + 1 := by
        rw [S_len]
        omega
      rw [decide_eq_true e3]
      exact iteF ⟨_, _, rfl, s2⟩
    · rintro σ H' ⟨y3, y4, rfl, sm⟩
      exact q _ sm
def spCheckState : Sp := fun vs H Q _ => ∃ st : Int, vs = [.int st] ∧ Bit st ∧ ∀ H', Same H H' → Q .non H'
theorem ok_p_check_state (T : Txt K mg) : FnOk P w K mg base CX0 1 T.a_p_check_state T.d_p_check_state ["state"] spCheckState := by
  refine T.F_p_check_state.ok sc_p_check_state (fun vs H Q E h => ?_) (fun cdv A outer s H vs Q E hr h => ?_)
  · obtain ⟨st, rfl, _⟩ := h
    rfl
  · obtain ⟨st, rfl, hb, q⟩ := h
    refine ⟨_,
    (pss_one (ps_if (pt_cmpR op_notIn_seq (pv 0) (pe_tup (pa_cons pe_int (pa_cons pe_int pa_nil))) (by rfl)) 
      (pss_one ps_never) pss_nil)), ?_⟩
    refine ⟨_, rfl, (by show 2 ≤ sizeLine; decide), fun p hp => ⟨p, _, rfl, .inr (SqT.of upd_same), rfl, rfl, _, rfl, ?_⟩⟩
    have e : inV (.int st) [.int 0, .int 1] = true := by
      rcases hb with rfl | rfl <;> rfl
    rw [e]
    exact iteF (q _ (Same.new hp))

/-- read(sets, tape, state) of what can be -/
def spRead : Sp := fun vs H Q _ => ∃ (t a : Addr) (one two : List Nat) (tp : List Int) (st : Int), vs = [.ref t, .ref a, .int st] ∧ SetsAt H t one two ∧ Sets one two ∧ H a = some (.lst (Ints tp)) ∧ Tape one.length tp ∧ Bit st ∧
  ∀ H' p, Same H H' → H p = none → H' p = some (.tup [.str (S (rdT one two st tp)), .int (rdS one st tp)]) → Q (.ref p) H'
theorem ok_p_read (T : Txt K mg) : FnOk P w K mg base CX0 3 T.a_p_read T.d_p_read ["sets", "tape", "state"] spRead := by
  refine T.F_p_read.ok sc_p_read (fun vs H Q E h => ?_) (fun cdv A outer s H vs Q E hr h => ?_)
  · obtain ⟨t, a, one, two, tp, st, rfl, _⟩ := h
    rfl
  · obtain ⟨t, a, one, two, tp, st, rfl, hT, hs, hA, hc, hb, q⟩ := h
    have hp := hs.pos
    have htp := hs.top
    refine ⟨_,
    (pss_cons (ps_expr (pe_call (ok_p_check_sets T) (hr.mono (by decide)) (by rfl) T.g_p_check_sets T.F_p_check_sets.kp T.b_p_check_sets .nil pass0 (pa_cons (pv 0) pa_nil))) 
    (pss_cons (ps_expr (pe_call (ok_p_check_tape T) (hr.mono (by decide)) (by rfl) T.g_p_check_tape T.F_p_check_tape.kp T.b_p_check_tape .nil pass0 (pa_cons (pv 0) (pa_cons (pv 1) pa_nil)))) 
    (pss_cons (ps_expr (pe_call (ok_p_check_state T) (hr.mono (by decide)) (by rfl) T.g_p_check_state T.F_p_check_state.kp T.b_p_check_state .nil pass0 (pa_cons (pv 2) pa_nil))) 
    (pss_cons (ps_set (i := 3) sc_p_read.nd rfl (Or.inl rfl) (pe_callB call_len_str (by rfl) T.m_len PySem.boot_len (pa_cons (pe_ix ix_tup (pv 0) pe_int (fun _ _ => rfl)) pa_nil))) 
    (pss_cons (ps_set (i := 4) sc_p_read.nd rfl (Or.inl rfl) (pe_lst pa_nil)) 
    (pss_cons (ps_set (i := 5) sc_p_read.nd rfl (Or.inl rfl) (pv 2)) 
    (pss_cons (ps_for PassesOwn.never rfl (pi_list (pv 1)) (pg_name (i := 6) sc_p_read.nd rfl (Or.inl rfl)) 
      (pss_one (ps_if (pt_cmpR op_lt (pv 6) (pv 3) (nomark _)) 
        (pss_one (ps_expr (pe_bm PySem.F.plainAttrs_list PySem.F.slot_list_append PySem.F.type_list_append mt_append (pv 4) (pa_cons (pe_ix ix_str (pe_ix ix_tup (pv 0) (pv 5) (fun _ _ => rfl)) (pv 6) (fun _ _ => rfl)) pa_nil)))) 
        (pss_one (ps_set (i := 5) sc_p_read.nd rfl (Or.inl rfl) (pe_op op_sub (pv 6) (pv 3))))))) 
    (pss_one (ps_ret (pe_tup (pa_cons (pe_join pe_str (pv 4)) (pa_cons (pv 5) pa_nil)))))))))))), ?_⟩
    refine ⟨_, rfl, t, one, two, rfl, hT, hs, ?_⟩
    refine ⟨_, rfl, _, rfl, t, a, one, two, tp, rfl, hT, hs, hA, hc, fun H1 s1 => ?_⟩
    refine ⟨_, rfl, st, rfl, hb, fun H2 s2 => ?_⟩
    have sm := s1.trans s2
    have hT2 := sm _ _ hT
    have hA2 := sm _ _ hA
    refine ⟨_, rfl, t, _, 0, _, rfl, rfl, SqT.of hT2, atI_nat (j := 0) rfl, _, rfl, small_le (by rw [S_len]; omega), Nat.zero_le _, fun o ho => ?_⟩
    have hat : a ≠ o := ne_of_none hA2 ho
    have s3 : Same H2 (upd H2 o (.lst [])) := Same.new ho
    have hoN : H o = none := Same.free sm ho
    refine ⟨_, rfl, _, rfl, a, rfl, ⟨_, SqL.of (s3 _ _ hA2)⟩, for_list (xs := Ints tp) (fun i σ H' => ∃ y6, σ = [some (.ref t), some (.ref a), some (.int st), some (.int (S one).length), some (.ref o), some (.int (rdS one st (tp.take i))), y6] ∧
      Same H H' ∧ H' o = some (.lst (Sgs (rdT one two st (tp.take i))))) ⟨none, rfl, sm.trans s3, upd_same⟩ ?_ ?_ ?_⟩
    · rintro i σ H' _ ⟨y6, rfl, sm', eo⟩
      exact SqL.of (sm' _ _ hA)
    · rintro i x σ H' hx ⟨y6, rfl, sm', eo⟩
      obtain ⟨c, hcx, rfl⟩ := ints_at hx
      have hi : i < tp.length := (List.getElem?_eq_some_iff.mp hcx).1
      have hm := hc.2 c (List.mem_of_getElem? hcx)
      have hl := hc.1
      have hbi : Bit (rdS one st (tp.take i)) := rdS_bit hb (Codes.take hc.2 i)
      have e1 := rdT_snoc one two c st (tp.take i)
      have e2 := rdS_snoc one c st (tp.take i)
      rw [← take_snoc hcx] at e1 e2
      have hlen := rdT_len one two st (tp.take i)
      rw [List.length_take] at hlen
      refine ⟨_, rfl, _, rfl, _, _, rfl, rfl, _, rfl, ite2 (fun h => ?_) (fun h => ?_)⟩
      · have h' : c < ((S one).length : Int) := of_decide_eq_true h
        rw [S_len] at h'
        have hk := hs.pick (rdS one st (tp.take i))
        refine ⟨_, rfl, .inl ⟨rfl, _, SqL.of eo⟩, _, rfl, _, rfl, t, _, _, _, rfl, rfl, SqT.of (sm' _ _ hT), at_sets hbi, _, rfl, _, _, _, rfl, rfl, small_le (by rw [S_len, hk]; omega), at_sign hm.1 (by rw [hk]; omega), ?_⟩
        refine ⟨o, _, _, rfl, rfl, eo, ?_, some (.int c), ?_, Same.mut sm' hoN, ?_⟩
        · rw [List.length_map]
          exact small1000 (by omega)
        · rw [e2, if_pos h']
          rfl
        · rw [upd_same, e1, if_pos h', sgs_snoc]
          rfl
      · have h' : ¬ c < ((S one).length : Int) := fun z => h (decide_eq_true z)
        rw [S_len] at h'
        refine ⟨_, rfl, _, rfl, _, _, rfl, rfl, some (.int c), ?_, sm', ?_⟩
        · rw [e2, if_neg h', S_len]
          rfl
        · rw [e1, if_neg h', List.append_nil]
          exact eo
    · rintro σ H' ⟨y6, rfl, sm', eo⟩
      rw [List.length_map, List.take_of_length_le (Nat.le_refl _)] at *
      refine ⟨⟨_, rfl⟩, _, rfl, S [], o, (rdT one two st tp).map (fun c => S [c]), rfl, rfl, .inl ?_, ?_, ?_⟩
      · rw [← Sgs_eq]
        exact SqL.of eo
      · rw [len_sgs]
        have := rdT_len one two st tp
        have := hc.1
        rw [S_len]
        simp
        omega
      · rw [join_sgs]
        exact ⟨_, rfl, (by show 2 ≤ sizeLine; decide), fun p hp => q _ p (sm'.trans (Same.new hp)) (sm'.free hp) upd_same⟩

def spCommon : Sp := fun vs H Q _ => ∃ (t : Addr) (one two : List Nat) (c : Int), vs = [.ref t, .int c] ∧ SetsAt H t one two ∧ Sets one two ∧ 0 ≤ c ∧ c < (one.length : Int) ∧ Q (.bl (comm one two c)) H
theorem ok_p_is_common (T : Txt K mg) : FnOk P w K mg base CX0 1 T.a_p_is_common T.d_p_is_common ["sets", "code"] spCommon := by
  refine T.F_p_is_common.ok sc_p_is_common (fun vs H Q E h => ?_) (fun cdv A outer s H vs Q E hr h => ?_)
  · obtain ⟨t, one, two, c, rfl, _⟩ := h
    rfl
  · obtain ⟨t, one, two, c, rfl, hT, hs, h0, h1, q⟩ := h
    have htp := hs.top
    have h2 := hs.same
    refine ⟨_,
    (pss_one (ps_ret (pe_cmpR op_eq (pe_ix ix_str (pe_ix ix_tup (pv 0) pe_int (fun _ _ => rfl)) (pv 1) (fun _ _ => rfl)) (pe_ix ix_str (pe_ix ix_tup (pv 0) pe_int (fun _ _ => rfl)) (pv 1) (fun _ _ => rfl)) (nomark _)))), ?_⟩
    refine ⟨_, rfl, t, _, 0, _, rfl, rfl, SqT.of hT, atI_nat (j := 0) rfl, _, rfl, _, _, _, rfl, rfl, small_le (by rw [S_len]; omega), at_sign h0 h1, ?_⟩
    refine ⟨_, rfl, t, _, 1, _, rfl, rfl, SqT.of hT, atI_nat (j := 1) rfl, _, rfl, _, _, _, rfl, rfl, small_le (by rw [S_len]; omega), at_sign h0 (by omega), ?_⟩
    refine ⟨rfl, ?_⟩
    rw [dec_sg]
    exact q

theorem sign_at {tx : List Nat} {i : Nat} {v : V} (h : (S tx).cps[i]?.map (fun c => V.str ⟨#[c]⟩) = some v) : ∃ c, tx[i]? = some c ∧ v = sg c := by
  have e : (S tx).cps[i]? = tx[i]? := by
    show tx.toArray[i]? = _
    simp
  rw [e] at h
  cases e2 : tx[i]? with
  | none => rw [e2] at h; cases h
  | some c => rw [e2] at h; cases h; exact ⟨c, rfl, rfl⟩
def spCheckText : Sp := fun vs H Q _ => ∃ (t : Addr) (one two tx : List Nat), vs = [.ref t, .str (S tx)] ∧ SetsAt H t one two ∧ Sets one two ∧ Stands one two tx ∧ ∀ H', Same H H' → Q .non H'
theorem ok_p_check_text (T : Txt K mg) : FnOk P w K mg base CX0 1 T.a_p_check_text T.d_p_check_text ["sets", "text"] spCheckText := by
  refine T.F_p_check_text.ok sc_p_check_text (fun vs H Q E h => ?_) (fun cdv A outer s H vs Q E hr h => ?_)
  · obtain ⟨t, one, two, tx, rfl, _⟩ := h
    rfl
  · obtain ⟨t, one, two, tx, rfl, hT, hs, hst, q⟩ := h
    refine ⟨_,
    (pss_one (ps_for PassesOwn.never rfl (pi_enS (by rfl) T.m_enumerate (pa_cons (pv 1) pa_nil)) (pg_tup rfl (pgs_cons (pg_name (i := 2) sc_p_check_text.nd rfl (Or.inl rfl)) (pgs_cons (pg_name (i := 3) sc_p_check_text.nd rfl (Or.inl rfl)) pgs_nil))) 
      (pss_one (ps_if (PW.pt (pw_and (pt_cmpR op_notIn_sign (pv 3) (pe_ix ix_tup (pv 0) pe_int (fun _ _ => rfl)) (by rfl)) (pw_and1 (pt_cmpR op_notIn_sign (pv 3) (pe_ix ix_tup (pv 0) pe_int (fun _ _ => rfl)) (by rfl))))) 
        (pss_one ps_never) pss_nil)))), ?_⟩
    refine ⟨_, rfl, _, rfl, for_it (walk_enS (x := S tx)) (fun i σ H' => ∃ y3 y4, σ = [some (.ref t), some (.str (S tx)), y3, y4] ∧ Same H H') ⟨none, none, rfl, Same.refl _⟩ ?_ ?_ ?_⟩
    · intros
      exact True.intro
    · rintro i x σ H' H2 hi ⟨y3, y4, rfl, sm⟩ ⟨p, x1, x2, rfl, hp, rfl, e1, e2⟩
      cases e1
      obtain ⟨c, hcx, rfl⟩ := sign_at e2
      have hm := hst c (List.mem_of_getElem? hcx)
      have s2 : Same H (upd H' p (.tup [.int (i : Nat), sg c])) := sm.trans (Same.new hp)
      refine ⟨p, _, rfl, SqT.of upd_same, rfl, _, _, rfl, _, _, rfl, rfl, ?_⟩
      generalize upd H' p (.tup [.int (i : Nat), sg c]) = H3 at s2 ⊢
      refine ⟨_, rfl, _, rfl, t, _, 0, _, rfl, rfl, SqT.of (s2 _ _ hT), atI_nat (j := 0) rfl, c, _, rfl, rfl, _, rfl, ?_⟩
      by_cases h1 : c ∈ one
      · have e : (!decide (c ∈ (S one).cps.toList)) = false := by
          show (!decide (c ∈ one.toArray.toList)) = false
          simp [h1]
        rw [e]
        exact iteF ⟨_, _, rfl, s2⟩
      · have h2 := hm.resolve_left h1
        have e : (!decide (c ∈ (S one).cps.toList)) = true := by
          show (!decide (c ∈ one.toArray.toList)) = true
          simp [h1]
        rw [e]
        refine iteT ⟨_, rfl, _, rfl, t, _, 1, _, rfl, rfl, SqT.of (s2 _ _ hT), atI_nat (j := 1) rfl, c, _, rfl, rfl, _, rfl, ?_⟩
        have e : (!decide (c ∈ (S two).cps.toList)) = false := by
          show (!decide (c ∈ two.toArray.toList)) = false
          simp [h2]
        rw [e]
        exact iteF ⟨_, _, rfl, s2⟩
    · rintro σ H' ⟨y3, y4, rfl, sm⟩
      exact q _ sm

theorem code_of {one two : List Nat} {st : Int} (hb : Bit st) (s : Nat) : Txt.find (S (if st = 0 then one else two)) (S [s]) = cdS one two st s := by
  rw [find_sign]
  rfl
def spStep : Sp := fun vs H Q _ => ∃ (t : Addr) (one two : List Nat) (s : Nat) (st left : Int), vs = [.ref t, sg s, .int st, .int left] ∧ SetsAt H t one two ∧ Sets one two ∧ Bit st ∧
  (sst one two st left s = none → Q .non H) ∧ ∀ c l, sst one two st left s = some (c, l) → ∀ H' p, Same H H' → H p = none → H' p = some (.tup [.int c, .int l]) → Q (.ref p) H'
theorem ok_p_sign_step (T : Txt K mg) : FnOk P w K mg base CX0 2 T.a_p_sign_step T.d_p_sign_step ["sets", "sign", "state", "left"] spStep := by
  refine T.F_p_sign_step.ok sc_p_sign_step (fun vs H Q E h => ?_) (fun cdv A outer s H vs Q E hr h => ?_)
  · obtain ⟨t, one, two, s, st, left, rfl, _⟩ := h
    rfl
  · obtain ⟨t, one, two, s, st, left, rfl, hT, hs, hb, q1, q2⟩ := h
    have htp := hs.top
    refine ⟨_,
    (pss_cons (ps_set (i := 4) sc_p_sign_step.nd rfl (Or.inl rfl) (pe_m1 PySem.F.slot_str_find PySem.F.type_str_find mt_find (pe_ix ix_tup (pv 0) (pv 2) (fun _ _ => rfl)) (pv 1))) 
    (pss_cons (ps_if (pt_cmpR op_lt (pv 4) pe_int (nomark _)) 
      (pss_one (ps_ret pe_non)) pss_nil) 
    (pss_cons (ps_if (PW.pt (pw_or (pt_cmpR op_eq (pv 3) (pe_glob (v := .int (-1)) (by rfl) T.c_FREE ⟨_, rfl⟩) (nomark _)) (pw_or1 (pt_val (pe_call (ok_p_is_common T) (hr.mono (by decide)) (by rfl) T.g_p_is_common T.F_p_is_common.kp T.b_p_is_common .nil pass0 (pa_cons (pv 0) (pa_cons (pv 4) pa_nil))))))) 
      (pss_one (ps_ret (pe_tup (pa_cons (pv 4) (pa_cons (pv 3) pa_nil))))) pss_nil) 
    (pss_cons (ps_if (pt_cmpR op_eq (pv 3) pe_int (nomark _)) 
      (pss_one (ps_ret pe_non)) pss_nil) 
    (pss_one (ps_ret (pe_tup (pa_cons (pv 4) (pa_cons (pe_op op_sub (pv 3) pe_int) pa_nil))))))))), ?_⟩
    refine ⟨_, rfl, _, rfl, t, _, st, _, rfl, rfl, SqT.of hT, at_sets hb, ⟨_, rfl⟩, _, rfl, _, _, rfl, rfl, ?_⟩
    rw [code_of hb]
    refine ⟨_, rfl, _, _, rfl, rfl, _, rfl, ite2 (fun h => ?_) (fun h => ?_)⟩
    · have h' : cdS one two st s < 0 := of_decide_eq_true h
      refine q1 ?_
      unfold sst
      rw [if_pos h']
    · have h' : ¬ cdS one two st s < 0 := of_decide_eq_false (by simpa using h)
      obtain ⟨h0, h1, _⟩ := cdS_range hs h'
      unfold sst at q1 q2
      rw [if_neg h'] at q1 q2
      have fin : ∀ l, (∀ H' p, Same H H' → H p = none → H' p = some (.tup [.int (cdS one two st s), .int l]) → Q (.ref p) H') → ∀ p, H p = none → Q (.ref p) (upd H p (.tup [.int (cdS one two st s), .int l])) := fun l q p hp => q _ p (Same.new hp) hp upd_same
      refine ⟨_, rfl, rfl, _, rfl, ?_⟩
      rw [dec_int]
      by_cases e : left = -1
      · rw [if_pos (.inl e)] at q2
        rw [decide_eq_true e]
        refine iteT ⟨_, rfl, _, rfl, (by show 2 ≤ sizeLine; decide), fin _ (q2 _ _ rfl)⟩
      · rw [decide_eq_false e]
        refine iteF ⟨_, rfl, _, rfl, t, one, two, _, rfl, hT, hs, h0, h1, _, rfl, ?_⟩
        by_cases hk : comm one two (cdS one two st s) = true
        · rw [if_pos (.inr hk)] at q2
          rw [hk]
          refine iteT ⟨_, rfl, _, rfl, (by show 2 ≤ sizeLine; decide), fin _ (q2 _ _ rfl)⟩
        · have hk' : comm one two (cdS one two st s) = false := by simpa using hk
          rw [if_neg (by simp [e, hk'])] at q1 q2
          rw [hk']
          refine iteF ⟨_, rfl, rfl, _, rfl, ?_⟩
          rw [dec_int]
          by_cases hz : left = 0
          · rw [if_pos hz] at q1
            rw [decide_eq_true hz]
            exact iteT (q1 rfl)
          · rw [if_neg hz] at q2
            rw [decide_eq_false hz]
            refine iteF ⟨_, rfl, _, rfl, _, _, rfl, rfl, (by show 2 ≤ sizeLine; decide), fin _ (q2 _ _ rfl)⟩

/-- lists of rows of four numbers, each in a tuple of its own -/
abbrev Row4 := Int × Int × Int × Int
def x4 (x : Row4) : List V := [.int x.1, .int x.2.1, .int x.2.2.1, .int x.2.2.2]
structure FoundAt (H : Hp) (o : Addr) (ps : List Addr) (L : List Row4) : Prop where
  lst : H o = some (.lst (ps.map V.ref))
  len : ps.length = L.length
  at' : ∀ (i : Nat) (a : Addr), ps[i]? = some a → ∃ x, L[i]? = some x ∧ H a = some (.tup (x4 x))
theorem FoundAt.same {H H' : Hp} {o : Addr} {ps : List Addr} {L : List Row4} (h : FoundAt H o ps L) (s : Same H H') : FoundAt H' o ps L :=
  ⟨s _ _ h.lst, h.len, fun i a e => let ⟨x, h1, h2⟩ := h.at' i a e; ⟨x, h1, s _ _ h2⟩⟩
theorem FoundAt.put {H : Hp} {o a : Addr} {ps : List Addr} {L : List Row4} {x : Row4} (h : FoundAt H o ps L) (ha : H a = some (.tup (x4 x))) : FoundAt (upd H o (.lst (ps.map V.ref ++ [.ref a]))) o (ps ++ [a]) (L ++ [x]) := by
  have ne : ∀ b y, H b = some (.tup (x4 y)) → b ≠ o := fun b y e z => by rw [z, h.lst] at e; cases e
  refine ⟨by rw [upd_same, List.map_append]; rfl, by simp [h.len], fun i b e => ?_⟩
  by_cases hi : i < ps.length
  · rw [List.getElem?_append_left hi] at e
    obtain ⟨y, h1, h2⟩ := h.at' i b e
    refine ⟨y, by rw [List.getElem?_append_left (by rw [← h.len]; exact hi)]; exact h1, ?_⟩
    rw [upd_ne (ne b y h2)]
    exact h2
  · rw [List.getElem?_append_right (by omega)] at e
    have hj : i - ps.length = 0 := by
      cases hk : i - ps.length with
      | zero => rfl
      | succ k => rw [hk] at e; simp at e
    rw [hj] at e
    cases e
    refine ⟨x, ?_, ?_⟩
    · rw [List.getElem?_append_right (by rw [← h.len]; omega), ← h.len, hj]
      rfl
    · rw [upd_ne (ne _ x ha)]
      exact ha
def signL (one two : List Nat) (s : Nat) (st left : Int) : List Row4 := match sst one two st left s with | none => [] | some (c, l) => [(c, 1, st, l)]
def shiftL (one : List Nat) (st most : Int) : List Row4 := [((one.length : Int) + 0, 0, 0, kept most st 0), ((one.length : Int) + 1, 0, 1, kept most st 1)]
def stepL (one two : List Nat) (s : Nat) (st left most : Int) : List Row4 := signL one two s st left ++ shiftL one st most
theorem shift_at (one : List Nat) (st most : Int) {i : Nat} {x : V} (h : [V.int 0, V.int 1][i]? = some x) : ∃ k : Int, x = .int k ∧ Bit k ∧ (shiftL one st most)[i]? = some ((one.length : Int) + k, 0, k, kept most st k) := by
  match i, h with
  | 0, h => cases h; exact ⟨0, rfl, .inl rfl, rfl⟩
  | 1, h => cases h; exact ⟨1, rfl, .inr rfl, rfl⟩
def spSteps : Sp := fun vs H Q _ => ∃ (t : Addr) (one two : List Nat) (s : Nat) (st left most : Int), vs = [.ref t, sg s, .int st, .int left, .int most] ∧ SetsAt H t one two ∧ Sets one two ∧ Bit st ∧
  ∀ H' p ps, Same H H' → H p = none → FoundAt H' p ps (stepL one two s st left most) → Q (.ref p) H'
theorem ok_p_steps (T : Txt K mg) : FnOk P w K mg base CX0 3 T.a_p_steps T.d_p_steps ["sets", "sign", "state", "left", "most"] spSteps := by
  refine T.F_p_steps.ok sc_p_steps (fun vs H Q E h => ?_) (fun cdv A outer s H vs Q E hr h => ?_)
  · obtain ⟨t, one, two, s, st, left, most, rfl, _⟩ := h
    rfl
  · obtain ⟨t, one, two, s, st, left, most, rfl, hT, hs, hb, q⟩ := h
    have htp := hs.top
    refine ⟨_,
    (pss_cons (ps_set (i := 5) sc_p_steps.nd rfl (Or.inl rfl) (pe_callB call_len_str (by rfl) T.m_len PySem.boot_len (pa_cons (pe_ix ix_tup (pv 0) pe_int (fun _ _ => rfl)) pa_nil))) 
    (pss_cons (ps_set (i := 6) sc_p_steps.nd rfl (Or.inl rfl) (pe_lst pa_nil)) 
    (pss_cons (ps_set (i := 7) sc_p_steps.nd rfl (Or.inl rfl) (pe_call (ok_p_sign_step T) (hr.mono (by decide)) (by rfl) T.g_p_sign_step T.F_p_sign_step.kp T.b_p_sign_step .nil pass0 (pa_cons (pv 0) (pa_cons (pv 1) (pa_cons (pv 2) (pa_cons (pv 3) pa_nil)))))) 
    (C8.pss_cut (ps_if (pt_cmpR op_notN (pv 7) pe_non (nomark _)) 
      (pss_cons (ps_asg (pv 7) (pg_tup rfl (pgs_cons (pg_name (i := 8) sc_p_steps.nd rfl (Or.inl rfl)) (pgs_cons (pg_name (i := 9) sc_p_steps.nd rfl (Or.inl rfl)) pgs_nil)))) 
      (pss_one (ps_expr (pe_bm PySem.F.plainAttrs_list PySem.F.slot_list_append PySem.F.type_list_append mt_append (pv 6) (pa_cons (pe_tup (pa_cons (pv 8) (pa_cons pe_int (pa_cons (pv 2) (pa_cons (pv 9) pa_nil))))) pa_nil))))) pss_nil) 
    (pss_cons (ps_for PassesOwn.never rfl (pi_tup (pe_tup (pa_cons pe_int (pa_cons pe_int pa_nil)))) (pg_name (i := 10) sc_p_steps.nd rfl (Or.inl rfl)) 
      (pss_cons (ps_set (i := 9) sc_p_steps.nd rfl (Or.inl rfl) (pe_cut (pe_ifExp (pt_cmpR op_eq (pv 10) (pv 2) (nomark _)) (pe_glob (v := .int (-1)) (by rfl) T.c_FREE ⟨_, rfl⟩) (pv 4)))) 
      (pss_one (ps_expr (pe_bm PySem.F.plainAttrs_list PySem.F.slot_list_append PySem.F.type_list_append mt_append (pv 6) (pa_cons (pe_tup (pa_cons (pe_op op_add (pv 5) (pv 10)) (pa_cons pe_int (pa_cons (pv 10) (pa_cons (pv 9) pa_nil))))) pa_nil)))))) 
    (pss_one (ps_ret (pv 6)))))))), ?_⟩
    refine ⟨_, rfl, t, _, 0, _, rfl, rfl, SqT.of hT, atI_nat (j := 0) rfl, _, rfl, small_le (by rw [S_len]; omega), Nat.zero_le _, fun o ho => ?_⟩
    have hoN := ho
    have f0 : FoundAt (upd H o (.lst [])) o [] [] := ⟨upd_same, rfl, fun i a e => by simp at e⟩
    have s0 : Same H (upd H o (.lst [])) := Same.new ho
    generalize upd H o (.lst []) = H1 at f0 s0 ⊢
    have hlen : (signL one two s st left).length ≤ 1 := by
      unfold signL
      split <;> simp
    refine ⟨_, rfl, _, rfl, _, rfl, _, rfl, t, one, two, s, st, left, rfl, s0 _ _ hT, hs, hb, fun hn => ?_, fun c l hc H2 p s1 hp ep => ?_⟩
    all_goals refine ⟨fun σ' H'' => ∃ y7 y8 y9, σ' = [some (.ref t), some (sg s), some (.int st), some (.int left), some (.int most), some (.int (S one).length), some (.ref o), y7, y8, y9, none] ∧ Same H H'' ∧ ∃ ps, FoundAt H'' o ps (signL one two s st left), ?_, ?_⟩
    · refine ⟨_, rfl, rfl, _, rfl, ?_⟩
      refine iteF ⟨_, _, _, rfl, s0, [], ?_⟩
      unfold signL
      rw [hn]
      exact f0
    rotate_left
    · refine ⟨_, rfl, rfl, _, rfl, ?_⟩
      refine iteT ⟨_, rfl, p, _, rfl, SqT.of ep, rfl, _, _, rfl, _, _, rfl, rfl, ?_⟩
      have f2 := f0.same s1
      refine ⟨_, rfl, .inl ⟨rfl, _, SqL.of f2.lst⟩, _, rfl, _, rfl, _, rfl, (by show 4 ≤ sizeLine; decide), fun u hu => ?_⟩
      have su := Same.new (o := .tup [.int c, .int 1, .int st, .int l]) hu
      have f3 := f2.same su
      have eu : (upd H2 u (.tup [.int c, .int 1, .int st, .int l])) u = some (.tup (x4 (c, 1, st, l))) := upd_same
      refine ⟨o, _, _, rfl, rfl, f3.lst, small_le (by simp), _, _, _, rfl, Same.mut ((s0.trans s1).trans su) hoN, [u], ?_⟩
      unfold signL
      rw [hc]
      exact f3.put eu
    all_goals
      rintro σ' H'' ⟨y7, y8, y9, rfl, s5, ps, f5⟩
      refine ⟨(by show 2 ≤ sizeLine; decide), fun z hz => ?_⟩
      have sz := Same.new (o := .tup [.int 0, .int 1]) hz
      have f6 := f5.same sz
      have s6 := s5.trans sz
      have ez : (upd H'' z (.tup [.int 0, .int 1])) z = some (.tup [.int 0, .int 1]) := upd_same
      have hzo : z ≠ o := fun e => by have h6 := f6.lst; rw [← e, ez] at h6; cases h6
      generalize upd H'' z (.tup [.int 0, .int 1]) = H7 at f6 s6 ez ⊢
      refine ⟨z, rfl, ⟨_, SqT.of ez⟩, for_tup (xs := [.int 0, .int 1]) (fun i σ H' => ∃ y7 y8 y9 y10, σ = [some (.ref t), some (sg s), some (.int st), some (.int left), some (.int most), some (.int (S one).length), some (.ref o), y7, y8, y9, y10] ∧ Same H H' ∧ H' z = some (.tup [.int 0, .int 1]) ∧ ∃ ps, FoundAt H' o ps (signL one two s st left ++ (shiftL one st most).take i)) ⟨_, _, _, _, rfl, s6, ez, ps, by simpa using f6⟩ ?_ ?_ ?_⟩
      · rintro i σ H' _ ⟨_, _, _, _, rfl, _, e, _⟩
        exact SqT.of e
      · rintro i x σ H' hx ⟨y7, y8, y9, y10, rfl, sm, e, ps, f⟩
        obtain ⟨k, rfl, hk, hat⟩ := shift_at one st most hx
        have hi : i < 2 := (List.getElem?_eq_some_iff.mp hx).1
        refine ⟨fun v H'' => v = .int (kept most st k) ∧ H' = H'', ?_, ?_⟩
        · refine ⟨_, rfl, _, rfl, rfl, _, rfl, ?_⟩
          rw [dec_int]
          unfold kept
          by_cases hks : k = st
          · rw [if_pos hks, decide_eq_true hks]
            exact iteT ⟨rfl, rfl⟩
          · rw [if_neg hks, decide_eq_false hks]
            exact iteF ⟨_, rfl, rfl, rfl⟩
        · rintro v H'' ⟨rfl, rfl⟩
          refine ⟨_, rfl, .inl ⟨rfl, _, SqL.of f.lst⟩, _, rfl, _, rfl, _, _, rfl, rfl, _, rfl, _, rfl, (by show 4 ≤ sizeLine; decide), fun u hu => ?_⟩
          have su := Same.new (o := .tup [.int (((S one).length : Int) + k), .int 0, .int k, .int (kept most st k)]) hu
          have f3 := f.same su
          have eu : (upd H' u (.tup [.int (((S one).length : Int) + k), .int 0, .int k, .int (kept most st k)])) u = some (.tup (x4 ((one.length : Int) + k, 0, k, kept most st k))) := by
            rw [upd_same, S_len]
            rfl
          have hl3 := f3.len
          rw [List.length_append, List.length_take] at hl3
          refine ⟨o, _, _, rfl, rfl, f3.lst, small_le (by rw [List.length_map]; omega), _, _, _, _, rfl, Same.mut (sm.trans su) hoN, ?_, ps ++ [u], ?_⟩
          · rw [upd_ne hzo]
            exact su _ _ e
          · rw [take_snoc hat, ← List.append_assoc]
            exact f3.put eu
      · rintro σ H' ⟨y7, y8, y9, y10, rfl, sm, e, ps, f⟩
        exact ⟨_, rfl, q _ o ps sm hoN f⟩

/-- all of H but what stands at b -/
theorem Keep.back {b : Addr} {H H' : Hp} {u : HO} (k : Keep b H H') (e : H b = some u) : Same H (L2.upd H' b u) := fun x o h => by
  by_cases z : x = b
  · subst z
    rw [e] at h
    cases h
    exact upd_same
  · rw [upd_ne z]
    exact k x o z h
theorem dget_row {H : Hp} {a z : Addr} {F : Int → Int → Int} {ks : List (Int × Int)} {s l : Int} (e : Rd H a (.dT (rowOf F ks))) (ez : H z = some (.tup [.int s, .int l])) (h : (s, l) ∈ ks) : DGet H a (.ref z) (some (.int (F s l))) :=
  .inr ⟨_, key2 s l, z, e, rfl, ez, (val_row h).symm⟩
theorem put_next {H2 : Hp} {D z : Addr} {G : Int → Int → Int} {ks : List (Int × Int)} {i : Nat} {s l : Int} (hn : ks.Nodup) (hk : ks[i]? = some (s, l)) (hl : ks.length ≤ 900) (eD : H2 D = some (.dT (rowOf G (ks.take i)))) (hz : H2 z = none) :
    ∃ H4, DPut (upd H2 z (.tup [.int s, .int l])) D (.ref z) (.int (G s l)) H4 ∧ (∀ x o, x ≠ D → H2 x = some o → H4 x = some o) ∧ H4 D = some (.dT (rowOf G (ks.take (i + 1)))) := by
  have hDz : D ≠ z := ne_of_none eD hz
  have s1 : Same H2 (upd H2 z (.tup [.int s, .int l])) := Same.new hz
  have e1 := s1 _ _ eD
  have hlen : (rowOf G (ks.take i)).length < sizeLine := small1000 (by rw [len_row, List.length_take]; omega)
  refine ⟨_, DPut.t (k := key2 s l) e1 upd_same hlen, fun x o hx e => ?_, ?_⟩
  · rw [upd_ne hx]
    exact s1 _ _ e
  · rw [upd_same, put_row hn hk]
def aheadF (one two : List Nat) (most : Int) (F : Int → Int → Int) (s : Nat) (st left : Int) : Int := min4 (onc one two F s st left) (1 + onc one two F s st (-1)) (1 + onc one two F s (1 - st) most) (2 + onc one two F s (1 - st) (-1))
theorem Lf_ahead (one two : List Nat) (most : Int) (s : Nat) (ss : List Nat) : Lf one two most (s :: ss) = aheadF one two most (Lf one two most ss) s := rfl
def spAhead : Sp := fun vs H Q _ => ∃ (t b : Addr) (one two : List Nat) (s : Nat) (most : Int) (F : Int → Int → Int), vs = [.ref t, sg s, .ref b, .int most] ∧ SetsAt H t one two ∧ Sets one two ∧ -1 ≤ most ∧ most ≤ 400 ∧ H b = some (.dT (rowOf F (keysM most))) ∧
  ∀ H' p, Same H H' → H p = none → H' p = some (.dT (rowOf (aheadF one two most F s) (keysM most))) → Q (.ref p) H'
theorem ok_p_lengths_ahead (T : Txt K mg) : FnOk P w K mg base CX0 3 T.a_p_lengths_ahead T.d_p_lengths_ahead ["sets", "sign", "behind", "most"] spAhead := by
  refine T.F_p_lengths_ahead.ok sc_p_lengths_ahead (fun vs H Q E h => ?_) (fun cdv A outer s H vs Q E hr h => ?_)
  · obtain ⟨t, b, one, two, s, most, F, rfl, _⟩ := h
    rfl
  · obtain ⟨t, b, one, two, s, most, F, rfl, hT, hs, hm0, hm1, hB, q⟩ := h
    have hnd := nodup_keys most
    have hlk := len_keys hm0
    have hmem : ∀ {x y : Int}, (x, y) ∈ keysM most ↔ Bit x ∧ -1 ≤ y ∧ y ≤ most := mem_keys hm0
    have htb : t ≠ b := fun z => by rw [SetsAt, z, hB] at hT; cases hT
    refine ⟨_,
    (pss_cons (ps_set (i := 4) sc_p_lengths_ahead.nd rfl (Or.inl rfl) pe_dnewT) 
    (pss_cons (ps_lock (ps_for PassesOwn.never rfl (pi_keys (pv 2)) (pg_tup rfl (pgs_cons (pg_name (i := 5) sc_p_lengths_ahead.nd rfl (Or.inl rfl)) (pgs_cons (pg_name (i := 6) sc_p_lengths_ahead.nd rfl (Or.inl rfl)) pgs_nil))) 
      (pss_cons (ps_set (i := 7) sc_p_lengths_ahead.nd rfl (Or.inl rfl) (pe_call (ok_p_sign_step T) (hr.mono (by decide)) (by rfl) T.g_p_sign_step T.F_p_sign_step.kp T.b_p_sign_step .nil pass0 (pa_cons (pv 0) (pa_cons (pv 1) (pa_cons (pv 5) (pa_cons (pv 6) pa_nil)))))) 
      (pss_one (ps_dput (hu_of hr) (pv 4) (pe_tup (pa_cons (pv 5) (pa_cons (pv 6) pa_nil))) (pe_ifExp (pt_cmpR op_isN (pv 7) pe_non (nomark _)) (pe_glob (v := .int 1000000) (by rfl) T.c_NEVER ⟨_, rfl⟩) (pe_op op_add pe_int (pe_dget (hu_of hr) (pv 2) (pe_tup (pa_cons (pv 5) (pa_cons (pe_ix ix_tup (pv 7) pe_int (fun _ _ => rfl)) pa_nil))) (fun _ _ => rfl)))) rfl))))) 
    (pss_cons (ps_set (i := 8) sc_p_lengths_ahead.nd rfl (Or.inl rfl) pe_dnewT) 
    (pss_cons (ps_lock (ps_for PassesOwn.never rfl (pi_keys (pv 2)) (pg_tup rfl (pgs_cons (pg_name (i := 5) sc_p_lengths_ahead.nd rfl (Or.inl rfl)) (pgs_cons (pg_name (i := 6) sc_p_lengths_ahead.nd rfl (Or.inl rfl)) pgs_nil))) 
      (pss_cons (ps_set (i := 9) sc_p_lengths_ahead.nd rfl (Or.inl rfl) (pe_op op_sub pe_int (pv 5))) 
      (pss_one (ps_dput (hu_of hr) (pv 8) (pe_tup (pa_cons (pv 5) (pa_cons (pv 6) pa_nil))) (pe_callB (call_min4 rfl) (by rfl) T.m_min (by decide +kernel) (pa_cons (pe_dget (hu_of hr) (pv 4) (pe_tup (pa_cons (pv 5) (pa_cons (pv 6) pa_nil))) (fun _ _ => rfl)) (pa_cons (pe_op op_add pe_int (pe_dget (hu_of hr) (pv 4) (pe_tup (pa_cons (pv 5) (pa_cons (pe_glob (v := .int (-1)) (by rfl) T.c_FREE ⟨_, rfl⟩) pa_nil))) (fun _ _ => rfl))) (pa_cons (pe_op op_add pe_int (pe_dget (hu_of hr) (pv 4) (pe_tup (pa_cons (pv 9) (pa_cons (pv 3) pa_nil))) (fun _ _ => rfl))) (pa_cons (pe_op op_add pe_int (pe_dget (hu_of hr) (pv 4) (pe_tup (pa_cons (pv 9) (pa_cons (pe_glob (v := .int (-1)) (by rfl) T.c_FREE ⟨_, rfl⟩) pa_nil))) (fun _ _ => rfl))) pa_nil))))) rfl))))) 
    (pss_one (ps_ret (pv 8))))))), ?_⟩
    intro D hD
    have hbD : b ≠ D := ne_of_none hB hD
    have sD : Same H (upd H D (.dT [])) := Same.new hD
    have eD0 : (upd H D (.dT [])) D = some (.dT (rowOf (onc one two F s) ((keysM most).take 0))) := upd_same
    generalize upd H D (.dT []) = H1 at sD eD0 ⊢
    refine ⟨b, _, sD _ _ hB, trivial, fun od => ?_⟩
    refine ⟨_, rfl, b, od, rfl, .inr ⟨_, upd_same, for_it walk_keysT (fun i σ H' => ∃ y5 y6 y7, σ = [some (.ref t), some (sg s), some (.ref b), some (.int most), some (.ref D), y5, y6, y7, none, none] ∧ Keep b H H' ∧
      H' b = some (.frz od (.dT (rowOf F (keysM most)))) ∧ H' D = some (.dT (rowOf (onc one two F s) ((keysM most).take i)))) ⟨none, none, none, rfl, (Keep.same sD).trans Keep.upd, upd_same, by rw [upd_ne (Ne.symm hbD)]; exact eD0⟩ ?_ ?_ ?_⟩⟩
    · rintro i σ H' _ ⟨_, _, _, rfl, _, eb, _⟩
      exact eb
    · rintro i x σ H' _ hi ⟨y5, y6, y7, rfl, kp, eb, eD⟩ ⟨rfl, k, v, u, hk, rfl, eu⟩
      obtain ⟨st, left, hat, rfl, rfl⟩ := row_at hk
      have hks := List.mem_of_getElem? hat
      obtain ⟨hbit, hl0, hl1⟩ := hmem.mp hks
      refine ⟨u, [.int st, .int left], rfl, SqT.of eu, rfl, _, _, rfl, _, _, rfl, rfl, ?_⟩
      refine ⟨_, rfl, _, rfl, _, rfl, _, rfl, t, one, two, s, st, left, rfl, kp _ _ htb hT, hs, hbit, fun hnone => ?_, fun c l hc H3 p s3 hp ep => ?_⟩
      · refine ⟨_, rfl, rfl, _, rfl, iteT ⟨_, rfl, _, rfl, _, rfl, (by show 2 ≤ sizeLine; decide), fun z hz => ?_⟩⟩
        obtain ⟨H4, d, k4, e4⟩ := put_next (s := st) (l := left) hnd hat (by omega) eD hz
        rw [onc_none hnone] at d
        exact ⟨D, H4, rfl, d, _, _, _, rfl, fun x o hx e => k4 x o (fun z => by rw [z, hD] at e; cases e) (kp x o hx e), k4 _ _ hbD eb, e4⟩
      · refine ⟨_, rfl, rfl, _, rfl, iteF ⟨_, rfl, _, rfl, _, rfl, p, _, 1, _, rfl, rfl, SqT.of ep, atI_nat (j := 1) rfl, (by show 2 ≤ sizeLine; decide), fun z hz => ?_⟩⟩
        have sz := s3.trans (Same.new (o := .tup [.int st, .int l]) hz)
        have ez : (upd H3 z (.tup [.int st, .int l])) z = some (.tup [.int st, .int l]) := upd_same
        obtain ⟨hc0, hc1, hl2, hl3, _⟩ := sst_range hs hc ⟨hl0, hl1⟩
        generalize upd H3 z (.tup [.int st, .int l]) = H5 at sz ez ⊢
        refine ⟨b, _, rfl, dget_row (.inr ⟨_, sz _ _ eb⟩) ez (hmem.mpr ⟨hbit, hl2, hl3⟩), _, _, rfl, rfl, _, rfl, _, rfl, _, rfl, (by show 2 ≤ sizeLine; decide), fun z2 hz2 => ?_⟩
        obtain ⟨H4, d, k4, e4⟩ := put_next (s := st) (l := left) hnd hat (by omega) (sz _ _ eD) hz2
        rw [onc_some hc] at d
        exact ⟨D, H4, rfl, d, _, _, _, rfl, fun x o hx e => k4 x o (fun z => by rw [z, hD] at e; cases e) (sz x o (kp x o hx e)), k4 _ _ hbD (sz _ _ eb), e4⟩
    · rintro σ H' ⟨y5, y6, y7, rfl, kp, eb, eD⟩
      rw [len_row, List.take_of_length_le (Nat.le_refl _)] at eD
      refine ⟨eb, ?_⟩
      have sm := kp.back hB
      have eD2 : (upd H' b (.dT (rowOf F (keysM most)))) D = some (.dT (rowOf (onc one two F s) (keysM most))) := by
        rw [upd_ne (Ne.symm hbD)]
        exact eD
      generalize upd H' b (.dT (rowOf F (keysM most))) = H2 at sm eD2 ⊢
      intro D2 hD2
      have hbD2 : b ≠ D2 := ne_of_none (sm _ _ hB) hD2
      have hDD2 : D ≠ D2 := ne_of_none eD2 hD2
      have hD2N := sm.free hD2
      have sD2 : Same H2 (upd H2 D2 (.dT [])) := Same.new hD2
      have eD0 : (upd H2 D2 (.dT [])) D2 = some (.dT (rowOf (aheadF one two most F s) ((keysM most).take 0))) := upd_same
      have eD3 := sD2 _ _ eD2
      have s2 := sm.trans sD2
      generalize upd H2 D2 (.dT []) = H3 at eD0 eD3 s2 ⊢
      refine ⟨b, _, s2 _ _ hB, trivial, fun od => ?_⟩
      refine ⟨_, rfl, b, od, rfl, .inr ⟨_, upd_same, for_it walk_keysT (fun i σ H' => ∃ y5 y6 y7 y9, σ = [some (.ref t), some (sg s), some (.ref b), some (.int most), some (.ref D), y5, y6, y7, some (.ref D2), y9] ∧ Keep b H H' ∧
        H' b = some (.frz od (.dT (rowOf F (keysM most)))) ∧ H' D = some (.dT (rowOf (onc one two F s) (keysM most))) ∧ H' D2 = some (.dT (rowOf (aheadF one two most F s) ((keysM most).take i)))) ⟨_, _, _, none, rfl, (Keep.same s2).trans Keep.upd, upd_same, by rw [upd_ne (Ne.symm hbD)]; exact eD3, by rw [upd_ne (Ne.symm hbD2)]; exact eD0⟩ ?_ ?_ ?_⟩⟩
      · rintro i σ H' _ ⟨_, _, _, _, rfl, _, eb, _⟩
        exact eb
      · rintro i x σ _ H' hi ⟨y5, y6, y7, y9, rfl, kp, eb, eD, eA⟩ ⟨rfl, k, v, u, hk, rfl, eu⟩
        obtain ⟨st, left, hat, rfl, rfl⟩ := row_at hk
        have hks := List.mem_of_getElem? hat
        obtain ⟨hbit, hl0, hl1⟩ := hmem.mp hks
        have hob := bit_other hbit
        refine ⟨u, [.int st, .int left], rfl, SqT.of eu, rfl, _, _, rfl, _, _, rfl, rfl, ?_⟩
        refine ⟨_, rfl, _, _, rfl, rfl, ?_⟩
        refine ⟨_, rfl, _, rfl, _, rfl, (by show 2 ≤ sizeLine; decide), fun z1 hz1 => ?_⟩
        have t1 := Same.new (o := .tup [.int st, .int left]) hz1
        have e1 : (upd H' z1 (.tup [.int st, .int left])) z1 = some (.tup [.int st, .int left]) := upd_same
        generalize upd H' z1 (.tup [.int st, .int left]) = K1 at t1 e1 ⊢
        refine ⟨D, _, rfl, dget_row (.inl (t1 _ _ eD)) e1 hks, _, rfl, _, rfl, (by show 2 ≤ sizeLine; decide), fun z2 hz2 => ?_⟩
        have t2 := t1.trans (Same.new (o := .tup [.int st, .int (-1)]) hz2)
        have e2 : (upd K1 z2 (.tup [.int st, .int (-1)])) z2 = some (.tup [.int st, .int (-1)]) := upd_same
        generalize upd K1 z2 (.tup [.int st, .int (-1)]) = K2 at t2 e2 ⊢
        refine ⟨D, _, rfl, dget_row (.inl (t2 _ _ eD)) e2 (hmem.mpr ⟨hbit, by omega, by omega⟩), _, _, rfl, rfl, _, rfl, _, rfl, _, rfl, (by show 2 ≤ sizeLine; decide), fun z3 hz3 => ?_⟩
        have t3 := t2.trans (Same.new (o := .tup [.int (1 - st), .int most]) hz3)
        have e3 : (upd K2 z3 (.tup [.int (1 - st), .int most])) z3 = some (.tup [.int (1 - st), .int most]) := upd_same
        generalize upd K2 z3 (.tup [.int (1 - st), .int most]) = K3 at t3 e3 ⊢
        refine ⟨D, _, rfl, dget_row (.inl (t3 _ _ eD)) e3 (hmem.mpr ⟨hob, by omega, by omega⟩), _, _, rfl, rfl, _, rfl, _, rfl, (by show 2 ≤ sizeLine; decide), fun z4 hz4 => ?_⟩
        have t4 := t3.trans (Same.new (o := .tup [.int (1 - st), .int (-1)]) hz4)
        have e4 : (upd K3 z4 (.tup [.int (1 - st), .int (-1)])) z4 = some (.tup [.int (1 - st), .int (-1)]) := upd_same
        generalize upd K3 z4 (.tup [.int (1 - st), .int (-1)]) = K4 at t4 e4 ⊢
        refine ⟨D, _, rfl, dget_row (.inl (t4 _ _ eD)) e4 (hmem.mpr ⟨hob, by omega, by omega⟩), _, _, rfl, rfl, _, _, _, _, rfl, _, rfl, _, rfl, _, rfl, (by show 2 ≤ sizeLine; decide), fun z5 hz5 => ?_⟩
        obtain ⟨H4, d, k4, e5⟩ := put_next (s := st) (l := left) hnd hat (by omega) (t4 _ _ eA) hz5
        exact ⟨D2, H4, rfl, d, _, _, _, _, rfl, fun x o hx e => k4 x o (fun z => by rw [z, hD2N] at e; cases e) (t4 x o (kp x o hx e)), k4 _ _ hbD2 (t4 _ _ eb), k4 _ _ hDD2 (t4 _ _ eD), e5⟩
      · rintro σ H' ⟨y5, y6, y7, y9, rfl, kp, eb, eD, eA⟩
        rw [len_row, List.take_of_length_le (Nat.le_refl _)] at eA
        refine ⟨eb, _, rfl, q _ D2 (kp.back hB) hD2N ?_⟩
        rw [upd_ne (Ne.symm hbD2)]
        exact eA

theorem dc_it {J : It} {n : Nat} {G : Hp → Prop} {Y : Nat → Hp → V → Hp → Prop} (w : Walk J n G Y) {H0 : Hp} {End : Hp → Prop} {Body : V → Hp → (Hp → Prop) → Prop} (Pv : Nat → Hp → Prop) (h0 : Pv 0 H0) (hG : ∀ i H, i ≤ n → Pv i H → G H)
    (hs : ∀ i x H H', i < n → Pv i H → Y i H x H' → Body x H' (Pv (i + 1))) (hd : ∀ H, Pv n H → End H) :
    ∃ W : Nat → Nat → Hp → Prop, (∃ m, W 0 m H0) ∧ ∀ i m H, W i m H → (J.stop i H ∧ End H) ∨ (J.go i H ∧ ∃ Nx : Hp → Prop, (∀ H', Nx H' → ∃ m', m' < m ∧ W (i + 1) m' H') ∧ ∀ x H', J.yld i H x H' → Body x H' Nx) := by
  refine ⟨fun i m H => m = n - i ∧ i ≤ n ∧ Pv i H, ⟨n, by simp, Nat.zero_le _, h0⟩, ?_⟩
  rintro i m H ⟨rfl, hi, p⟩
  have q := hG i H hi p
  by_cases hlt : i < n
  · exact .inr ⟨w.goes i H hlt q, Pv (i + 1), fun H' p' => ⟨n - (i + 1), by omega, rfl, hlt, p'⟩, fun x H' y => hs i x H H' hlt p (w.yields i H x H' hlt q y)⟩
  · have e : i = n := by omega
    subst e
    exact .inl ⟨w.stops H q, hd H p⟩
theorem lefts_rg {most : Int} (h : -1 ≤ most) : [V.int (-1)] ++ rgV 0 (most + 1) = Ints (leftsM most) := by
  unfold rgV leftsM
  simp
theorem key_at {most l : Int} {st : Int} {i j : Nat} (hi : [V.int 0, V.int 1][i]? = some (.int st)) (h : (leftsM most)[j]? = some l) : (keysM most)[i * (leftsM most).length + j]? = some (st, l) := by
  have hj : j < (leftsM most).length := (List.getElem?_eq_some_iff.mp h).1
  unfold keysM
  match i, hi with
  | 0, hi =>
    cases hi
    rw [Nat.zero_mul, Nat.zero_add, List.getElem?_append_left (by rw [List.length_map]; exact hj), List.getElem?_map, h]
    rfl
  | 1, hi =>
    cases hi
    rw [Nat.one_mul, List.getElem?_append_right (by rw [List.length_map]; omega), List.length_map, Nat.add_sub_cancel_left, List.getElem?_map, h]
    rfl
/-- rows of the least lengths, behind each place of the text -/
structure RowsAt (H : Hp) (p : Addr) (ps : List Addr) (one two : List Nat) (most : Int) (tx : List Nat) : Prop where
  lst : H p = some (.lst (ps.map V.ref))
  len : ps.length = tx.length + 1
  at' : ∀ (i : Nat) (a : Addr), ps[i]? = some a → H a = some (.dT (rowOf (Lf one two most (tx.drop i)) (keysM most)))
def spLens : Sp := fun vs H Q _ => ∃ (t : Addr) (one two tx : List Nat) (most : Int), vs = [.ref t, .str (S tx), .int most] ∧ SetsAt H t one two ∧ Sets one two ∧ -1 ≤ most ∧ most ≤ 400 ∧ tx.length ≤ 900 ∧
  ∀ H' p ps, Same H H' → H p = none → RowsAt H' p ps one two most tx → Q (.ref p) H'
theorem ok_p_shortest_lengths (T : Txt K mg) : FnOk P w K mg base CX0 4 T.a_p_shortest_lengths T.d_p_shortest_lengths ["sets", "text", "most"] spLens := by
  refine T.F_p_shortest_lengths.ok sc_p_shortest_lengths (fun vs H Q E h => ?_) (fun cdv A outer s H vs Q E hr h => ?_)
  · obtain ⟨t, one, two, tx, most, rfl, _⟩ := h
    rfl
  · obtain ⟨t, one, two, tx, most, rfl, hT, hs, hm0, hm1, hl, q⟩ := h
    have hnd := nodup_keys most
    have hlk := len_keys hm0
    have hll := len_lefts hm0
    refine ⟨_,
    (pss_cons (ps_set (i := 3) sc_p_shortest_lengths.nd rfl (Or.inr rfl) (pe_op op_cat (pe_lst (pa_cons (pe_glob (v := .int (-1)) (by rfl) T.c_FREE ⟨_, rfl⟩) pa_nil)) (pe_listRg rfl (by rfl) T.m_list (prg_1 (by rfl) T.m_range (pe_op op_add (pv 2) pe_int))))) 
    (pss_cons (ps_setDc2 (i := 4) (own := [("state", 7), ("left", 8)]) (vs1 := [8]) (hu0_of hr) rfl sc_p_shortest_lengths.nd rfl rfl (swD_true rfl rfl rfl (by decide +kernel)) (pi_tup (pe_tup (pa_cons pe_int (pa_cons pe_int pa_nil)))) (blkOk_by (own := [("state", 7), ("left", 8)]) (N := n_p_shortest_lengths) (sc := (defScope s_p_shortest_lengths)) (by decide +kernel)) (by decide) (fun _ _ _ _ _ => (pg_name (i := 7) sc_p_shortest_lengths.nd rfl (Or.inl rfl))) (fun _ _ _ _ _ => (pi_list (pv 3) : PI _ _ _ (iList K _))) (fun _ _ _ _ _ => (pg_name (i := 8) sc_p_shortest_lengths.nd rfl (Or.inl rfl))) (fun _ _ _ _ _ => (pe_tup (pa_cons (pv 7) (pa_cons (pv 8) pa_nil)))) (fun _ _ _ _ _ => pe_int)) 
    (pss_cons (ps_set (i := 5) sc_p_shortest_lengths.nd rfl (Or.inl rfl) (pe_lst (pa_cons (pv 4) pa_nil))) 
    (pss_cons (ps_for PassesOwn.never rfl (pi_revS (by rfl) T.m_reversed (pv 1)) (pg_name (i := 6) sc_p_shortest_lengths.nd rfl (Or.inl rfl)) 
      (pss_cons (ps_set (i := 4) sc_p_shortest_lengths.nd rfl (Or.inl rfl) (pe_call (ok_p_lengths_ahead T) (hr.mono (by decide)) (by rfl) T.g_p_lengths_ahead T.F_p_lengths_ahead.kp T.b_p_lengths_ahead .nil pass0 (pa_cons (pv 0) (pa_cons (pv 6) (pa_cons (pv 4) (pa_cons (pv 2) pa_nil)))))) 
      (pss_one (ps_expr (pe_bm PySem.F.plainAttrs_list PySem.F.slot_list_append PySem.F.type_list_append mt_append (pv 5) (pa_cons (pv 4) pa_nil)))))) 
    (pss_cons (ps_expr (pe_bm0 PySem.F.plainAttrs_list PySem.F.slot_list_reverse PySem.F.type_list_reverse mt_reverse (pv 5))) 
    (pss_one (ps_ret (pv 5)))))))), ?_⟩
    refine ⟨(by show 1 ≤ sizeLine; decide), fun x hx => ?_⟩
    have s1 := Same.new (o := .lst [.int (-1)]) hx
    refine ⟨_, rfl, _, _, rfl, rfl, _, rfl, RgOk.of_le (by decide) (by omega) (by decide) (by omega), fun y hy => ?_⟩
    have s2 := s1.trans (Same.new (o := .lst (rgV 0 (most + 1))) hy)
    have ex : (upd (upd H x (.lst [.int (-1)])) y (.lst (rgV 0 (most + 1)))) x = some (.lst [.int (-1)]) := Same.new hy _ _ upd_same
    have ey : (upd (upd H x (.lst [.int (-1)])) y (.lst (rgV 0 (most + 1)))) y = some (.lst (rgV 0 (most + 1))) := upd_same
    generalize upd (upd H x (.lst [.int (-1)])) y (.lst (rgV 0 (most + 1))) = H1 at s2 ex ey ⊢
    have hlr : ([V.int (-1)] ++ rgV 0 (most + 1)).length ≤ 1000 := by
      rw [lefts_rg hm0, List.length_map, hll]
      omega
    refine ⟨x, y, _, _, rfl, rfl, ex, ey, small_le (by rw [← List.length_append]; exact hlr), fun lf hlf => ?_⟩
    have s3 := s2.trans (Same.new (o := .lst ([.int (-1)] ++ rgV 0 (most + 1))) hlf)
    have elf : (upd H1 lf (.lst ([.int (-1)] ++ rgV 0 (most + 1)))) lf = some (.lst (Ints (leftsM most))) := by
      rw [upd_same, lefts_rg hm0]
    generalize upd H1 lf (.lst ([.int (-1)] ++ rgV 0 (most + 1))) = H2 at s3 elf ⊢
    refine ⟨(by show 2 ≤ sizeLine; decide), fun z hz => ?_⟩
    have s4 := s3.trans (Same.new (o := .tup [.int 0, .int 1]) hz)
    have elf4 := (Same.new (o := .tup [.int 0, .int 1]) hz) _ _ elf
    have ez : (upd H2 z (.tup [.int 0, .int 1])) z = some (.tup [.int 0, .int 1]) := upd_same
    generalize upd H2 z (.tup [.int 0, .int 1]) = H3 at s4 elf4 ez ⊢
    refine ⟨z, rfl, ⟨_, SqT.of ez⟩, fun D hD => ?_⟩
    have s5 := s4.trans (Same.new (o := .dT []) hD)
    have hDN := s4.free hD
    have hDlf : D ≠ lf := fun e => by rw [e, elf4] at hD; cases hD
    have hDz : D ≠ z := fun e => by rw [e, ez] at hD; cases hD
    have elf5 := (Same.new (o := .dT []) hD) _ _ elf4
    have ez5 := (Same.new (o := .dT []) hD) _ _ ez
    have eD : (upd H3 D (.dT [])) D = some (.dT (rowOf (Lf one two most []) ((keysM most).take 0))) := upd_same
    refine dc_it (walk_tup (xs := [.int 0, .int 1])) (fun i H' => Same H H' ∧ H' lf = some (.lst (Ints (leftsM most))) ∧ H' z = some (.tup [.int 0, .int 1]) ∧ H' D = some (.dT (rowOf (Lf one two most []) ((keysM most).take (i * (leftsM most).length))))) ⟨s5, elf5, ez5, by rw [Nat.zero_mul]; exact eD⟩ ?_ ?_ ?_
    · rintro i H' _ ⟨_, _, e, _⟩
      exact SqT.of e
    · rintro i x _ H' hi ⟨sm, elf', ez', eD'⟩ ⟨rfl, hx⟩
      obtain ⟨st, rfl⟩ : ∃ st : Int, x = .int st := by
        match i, hx with
        | 0, hx => cases hx; exact ⟨0, rfl⟩
        | 1, hx => cases hx; exact ⟨1, rfl⟩
      refine ⟨rfl, _, rfl, lf, rfl, ⟨_, SqL.of elf'⟩, ?_⟩
      refine dc_it (walk_list (xs := Ints (leftsM most))) (fun j H' => Same H H' ∧ H' lf = some (.lst (Ints (leftsM most))) ∧ H' z = some (.tup [.int 0, .int 1]) ∧ H' D = some (.dT (rowOf (Lf one two most []) ((keysM most).take (i * (leftsM most).length + j))))) ⟨sm, elf', ez', eD'⟩ ?_ ?_ ?_
      · rintro j H' _ ⟨_, e, _, _⟩
        exact SqL.of e
      · rintro j y _ H' hj ⟨sm, elf', ez', eD'⟩ ⟨rfl, hy⟩
        obtain ⟨l, hl', rfl⟩ := ints_at hy
        have hat := key_at hx hl'
        refine ⟨rfl, _, rfl, _, rfl, (by show 2 ≤ sizeLine; decide), fun u hu => ?_⟩
        have su := Same.new (o := .tup [.int st, .int l]) hu
        have hlen : (rowOf (Lf one two most []) ((keysM most).take (i * (leftsM most).length + j))).length < sizeLine := small1000 (by rw [len_row, List.length_take]; omega)
        refine ⟨u, _, key2 st l, rfl, upd_same, su _ _ eD', hlen, Same.mut (sm.trans su) hDN, ?_, ?_, ?_⟩
        · rw [upd_ne (Ne.symm hDlf)]
          exact su _ _ elf'
        · rw [upd_ne (Ne.symm hDz)]
          exact su _ _ ez'
        · rw [upd_same, show (V.int 0) = V.int (Lf one two most [] st l) from rfl, put_row hnd hat]
          rfl
      · rintro H' ⟨sm, elf', ez', eD'⟩
        refine ⟨sm, elf', ez', ?_⟩
        rw [List.length_map] at eD'
        rw [Nat.succ_mul]
        exact eD'
    · rintro H' ⟨sm, elf', ez', eD'⟩
      have e2 : [V.int 0, V.int 1].length * (leftsM most).length = (keysM most).length := by
        rw [hlk, hll]
        rfl
      rw [e2, List.take_of_length_le (Nat.le_refl _)] at eD'
      refine ⟨_, rfl, (by show 1 ≤ sizeLine; decide), fun o ho => ?_⟩
      have hoN := sm.free ho
      have s6 := sm.trans (Same.new (o := .lst [.ref D]) ho)
      have eo : (upd H' o (.lst [.ref D])) o = some (.lst [.ref D]) := upd_same
      have eD6 := (Same.new (o := .lst [.ref D]) ho) _ _ eD'
      generalize upd H' o (.lst [.ref D]) = H4 at s6 eo eD6 ⊢
      have hsz : (S tx).length = tx.length := S_len tx
      refine ⟨_, rfl, _, rfl, small_le (by rw [hsz]; omega), for_it (walk_revS (x := S tx)) (fun i σ H' => ∃ (r : Addr) (y6 : Option V) (ps : List Addr), σ = [some (.ref t), some (.str (S tx)), some (.int most), some (.ref lf), some (.ref r), some (.ref o), y6, none, none] ∧ Same H H' ∧ H' o = some (.lst (ps.map V.ref)) ∧ ps.length = i + 1 ∧
        (∀ (j : Nat) (a : Addr), ps[j]? = some a → H' a = some (.dT (rowOf (Lf one two most (tx.drop (tx.length - j))) (keysM most)))) ∧ ps[i]? = some r) ⟨D, none, [D], rfl, s6, eo, rfl, fun j a e => ?_, rfl⟩ ?_ ?_ ?_⟩
      · cases j with
        | zero =>
          cases e
          rw [Nat.sub_zero, List.drop_length]
          exact eD6
        | succ j => simp at e
      · intros
        exact True.intro
      · rintro i x σ _ H' hi ⟨r, y6, ps, rfl, sm, eo, hlp, hat, hlast⟩ ⟨rfl, c, hc, rfl⟩
        rw [hsz] at hi hc
        have hc' : tx[tx.length - 1 - i]? = some c := by
          have e : (S tx).cps[tx.length - 1 - i]? = tx[tx.length - 1 - i]? := by
            show tx.toArray[_]? = _
            simp
          rw [← e]
          exact hc
        have hdrop : tx.drop (tx.length - (i + 1)) = c :: tx.drop (tx.length - i) := by
          obtain ⟨h1, h2⟩ := List.getElem?_eq_some_iff.mp hc'
          rw [show tx.length - (i + 1) = tx.length - 1 - i by omega, ← List.getElem_cons_drop (i := tx.length - 1 - i) (h := h1), h2, show tx.length - 1 - i + 1 = tx.length - i by omega]
        refine ⟨_, rfl, _, rfl, _, rfl, _, rfl, t, r, one, two, c, most, _, rfl, sm _ _ hT, hs, hm0, hm1, hat i r hlast, fun H5 p5 s5 hp5 ep5 => ?_⟩
        have hop : o ≠ p5 := ne_of_none eo hp5
        have eo5 := s5 _ _ eo
        refine ⟨_, rfl, .inl ⟨rfl, _, SqL.of eo5⟩, _, rfl, o, _, _, rfl, rfl, eo5, small1000 (by rw [List.length_map]; omega), p5, _, ps ++ [p5], rfl, Same.mut (sm.trans s5) hoN, ?_, by simp [hlp], fun j a e => ?_, ?_⟩
        · rw [upd_same, List.map_append]
          rfl
        · by_cases hj : j < ps.length
          · rw [List.getElem?_append_left hj] at e
            have h6 := hat j a e
            have h7 : a ≠ o := fun z => by rw [z, eo] at h6; cases h6
            rw [upd_ne h7]
            exact s5 _ _ h6
          · rw [List.getElem?_append_right (by omega)] at e
            have hj0 : j - ps.length = 0 := by
              cases hk : j - ps.length with
              | zero => rfl
              | succ k => rw [hk] at e; simp at e
            rw [hj0] at e
            cases e
            rw [upd_ne (Ne.symm hop), show j = i + 1 by omega, hdrop, Lf_ahead]
            exact ep5
        · rw [List.getElem?_append_right (by omega), hlp, Nat.sub_self]
          rfl
      · rintro σ H' ⟨r, y6, ps, rfl, sm, eo, hlp, hat, hlast⟩
        rw [hsz] at hlp
        refine ⟨_, rfl, .inl ⟨rfl, _, SqL.of eo⟩, o, _, rfl, rfl, eo, _, rfl, q _ o ps.reverse (Same.mut sm hoN) hoN ⟨by rw [upd_same, List.map_reverse], by rw [List.length_reverse, hlp], fun i a e => ?_⟩⟩
        have hi : i < ps.length := by
          have := (List.getElem?_eq_some_iff.mp e).1
          rwa [List.length_reverse] at this
        rw [List.getElem?_reverse hi] at e
        have h6 := hat _ a e
        have h7 : a ≠ o := fun z => by rw [z, eo] at h6; cases h6
        rw [upd_ne h7]
        rw [show tx.length - (ps.length - 1 - i) = i by omega] at h6
        exact h6

theorem step_of {one two : List Nat} {s : Nat} {st left most : Int} {j : Nat} {x : Row4} (h : (stepL one two s st left most)[j]? = some x) : (∃ c l, sst one two st left s = some (c, l) ∧ x = ((c, 1, st, l) : Row4)) ∨
    ∃ k, Bit k ∧ x = (((one.length : Int) + k, 0, k, kept most st k) : Row4) ∧ (∀ c l, sst one two st left s = some (c, l) → ∃ j' : Nat, j' < j ∧ (stepL one two s st left most)[j']? = some ((c, 1, st, l) : Row4)) ∧
      ∀ k', Bit k' → k' < k → ∃ j' : Nat, j' < j ∧ (stepL one two s st left most)[j']? = some (((one.length : Int) + k', 0, k', kept most st k') : Row4) := by
  have low : ∀ k' : Int, Bit k' → ¬ k' < 0 := fun k' hk' => by unfold Bit at hk'; omega
  have low1 : ∀ k' : Int, Bit k' → k' < 1 → k' = 0 := fun k' hk' => by unfold Bit at hk'; omega
  cases e : sst one two st left s with
  | none =>
    have eL : stepL one two s st left most = shiftL one st most := by
      unfold stepL signL
      rw [e]
      rfl
    rw [eL] at h ⊢
    right
    match j, h with
    | 0, h =>
      cases h
      exact ⟨0, .inl rfl, rfl, fun c l z => (by cases z), fun k' hk' z => absurd z (low k' hk')⟩
    | 1, h =>
      cases h
      exact ⟨1, .inr rfl, rfl, fun c l z => (by cases z), fun k' hk' z => by cases low1 k' hk' z; exact ⟨0, by omega, rfl⟩⟩
  | some v =>
    obtain ⟨c, l⟩ := v
    have eL : stepL one two s st left most = (c, 1, st, l) :: shiftL one st most := by
      unfold stepL signL
      rw [e]
      rfl
    rw [eL] at h ⊢
    match j, h with
    | 0, h =>
      cases h
      exact .inl ⟨_, _, rfl, rfl⟩
    | 1, h =>
      cases h
      exact .inr ⟨0, .inl rfl, rfl, fun c' l' z => by cases z; exact ⟨0, by omega, rfl⟩, fun k' hk' z => absurd z (low k' hk')⟩
    | 2, h =>
      cases h
      exact .inr ⟨1, .inr rfl, rfl, fun c' l' z => by cases z; exact ⟨0, by omega, rfl⟩, fun k' hk' z => by cases low1 k' hk' z; exact ⟨1, by omega, rfl⟩⟩
theorem step_has {one two : List Nat} {s : Nat} {st left most : Int} : (∀ c l, sst one two st left s = some (c, l) → ∃ j : Nat, (stepL one two s st left most)[j]? = some ((c, 1, st, l) : Row4)) ∧
    ∀ k, Bit k → ∃ j : Nat, (stepL one two s st left most)[j]? = some (((one.length : Int) + k, 0, k, kept most st k) : Row4) := by
  cases e : sst one two st left s with
  | none =>
    have eL : stepL one two s st left most = shiftL one st most := by
      unfold stepL signL
      rw [e]
      rfl
    rw [eL]
    refine ⟨fun c l z => (by cases z), fun k hk => ?_⟩
    rcases hk with rfl | rfl
    · exact ⟨0, rfl⟩
    · exact ⟨1, rfl⟩
  | some v =>
    obtain ⟨c, l⟩ := v
    have eL : stepL one two s st left most = (c, 1, st, l) :: shiftL one st most := by
      unfold stepL signL
      rw [e]
      rfl
    rw [eL]
    refine ⟨fun c' l' z => (by cases z; exact ⟨0, rfl⟩), fun k hk => ?_⟩
    rcases hk with rfl | rfl
    · exact ⟨1, rfl⟩
    · exact ⟨2, rfl⟩
theorem RowsAt.same {H H' : Hp} {p : Addr} {ps : List Addr} {one two : List Nat} {most : Int} {tx : List Nat} (h : RowsAt H p ps one two most tx) (s : Same H H') : RowsAt H' p ps one two most tx :=
  ⟨s _ _ h.lst, h.len, fun i a e => s _ _ (h.at' i a e)⟩
theorem RowsAt.get {H : Hp} {p : Addr} {ps : List Addr} {one two : List Nat} {most : Int} {tx : List Nat} (h : RowsAt H p ps one two most tx) {i : Nat} (hi : i ≤ tx.length) : ∃ a, (ps.map V.ref)[i]? = some (.ref a) ∧ H a = some (.dT (rowOf (Lf one two most (tx.drop i)) (keysM most))) := by
  have hlt : i < ps.length := by rw [h.len]; omega
  refine ⟨ps[i], by rw [List.getElem?_map, List.getElem?_eq_getElem hlt]; rfl, h.at' i _ (List.getElem?_eq_getElem hlt)⟩
theorem Lf_nil (one two : List Nat) (most st left : Int) : Lf one two most [] st left = 0 := rfl
/-- a code that keeps all in reach: what is told of the rest holds of the whole -/
theorem best_step {one two : List Nat} (hs : Sets one two) {most st left : Int} {s : Nat} {ss : List Nat} {j : Nat} {x : Row4} (hb : Bit st) (hst : Stands one two (s :: ss)) (hl : (s :: ss).length ≤ 1000) (hlf : -1 ≤ left ∧ left ≤ most)
    (hx : (stepL one two s st left most)[j]? = some x) (e : 1 + Lf one two most ((s :: ss).drop x.2.1.toNat) x.2.2.1 x.2.2.2 = Lf one two most (s :: ss) st left)
    (hno : ∀ (j' : Nat) (y : Row4), j' < j → (stepL one two s st left most)[j']? = some y → 1 + Lf one two most ((s :: ss).drop y.2.1.toNat) y.2.2.1 y.2.2.2 ≠ Lf one two most (s :: ss) st left)
    {R : List Int} (hR : Best one two most x.2.2.1 x.2.2.2 ((s :: ss).drop x.2.1.toNat) R) : Best one two most st left (s :: ss) (x.1 :: R) := by
  rcases step_of hx with ⟨c, l, hc, rfl⟩ | ⟨k, hk, rfl, hn1, hn2⟩
  · exact best_sign hs hb hst hl hlf hc e.symm hR
  · refine best_shift hs hb hk hst hl (fun c l hc z => ?_) (fun k' hk' hlt z => ?_) e.symm hR
    · obtain ⟨j', h1, h2⟩ := hn1 c l hc
      exact hno j' _ h1 h2 z.symm
    · obtain ⟨j', h1, h2⟩ := hn2 k' hk' hlt
      exact hno j' _ h1 h2 z.symm
theorem step_reads {one two : List Nat} (hs : Sets one two) {s : Nat} {st left most : Int} {j : Nat} {x : Row4} (hb : Bit st) (hlf : -1 ≤ left ∧ left ≤ most) (hx : (stepL one two s st left most)[j]? = some x) : (x.2.1 = 0 ∨ x.2.1 = 1) ∧ Bit x.2.2.1 ∧ -1 ≤ x.2.2.2 ∧ x.2.2.2 ≤ most := by
  rcases step_of hx with ⟨c, l, hc, rfl⟩ | ⟨k, hk, rfl, _⟩
  · obtain ⟨_, _, h1, h2, _⟩ := sst_range hs hc hlf
    exact ⟨.inr rfl, hb, h1, h2⟩
  · refine ⟨.inl rfl, hk, ?_⟩
    show -1 ≤ kept most st k ∧ kept most st k ≤ most
    unfold kept
    split <;> omega
def spShortest : Sp := fun vs H Q _ => ∃ (t : Addr) (one two tx : List Nat) (st most : Int), vs = [.ref t, .str (S tx), .int st, .int most] ∧ SetsAt H t one two ∧ Sets one two ∧ Bit st ∧ Stands one two tx ∧ -1 ≤ most ∧ most ≤ 400 ∧ tx.length ≤ 300 ∧
  ∀ H' p R, Same H H' → H p = none → Best one two most st (-1) tx R → H' p = some (.lst (Ints R)) → Q (.ref p) H'
theorem ok_p_shortest (T : Txt K mg) : FnOk P w K mg base CX0 5 T.a_p_shortest T.d_p_shortest ["sets", "text", "state", "most"] spShortest := by
  refine T.F_p_shortest.ok sc_p_shortest (fun vs H Q E h => ?_) (fun cdv A outer s H vs Q E hr h => ?_)
  · obtain ⟨t, one, two, tx, st, most, rfl, _⟩ := h
    rfl
  · obtain ⟨t, one, two, tx, st, most, rfl, hT, hs, hb, hst, hm0, hm1, hl, q⟩ := h
    have hmem : ∀ {x y : Int}, (x, y) ∈ keysM most ↔ Bit x ∧ -1 ≤ y ∧ y ≤ most := mem_keys hm0
    have hbd := Lf_bound (one := one) (two := two) (most := most) (tx := tx) (left := -1) hb hst
    refine ⟨_,
    (pss_cons (ps_set (i := 4) sc_p_shortest.nd rfl (Or.inl rfl) (pe_call (ok_p_shortest_lengths T) (hr.mono (by decide)) (by rfl) T.g_p_shortest_lengths T.F_p_shortest_lengths.kp T.b_p_shortest_lengths .nil pass0 (pa_cons (pv 0) (pa_cons (pv 1) (pa_cons (pv 3) pa_nil))))) 
    (pss_cons (ps_set (i := 5) sc_p_shortest.nd rfl (Or.inl rfl) (pe_lst pa_nil)) 
    (pss_cons (ps_set (i := 6) sc_p_shortest.nd rfl (Or.inl rfl) pe_int) 
    (pss_cons (ps_set (i := 7) sc_p_shortest.nd rfl (Or.inl rfl) (pv 2)) 
    (pss_cons (ps_set (i := 8) sc_p_shortest.nd rfl (Or.inl rfl) (pe_glob (v := .int (-1)) (by rfl) T.c_FREE ⟨_, rfl⟩)) 
    (pss_cons (ps_while PassesOwn.never (pt_cmpR op_lt (pv 6) (pe_callB call_len_str (by rfl) T.m_len PySem.boot_len (pa_cons (pv 1) pa_nil)) (nomark _)) 
      (pss_cons (ps_set (i := 9) sc_p_shortest.nd rfl (Or.inl rfl) (pe_dget (hu_of hr) (pe_ix ix_list (pv 4) (pv 6) (fun _ _ => rfl)) (pe_tup (pa_cons (pv 7) (pa_cons (pv 8) pa_nil))) (fun _ _ => rfl))) 
      (pss_one (ps_for PassesOwn.never rfl (pi_list (pe_call (ok_p_steps T) (hr.mono (by decide)) (by rfl) T.g_p_steps T.F_p_steps.kp T.b_p_steps .nil pass0 (pa_cons (pv 0) (pa_cons (pe_ix ix_str (pv 1) (pv 6) (fun _ _ => rfl)) (pa_cons (pv 7) (pa_cons (pv 8) (pa_cons (pv 3) pa_nil))))))) (pg_tup rfl (pgs_cons (pg_name (i := 10) sc_p_shortest.nd rfl (Or.inl rfl)) (pgs_cons (pg_name (i := 11) sc_p_shortest.nd rfl (Or.inl rfl)) (pgs_cons (pg_name (i := 12) sc_p_shortest.nd rfl (Or.inl rfl)) (pgs_cons (pg_name (i := 13) sc_p_shortest.nd rfl (Or.inl rfl)) pgs_nil))))) 
        (pss_one (ps_if (pt_cmpR op_eq (pe_op op_add pe_int (pe_dget (hu_of hr) (pe_ix ix_list (pv 4) (pe_op op_add (pv 6) (pv 11)) (fun _ _ => rfl)) (pe_tup (pa_cons (pv 12) (pa_cons (pv 13) pa_nil))) (fun _ _ => rfl))) (pv 9) (nomark _)) 
          (pss_cons (ps_expr (pe_bm PySem.F.plainAttrs_list PySem.F.slot_list_append PySem.F.type_list_append mt_append (pv 5) (pa_cons (pv 10) pa_nil))) 
          (pss_cons (ps_par3 (i := 6) (j := 7) (l := 8) rfl sc_p_shortest.nd rfl rfl rfl (by decide) (by decide) (by decide) rfl rfl rfl (pa_cons (pe_op op_add (pv 6) (pv 11)) (pa_cons (pv 12) (pa_cons (pv 13) pa_nil))) (by rfl)) 
          (pss_one ps_break))) pss_nil)))))) 
    (pss_one (ps_ret (pv 5))))))))), ?_⟩
    refine ⟨_, rfl, _, rfl, _, rfl, t, one, two, tx, most, rfl, hT, hs, hm0, hm1, by omega, fun H1 rp ps s1 hrp R1 => ?_⟩
    refine ⟨Nat.zero_le _, fun o ho => ?_⟩
    have hoN := s1.free ho
    have hrpo : rp ≠ o := ne_of_none R1.lst ho
    have s2 := s1.trans (Same.new (o := .lst []) ho)
    have R2 := R1.same (Same.new (o := .lst []) ho)
    have eo : (upd H1 o (.lst [])) o = some (.lst (Ints [])) := upd_same
    generalize upd H1 o (.lst []) = H2 at s2 R2 eo ⊢
    refine ⟨_, rfl, fun m σ H' => ∃ (i : Nat) (now left : Int) (L : List Int) (y9 y10 y11 y12 y13 : Option V), m = (Lf one two most (tx.drop i) now left).toNat ∧ σ = [some (.ref t), some (.str (S tx)), some (.int st), some (.int most), some (.ref rp), some (.ref o), some (.int (i : Nat)), some (.int now), some (.int left), y9, y10, y11, y12, y13] ∧
      i ≤ tx.length ∧ Same H H' ∧ RowsAt H' rp ps one two most tx ∧ H' o = some (.lst (Ints L)) ∧ Bit now ∧ -1 ≤ left ∧ left ≤ most ∧ (L.length : Int) + Lf one two most (tx.drop i) now left = Lf one two most tx st (-1) ∧
      ∀ R, Best one two most now left (tx.drop i) R → Best one two most st (-1) tx (L ++ R), ⟨_, 0, st, -1, [], none, none, none, none, none, rfl, rfl, Nat.zero_le _, s2, R2, eo, hb, by decide, hm0, by simp, fun R hR => hR⟩, ?_⟩
    rintro m σ H' ⟨i, now, left, L, y9, y10, y11, y12, y13, rfl, rfl, hi, sm, hR, eo, hbn, hl0, hl1, hlen, hall⟩
    refine ⟨_, rfl, _, rfl, _, rfl, small_le (by rw [S_len]; omega), _, _, rfl, rfl, _, rfl, ite2 (fun h => ?_) (fun h => ?_)⟩
    · have h' : (i : Int) < ((S tx).length : Int) := of_decide_eq_true h
      rw [S_len] at h'
      have hlt : i < tx.length := by omega
      obtain ⟨s, hs', hd⟩ : ∃ s, tx[i]? = some s ∧ tx.drop i = s :: tx.drop (i + 1) := ⟨tx[i], List.getElem?_eq_getElem hlt, (List.getElem_cons_drop (i := i) (h := hlt)).symm⟩
      have hstd : Stands one two (s :: tx.drop (i + 1)) := fun c hc => hst c (by rw [← hd] at hc; exact List.mem_of_mem_drop hc)
      have hld : (s :: tx.drop (i + 1)).length ≤ 300 := by
        rw [← hd, List.length_drop]
        omega
      have hdr : ∀ k : Nat, k = 0 ∨ k = 1 → (s :: tx.drop (i + 1)).drop k = tx.drop (i + k) := by
        rintro k (rfl | rfl)
        · exact hd.symm
        · rfl
      have hpos : 1 ≤ Lf one two most (tx.drop i) now left := by
        rw [hd]
        exact Lf_pos
      obtain ⟨ra, hra1, hra2⟩ := hR.get hi
      refine ⟨fun σ' H'' => ∃ m', m' < (Lf one two most (tx.drop i) now left).toNat ∧ ∃ (i' : Nat) (now' left' : Int) (L' : List Int) (y9 y10 y11 y12 y13 : Option V), m' = (Lf one two most (tx.drop i') now' left').toNat ∧ σ' = [some (.ref t), some (.str (S tx)), some (.int st), some (.int most), some (.ref rp), some (.ref o), some (.int (i' : Nat)), some (.int now'), some (.int left'), y9, y10, y11, y12, y13] ∧
        i' ≤ tx.length ∧ Same H H'' ∧ RowsAt H'' rp ps one two most tx ∧ H'' o = some (.lst (Ints L')) ∧ Bit now' ∧ -1 ≤ left' ∧ left' ≤ most ∧ (L'.length : Int) + Lf one two most (tx.drop i') now' left' = Lf one two most tx st (-1) ∧
        ∀ R, Best one two most now' left' (tx.drop i') R → Best one two most st (-1) tx (L' ++ R), fun σ' H'' h => h, ?_⟩
      refine ⟨_, rfl, _, rfl, rp, _, (i : Int), _, rfl, rfl, SqL.of hR.lst, atI_nat hra1, _, rfl, _, rfl, (by show 2 ≤ sizeLine; decide), fun z hz => ?_⟩
      have sz := Same.new (o := .tup [.int now, .int left]) hz
      have ez : (upd H' z (.tup [.int now, .int left])) z = some (.tup [.int now, .int left]) := upd_same
      have hR3 := hR.same sz
      have s3 := sm.trans sz
      have eo3 := sz _ _ eo
      have hra3 := sz _ _ hra2
      generalize upd H' z (.tup [.int now, .int left]) = H3 at ez hR3 s3 eo3 hra3 ⊢
      refine ⟨ra, _, rfl, dget_row (.inl hra3) ez (hmem.mpr ⟨hbn, hl0, hl1⟩), ?_⟩
      refine ⟨_, rfl, _, rfl, _, rfl, _, _, _, rfl, rfl, small_le (by rw [S_len]; omega), atI_nat (j := i) (by show tx.toArray.toList[i]? = _; exact hs'), _, rfl, _, rfl, _, rfl, t, one, two, s, now, left, most, rfl, s3 _ _ hT, hs, hbn, fun H4 f fs s4 hf F4 => ?_⟩
      have hR4 := hR3.same s4
      have s5 := s3.trans s4
      have eo4 := s4 _ _ eo3
      refine ⟨f, rfl, ⟨_, SqL.of F4.lst⟩, for_list (xs := fs.map V.ref) (fun j σ H' => ∃ y10 y11 y12 y13, σ = [some (.ref t), some (.str (S tx)), some (.int st), some (.int most), some (.ref rp), some (.ref o), some (.int (i : Nat)), some (.int now), some (.int left), some (.int (Lf one two most (tx.drop i) now left)), y10, y11, y12, y13] ∧ Same H H' ∧ Same H4 H' ∧
        ∀ (j' : Nat) (y : Row4), j' < j → (stepL one two s now left most)[j']? = some y → 1 + Lf one two most ((s :: tx.drop (i + 1)).drop y.2.1.toNat) y.2.2.1 y.2.2.2 ≠ Lf one two most (s :: tx.drop (i + 1)) now left) ⟨_, _, _, _, rfl, s5, Same.refl _, fun j' y h => absurd h (Nat.not_lt_zero _)⟩ ?_ ?_ ?_⟩
      · rintro j σ H' _ ⟨_, _, _, _, rfl, _, k, _⟩
        exact SqL.of (k _ _ F4.lst)
      · rintro j x σ H' hx ⟨y10, y11, y12, y13, rfl, sm5, k5, hno⟩
        obtain ⟨a, rfl, ha⟩ : ∃ a, x = V.ref a ∧ fs[j]? = some a := by
          rw [List.getElem?_map] at hx
          cases e : fs[j]? with
          | none => rw [e] at hx; cases hx
          | some a => rw [e] at hx; cases hx; exact ⟨a, rfl, rfl⟩
        obtain ⟨⟨c, rd, tl, kp⟩, hxj, ea⟩ := F4.at' j a ha
        obtain ⟨hrd, hbt, hk0, hk1⟩ := step_reads hs hbn ⟨hl0, hl1⟩ hxj
        simp only at hrd hbt hk0 hk1
        obtain ⟨r, rfl, hr01⟩ : ∃ r : Nat, rd = (r : Int) ∧ (r = 0 ∨ r = 1) := by
          rcases hrd with rfl | rfl
          · exact ⟨0, rfl, .inl rfl⟩
          · exact ⟨1, rfl, .inr rfl⟩
        have hir : i + r ≤ tx.length := by omega
        have hR5 := hR4.same k5
        obtain ⟨rb, hrb1, hrb2⟩ := hR5.get hir
        refine ⟨a, _, rfl, SqT.of (k5 _ _ ea), rfl, _, _, rfl, _, _, rfl, _, _, rfl, _, _, rfl, rfl, ?_⟩
        refine ⟨_, rfl, _, rfl, _, rfl, _, _, rfl, rfl, rp, _, ((i + r : Nat) : Int), _, rfl, rfl, SqL.of hR5.lst, atI_nat hrb1, _, rfl, _, rfl, (by show 2 ≤ sizeLine; decide), fun z hz => ?_⟩
        have sz := Same.new (o := .tup [.int tl, .int kp]) hz
        have ez : (upd H' z (.tup [.int tl, .int kp])) z = some (.tup [.int tl, .int kp]) := upd_same
        have hR6 := hR5.same sz
        have s6 := sm5.trans sz
        have k6 := k5.trans sz
        have hrb6 := sz _ _ hrb2
        generalize upd H' z (.tup [.int tl, .int kp]) = H6 at ez hR6 s6 k6 hrb6 ⊢
        refine ⟨rb, _, rfl, dget_row (.inl hrb6) ez (hmem.mpr ⟨hbt, hk0, hk1⟩), _, _, rfl, rfl, _, rfl, rfl, _, rfl, ?_⟩
        have eo6 := k6 _ _ eo4
        rw [dec_int]
        by_cases he : 1 + Lf one two most (tx.drop (i + r)) tl kp = Lf one two most (tx.drop i) now left
        · rw [decide_eq_true he]
          have hLl : L.length ≤ 900 := by omega
          have hnn := Lf_nonneg one two most (tx.drop (i + r)) tl kp
          refine iteT ⟨_, rfl, .inl ⟨rfl, _, SqL.of eo6⟩, _, rfl, o, _, _, rfl, rfl, eo6, small1000 (by rw [List.length_map]; omega), ?_⟩
          refine ⟨_, rfl, _, rfl, _, _, rfl, rfl, _, rfl, _, rfl, _, _, _, rfl, ?_⟩
          refine ⟨_, ?_, i + r, tl, kp, L ++ [c], _, _, _, _, _, rfl, rfl, hir, Same.mut s6 hoN, ?_, ?_, hbt, hk0, hk1, ?_, ?_⟩
          · omega
          · refine ⟨?_, hR6.len, fun j' b eb => ?_⟩
            · have h7 := hR6.lst
              rw [upd_ne hrpo]
              exact h7
            · have h7 := hR6.at' j' b eb
              rw [upd_ne (fun z => by rw [z, eo6] at h7; cases h7)]
              exact h7
          · rw [upd_same, ints_snoc]
          · rw [List.length_append, List.length_singleton]
            omega
          · intro R hB
            rw [List.append_assoc]
            refine hall _ ?_
            rw [hd]
            rw [hd] at he
            have hB2 := best_step hs (x := (c, ((r : Nat) : Int), tl, kp)) hbn hstd (by omega) ⟨hl0, hl1⟩ hxj (by
              show 1 + Lf one two most ((s :: tx.drop (i + 1)).drop ((r : Nat) : Int).toNat) tl kp = _
              rw [Int.toNat_natCast, hdr r hr01]
              exact he) hno (R := R) (by
              show Best one two most tl kp ((s :: tx.drop (i + 1)).drop ((r : Nat) : Int).toNat) R
              rw [Int.toNat_natCast, hdr r hr01]
              exact hB)
            exact hB2
        · rw [decide_eq_false he]
          refine iteF ⟨_, _, _, _, rfl, s6, k6, fun j' y hj' hy => ?_⟩
          by_cases hjj : j' < j
          · exact hno j' y hjj hy
          · have : j' = j := by omega
            subst this
            rw [hxj] at hy
            cases hy
            show 1 + Lf one two most ((s :: tx.drop (i + 1)).drop ((r : Nat) : Int).toNat) tl kp ≠ _
            rw [Int.toNat_natCast, hdr r hr01, ← hd]
            exact he
      · rintro σ H' ⟨y10, y11, y12, y13, rfl, sm5, k5, hno⟩
        exfalso
        rw [List.length_map, F4.len] at hno
        have hlt' : ∀ {j' : Nat} {y : Row4}, (stepL one two s now left most)[j']? = some y → j' < (stepL one two s now left most).length := fun h => (List.getElem?_eq_some_iff.mp h).1
        rcases Lf_attain (most := most) (left := left) hbn hstd (by rw [List.length_cons] at hld; omega) with ⟨c, l, hc, e⟩ | ⟨k, hk, e⟩
        · obtain ⟨j', hj⟩ := step_has.1 c l hc
          exact hno j' _ (hlt' hj) hj e.symm
        · obtain ⟨j', hj⟩ := step_has.2 k hk
          exact hno j' _ (hlt' hj) hj e.symm
    · have h' : ¬ (i : Int) < ((S tx).length : Int) := of_decide_eq_false (by simpa using h)
      rw [S_len] at h'
      have hd : tx.drop i = [] := List.drop_of_length_le (by omega)
      rw [hd] at hall
      have := hall [] best_nil
      rw [List.append_nil] at this
      exact ⟨_, rfl, q _ o L sm hoN this eo⟩

def spGuarded : Sp := fun vs H Q _ => ∃ (t : Addr) (one two tx : List Nat) (st most : Int), vs = [.ref t, .str (S tx), .int st, .int most] ∧ SetsAt H t one two ∧ Sets one two ∧ Bit st ∧ Stands one two tx ∧ tx.length ≤ 300 ∧ 0 ≤ most ∧ most ≤ 20 ∧
  ∀ H' p R, Same H H' → H p = none → Best one two most st (-1) tx R → H' p = some (.lst (Ints R)) → Q (.ref p) H'
theorem ok_p_guarded (T : Txt K mg) : FnOk P w K mg base CX0 6 T.a_p_guarded T.d_p_guarded ["sets", "text", "state", "most"] spGuarded := by
  refine T.F_p_guarded.ok sc_p_guarded (fun vs H Q E h => ?_) (fun cdv A outer s H vs Q E hr h => ?_)
  · obtain ⟨t, one, two, tx, st, most, rfl, _⟩ := h
    rfl
  · obtain ⟨t, one, two, tx, st, most, rfl, hT, hs, hb, hst, hl, hm0, hm1, q⟩ := h
    refine ⟨_,
    (pss_cons (ps_expr (pe_call (ok_p_check_sets T) (hr.mono (by decide)) (by rfl) T.g_p_check_sets T.F_p_check_sets.kp T.b_p_check_sets .nil pass0 (pa_cons (pv 0) pa_nil))) 
    (pss_cons (ps_expr (pe_call (ok_p_check_text T) (hr.mono (by decide)) (by rfl) T.g_p_check_text T.F_p_check_text.kp T.b_p_check_text .nil pass0 (pa_cons (pv 0) (pa_cons (pv 1) pa_nil)))) 
    (pss_cons (ps_expr (pe_call (ok_p_check_state T) (hr.mono (by decide)) (by rfl) T.g_p_check_state T.F_p_check_state.kp T.b_p_check_state .nil pass0 (pa_cons (pv 2) pa_nil))) 
    (pss_cons (ps_if (pt_not (pt_chain op_le op_le pe_int (pv 3) (pe_glob (v := .int 20) (by rfl) T.c_MOST_SPOILT ⟨_, rfl⟩))) 
      (pss_one ps_never) pss_nil) 
    (pss_one (ps_ret (pe_call (ok_p_shortest T) (hr.mono (by decide)) (by rfl) T.g_p_shortest T.F_p_shortest.kp T.b_p_shortest .nil pass0 (pa_cons (pv 0) (pa_cons (pv 1) (pa_cons (pv 2) (pa_cons (pv 3) pa_nil))))))))))), ?_⟩
    refine ⟨_, rfl, t, one, two, rfl, hT, hs, ?_⟩
    refine ⟨_, rfl, _, rfl, t, one, two, tx, rfl, hT, hs, hst, fun H1 s1 => ?_⟩
    refine ⟨_, rfl, st, rfl, hb, fun H2 s2 => ?_⟩
    have s3 := s1.trans s2
    refine ⟨_, rfl, _, _, rfl, rfl, _, rfl, ?_⟩
    rw [decide_eq_true hm0]
    refine iteT ⟨_, _, rfl, rfl, _, rfl, ?_⟩
    rw [decide_eq_true hm1]
    refine iteF ?_
    exact ⟨_, rfl, _, rfl, _, rfl, _, rfl, t, one, two, tx, st, most, rfl, s3 _ _ hT, hs, hb, hst, by omega, by omega, hl, fun H4 p R s4 hp hB e => q H4 p R (s3.trans s4) (s3.free hp) hB e⟩

/-- a row of the sets -/
def Row (one two row : List Nat) : Prop := row = one ∨ row = two
theorem Row.len {one two row : List Nat} (h : Row one two row) (hs : Sets one two) : 1 ≤ row.length ∧ row.length ≤ 10 := by
  have h1 := hs.pos
  have h2 := hs.top
  have h3 := hs.same
  rcases h with rfl | rfl <;> omega
theorem Row.mem {one two row : List Nat} (h : Row one two row) {c : Nat} (hc : c ∈ row) : c ∈ one ∨ c ∈ two := by
  rcases h with rfl | rfl
  · exact .inl hc
  · exact .inr hc
theorem Stands.snoc {one two tx : List Nat} {c : Nat} (h : Stands one two tx) (hc : c ∈ one ∨ c ∈ two) : Stands one two (tx ++ [c]) := by
  intro x hx
  rcases List.mem_append.mp hx with hx | hx
  · exact h x hx
  · rw [List.mem_singleton.mp hx]
    exact hc
theorem S_snoc (tx : List Nat) (c : Nat) : S tx ++ ⟨#[c]⟩ = S (tx ++ [c]) := S_cat tx [c]
theorem sign_in {row : List Nat} {k : Int} (h0 : 0 ≤ k) (h1 : k < (row.length : Int)) : row.getD k.toNat 0 ∈ row := by
  have hlt : k.toNat < row.length := by omega
  rw [List.getD_eq_getElem?_getD, List.getElem?_eq_getElem hlt]
  exact List.getElem_mem hlt
def spText : Sp := fun vs H Q _ => ∃ (d t : Addr) (ds : List Int) (one two : List Nat) (m : Int), vs = [.ref d, .ref t, .int m] ∧ H d = some (.lst (Ints ds)) ∧ Dice ds ∧ SetsAt H t one two ∧ Sets one two ∧ 0 ≤ m ∧ m ≤ 200 ∧
  ∀ H' ds' tx, Keep d H H' → H' d = some (.lst (Ints ds')) → Dice ds' → Stands one two tx → (tx.length : Int) ≤ m → Q (.str (S tx)) H'
theorem ok_l_text (T : Txt K mg) : FnOk P w K mg base CX0 2 T.a_l_text T.d_l_text ["_law_d", "_law_sets_here", "_law_most"] spText := by
  refine T.F_l_text.ok sc_l_text (fun vs H Q E h => ?_) (fun cdv A outer s H vs Q E hr h => ?_)
  · obtain ⟨d, t, ds, one, two, m, rfl, _⟩ := h
    rfl
  · obtain ⟨d, t, ds, one, two, m, rfl, hd, hD, hT, hs, hm0, hm1, q⟩ := h
    have htd : t ≠ d := ne_of hT hd (by intro z; cases z)
    refine ⟨_,
    (pss_cons (ps_set (i := 3) sc_l_text.nd rfl (Or.inl rfl) pe_str) 
    (pss_cons (ps_set (i := 4) sc_l_text.nd rfl (Or.inl rfl) (pe_ix ix_tup (pv 1) pe_int (fun _ _ => rfl))) 
    (pss_cons (ps_for PassesOwn.never rfl (pi_range1 (by rfl) T.m_range (pa_cons (pe_call (ok_l_offK T) (hr.mono (by decide)) (by rfl) T.g_l_off T.F_l_off.kp T.b_l_off .nil pass0 (pa_cons (pv 0) (pa_cons (pe_op op_add (pv 2) pe_int) pa_nil))) pa_nil)) (pg_name (i := 5) sc_l_text.nd rfl (Or.inl rfl)) 
      (C8.pss_cut (ps_if (pt_cmpR op_eq (pe_call (ok_l_offK T) (hr.mono (by decide)) (by rfl) T.g_l_off T.F_l_off.kp T.b_l_off .nil pass0 (pa_cons (pv 0) (pa_cons pe_int pa_nil))) pe_int (nomark _)) 
        (pss_one (ps_set (i := 4) sc_l_text.nd rfl (Or.inl rfl) (pe_ix ix_tup (pv 1) (pe_call (ok_l_offK T) (hr.mono (by decide)) (by rfl) T.g_l_off T.F_l_off.kp T.b_l_off .nil pass0 (pa_cons (pv 0) (pa_cons pe_int pa_nil))) (fun _ _ => rfl)))) pss_nil) 
      (pss_one (ps_set (i := 3) sc_l_text.nd rfl (Or.inl rfl) (pe_op op_add_str (pv 3) (pe_ix ix_str (pv 4) (pe_call (ok_l_offK T) (hr.mono (by decide)) (by rfl) T.g_l_off T.F_l_off.kp T.b_l_off .nil pass0 (pa_cons (pv 0) (pa_cons (pe_callB call_len_str (by rfl) T.m_len PySem.boot_len (pa_cons (pv 4) pa_nil)) pa_nil))) (fun _ _ => rfl))))))) 
    (pss_one (ps_ret (pv 3)))))), ?_⟩
    refine ⟨_, rfl, t, _, 0, _, rfl, rfl, SqT.of hT, atI_nat (j := 0) rfl, ?_⟩
    refine ⟨_, rfl, _, rfl, _, _, rfl, rfl, d, ds, _, rfl, hd, hD, by omega, by omega, fun k1 ds1 H1 hk0 hk1 hD1 kp1 e1 => ?_⟩
    refine ⟨k1, rfl, by omega, by omega, for_range (n := k1.toNat) (fun i σ H' => ∃ (tx row : List Nat) (y5 : Option V) (ds' : List Int), σ = [some (.ref d), some (.ref t), some (.int m), some (.str (S tx)), some (.str (S row)), y5] ∧ Keep d H H' ∧ H' d = some (.lst (Ints ds')) ∧ Dice ds' ∧
      Row one two row ∧ Stands one two tx ∧ tx.length = i) ⟨[], one, none, ds1, rfl, kp1, e1, hD1, .inl rfl, by simp [Stands], rfl⟩ ?_ ?_⟩
    · rintro i σ H' hi ⟨tx, row, y5, ds', rfl, kp, ed, hD', hrow, hst, hl⟩
      refine ⟨fun σ' H'' => ∃ (row : List Nat) (ds' : List Int), σ' = [some (.ref d), some (.ref t), some (.int m), some (.str (S tx)), some (.str (S row)), some (.int (0 + (i : Nat)))] ∧ Keep d H H'' ∧ H'' d = some (.lst (Ints ds')) ∧ Dice ds' ∧ Row one two row, ?_, ?_⟩
      · refine ⟨_, rfl, d, ds', 3, rfl, ed, hD', by decide, by decide, fun k2 ds2 H2 hk2 hk3 hD2 kp2 e2 => ?_⟩
        have kp2' := kp.trans kp2
        refine ⟨rfl, _, rfl, ite2 (fun h => ?_) (fun h => ?_)⟩
        · refine ⟨_, rfl, _, rfl, d, ds2, 2, rfl, e2, hD2, by decide, by decide, fun k3 ds3 H3 hk4 hk5 hD3 kp3 e3 => ?_⟩
          have kp3' := kp2'.trans kp3
          have hb : Bit k3 := by unfold Bit; omega
          refine ⟨t, _, k3, _, rfl, rfl, SqT.of (kp3' _ _ htd hT), at_sets hb, _, ds3, rfl, kp3', e3, hD3, ?_⟩
          rcases hb with rfl | rfl
          · exact .inl rfl
          · exact .inr rfl
        · exact ⟨row, ds2, rfl, kp2', e2, hD2, hrow⟩
      · rintro σ' H2 ⟨row, ds', rfl, kp, ed, hD', hrow⟩
        obtain ⟨hr1, hr2⟩ := hrow.len hs
        refine ⟨_, rfl, _, rfl, _, rfl, _, rfl, _, rfl, small_le (by rw [S_len]; omega), d, ds', _, rfl, ed, hD', (by rw [S_len]; omega), (by rw [S_len]; omega), fun k3 ds3 H3 hk4 hk5 hD3 kp3 e3 => ?_⟩
        rw [S_len] at hk5
        refine ⟨_, _, _, rfl, rfl, small_le (by rw [S_len]; omega), at_sign hk4 hk5, _, _, rfl, rfl, ?_, ?_⟩
        · show (S tx).length + 1 ≤ sizeLine
          exact small_le (by rw [S_len]; omega)
        · refine ⟨tx ++ [row.getD k3.toNat 0], row, _, ds3, by rw [← S_snoc]; rfl, kp.trans kp3, e3, hD3, hrow, hst.snoc (hrow.mem (sign_in hk4 hk5)), by simp [hl]⟩
    · rintro σ H' ⟨tx, row, y5, ds', rfl, kp, ed, hD', hrow, hst, hl⟩
      exact ⟨_, rfl, q H' ds' tx kp ed hD' hst (by omega)⟩

def spRuns : Sp := fun vs H Q _ => ∃ (d t : Addr) (ds : List Int) (one two : List Nat), vs = [.ref d, .ref t] ∧ H d = some (.lst (Ints ds)) ∧ Dice ds ∧ SetsAt H t one two ∧ Sets one two ∧
  ∀ H' ds' tx, Keep d H H' → H' d = some (.lst (Ints ds')) → Dice ds' → Stands one two tx → tx.length ≤ 40 → Q (.str (S tx)) H'
theorem at_three {a b c : V} {k : Int} (h0 : 0 ≤ k) (h1 : k < 3) : ∃ v, atI [a, b, c] k = some v ∧ (v = a ∨ v = b ∨ v = c) := by
  have : k = 0 ∨ k = 1 ∨ k = 2 := by omega
  rcases this with rfl | rfl | rfl
  · exact ⟨a, atI_nat (j := 0) rfl, .inl rfl⟩
  · exact ⟨b, atI_nat (j := 1) rfl, .inr (.inl rfl)⟩
  · exact ⟨c, atI_nat (j := 2) rfl, .inr (.inr rfl)⟩
/-- a row of signs that stand in a set, ten at the most -/
def Signy (one two row : List Nat) : Prop := (∀ c ∈ row, c ∈ one ∨ c ∈ two) ∧ row.length ≤ 10
/-- the signs that both sets have at one code -/
def bothL (one two : List Nat) : Nat → List Nat
  | 0 => []
  | n + 1 => bothL one two n ++ if one.getD n 0 = two.getD n 0 then [one.getD n 0] else []
theorem both_len (one two : List Nat) : ∀ n, (bothL one two n).length ≤ n
  | 0 => by simp [bothL]
  | n + 1 => by
    have := both_len one two n
    rw [bothL, List.length_append]
    split <;> simp <;> omega
theorem both_mem {one two : List Nat} : ∀ {n c : Nat}, n ≤ one.length → c ∈ bothL one two n → c ∈ one
  | 0, _, _, h => by simp [bothL] at h
  | n + 1, c, hn, h => by
    rw [bothL, List.mem_append] at h
    rcases h with h | h
    · exact both_mem (by omega) h
    · split at h
      · rw [List.mem_singleton.mp h, List.getD_eq_getElem?_getD, List.getElem?_eq_getElem (by omega)]
        exact List.getElem_mem _
      · simp at h
theorem ok_l_runs (T : Txt K mg) : FnOk P w K mg base CX0 2 T.a_l_runs T.d_l_runs ["_law_d", "_law_sets_here"] spRuns := by
  refine T.F_l_runs.ok sc_l_runs (fun vs H Q E h => ?_) (fun cdv A outer s H vs Q E hr h => ?_)
  · obtain ⟨d, t, ds, one, two, rfl, _⟩ := h
    rfl
  · obtain ⟨d, t, ds, one, two, rfl, hd, hD', hT, hs, q⟩ := h
    have htd : t ≠ d := ne_of hT hd (by intro z; cases z)
    have h2 := hs.same
    have htp := hs.top
    refine ⟨_,
    (pss_cons (ps_set (i := 2) sc_l_runs.nd rfl (Or.inl rfl) pe_str) 
    (pss_cons (ps_set (i := 4) sc_l_runs.nd rfl (Or.inl rfl) (pe_join pe_str (pe_lc (own := [("_law_k", 3)]) (g := gName 3) rfl sc_l_runs.nd (pi_range1 (by rfl) T.m_range (pa_cons (pe_callB call_len_str (by rfl) T.m_len PySem.boot_len (pa_cons (pe_ix ix_tup (pv 1) pe_int (fun _ _ => rfl)) pa_nil)) pa_nil)) (blkOk_by (own := [("_law_k", 3)]) (N := n_l_runs) (sc := (defScope s_l_runs)) (by decide +kernel)) (fun _ _ _ _ _ => (pg_name (i := 3) sc_l_runs.nd rfl (Or.inl rfl))) (fun _ _ _ _ _ => (pts_one (pt_cmpR op_eq (pe_ix ix_str (pe_ix (ix_tup : IxR _ (rIxT K)) (pv 1) pe_int (fun _ _ => rfl)) (pv 3) (fun _ _ => rfl)) (pe_ix ix_str (pe_ix (ix_tup : IxR _ (rIxT K)) (pv 1) pe_int (fun _ _ => rfl)) (pv 3) (fun _ _ => rfl)) (nomark _)))) (fun _ _ _ _ _ => (pe_ix ix_str (pe_ix (ix_tup : IxR _ (rIxT K)) (pv 1) pe_int (fun _ _ => rfl)) (pv 3) (fun _ _ => rfl)))))) 
    (pss_cons (ps_for PassesOwn.never rfl (pi_range1 (by rfl) T.m_range (pa_cons (pe_op op_add pe_int (pe_call (ok_l_offK T) (hr.mono (by decide)) (by rfl) T.g_l_off T.F_l_off.kp T.b_l_off .nil pass0 (pa_cons (pv 0) (pa_cons pe_int pa_nil)))) pa_nil)) (pg_name (i := 5) sc_l_runs.nd rfl (Or.inl rfl)) 
      (pss_cons (ps_set (i := 6) sc_l_runs.nd rfl (Or.inl rfl) (pe_ix ix_list (pe_lst (pa_cons (pe_ix ix_tup (pv 1) pe_int (fun _ _ => rfl)) (pa_cons (pe_ix ix_tup (pv 1) pe_int (fun _ _ => rfl)) (pa_cons (pv 4) pa_nil)))) (pe_call (ok_l_offK T) (hr.mono (by decide)) (by rfl) T.g_l_off T.F_l_off.kp T.b_l_off .nil pass0 (pa_cons (pv 0) (pa_cons pe_int pa_nil))) (fun _ _ => rfl))) 
      (pss_one (ps_for PassesOwn.never rfl (pi_range1 (by rfl) T.m_range (pa_cons (pe_op op_add pe_int (pe_call (ok_l_offK T) (hr.mono (by decide)) (by rfl) T.g_l_off T.F_l_off.kp T.b_l_off .nil pass0 (pa_cons (pv 0) (pa_cons (pe_ix ix_list (pe_lst (pa_cons pe_int (pa_cons pe_int pa_nil))) (pe_call (ok_l_offK T) (hr.mono (by decide)) (by rfl) T.g_l_off T.F_l_off.kp T.b_l_off .nil pass0 (pa_cons (pv 0) (pa_cons pe_int pa_nil))) (fun _ _ => rfl)) pa_nil)))) pa_nil)) (pg_name (i := 3) sc_l_runs.nd rfl (Or.inl rfl)) 
        (pss_one (ps_if (PW.pt (pw_and (pt_cmpR op_ne (pv 6) pe_str (nomark _)) (pw_and1 (pt_cmpR op_lt (pe_callB call_len_str (by rfl) T.m_len PySem.boot_len (pa_cons (pv 2) pa_nil)) pe_int (nomark _))))) 
          (pss_one (ps_set (i := 2) sc_l_runs.nd rfl (Or.inl rfl) (pe_op op_add_str (pv 2) (pe_ix ix_str (pv 6) (pe_call (ok_l_offK T) (hr.mono (by decide)) (by rfl) T.g_l_off T.F_l_off.kp T.b_l_off .nil pass0 (pa_cons (pv 0) (pa_cons (pe_callB call_len_str (by rfl) T.m_len PySem.boot_len (pa_cons (pv 6) pa_nil)) pa_nil))) (fun _ _ => rfl))))) pss_nil)))))) 
    (pss_one (ps_ret (pv 2)))))), ?_⟩
    refine ⟨⟨_, rfl⟩, _, rfl, t, _, 0, _, rfl, rfl, SqT.of hT, atI_nat (j := 0) rfl, _, rfl, small_le (by rw [S_len]; omega), _, rfl, by omega, by rw [S_len]; omega, fun D hD => lc_range (lo := 0) (n := ((S one).length : Int).toNat) (fun j H' => H' D = some (.lst (Sgs (bothL one two j))) ∧ Same H H') ⟨upd_same, Same.new hD⟩ ?_ ?_⟩
    · rintro j H' hj ⟨eD, sm⟩
      rw [Int.toNat_natCast, S_len] at hj
      have zj : (0 : Int) + (j : Nat) = ((j : Nat) : Int) := Int.zero_add _
      rw [zj]
      refine ⟨rfl, _, rfl, t, _, 0, _, rfl, rfl, SqT.of (sm _ _ hT), atI_nat (j := 0) rfl, _, rfl, _, _, _, rfl, rfl, small_le (by rw [S_len]; omega), at_sign (by omega) (by omega), _, rfl, t, _, 1, _, rfl, rfl, SqT.of (sm _ _ hT), atI_nat (j := 1) rfl, _, rfl, _, _, _, rfl, rfl, small_le (by rw [S_len]; omega), at_sign (by omega) (by omega), rfl, _, rfl, ?_⟩
      rw [dec_sg, Int.toNat_natCast]
      by_cases he : one.getD j 0 = two.getD j 0
      · rw [decide_eq_true he]
        refine iteT ⟨_, rfl, t, _, 0, _, rfl, rfl, SqT.of (sm _ _ hT), atI_nat (j := 0) rfl, _, rfl, _, _, _, rfl, rfl, small_le (by rw [S_len]; omega), at_sign (by omega) (by omega), _, eD, ?_, ?_, Same.mut sm hD⟩
        · have := both_len one two j
          rw [List.length_map]
          exact small1000 (by omega)
        · rw [upd_same, bothL, if_pos he, sgs_snoc, Int.toNat_natCast]
          rfl
      · rw [decide_eq_false he]
        refine iteF ⟨?_, sm⟩
        rw [bothL, if_neg he, List.append_nil]
        exact eD
    rintro H1 ⟨eD, s1⟩
    rw [Int.toNat_natCast, S_len] at eD
    have hbl := both_len one two one.length
    have hbm : ∀ c ∈ bothL one two one.length, c ∈ one := fun c hc => both_mem (Nat.le_refl _) hc
    generalize bothL one two one.length = cm at eD hbl hbm
    have e1 := s1 _ _ hd
    refine ⟨S [], D, cm.map (fun c => S [c]), rfl, rfl, .inl (SqL.of (by rw [← Sgs_eq]; exact eD)), ?_, ?_⟩
    · rw [len_sgs, List.length_map, S_len]
      simp
      omega
    rw [join_sgs]
    refine ⟨_, rfl, d, ds, 4, rfl, e1, hD', by decide, by decide, fun k1 ds1 H2 hk0 hk1 hD1 kp1 e1 => ?_⟩
    have kA : Keep d H H2 := (Keep.same s1).trans kp1
    refine ⟨_, _, rfl, rfl, 1 + k1, rfl, by omega, by omega, for_range (n := (1 + k1).toNat) (fun i σ H' => ∃ (tx : List Nat) (y3 y5 y6 : Option V) (ds' : List Int), σ = [some (.ref d), some (.ref t), some (.str (S tx)), y3, some (.str (S cm)), y5, y6] ∧ Keep d H H' ∧ H' d = some (.lst (Ints ds')) ∧ Dice ds' ∧
      Stands one two tx ∧ tx.length ≤ 40) ⟨[], none, none, none, ds1, rfl, kA, e1, hD1, by simp [Stands], by simp⟩ ?_ ?_⟩
    · rintro i σ H' hi ⟨tx, y3, y5, y6, ds', rfl, kp, ed, hDd, hst, hl⟩
      have eT := kp _ _ htd hT
      refine ⟨_, rfl, t, _, 0, _, rfl, rfl, SqT.of eT, atI_nat (j := 0) rfl, _, rfl, t, _, 1, _, rfl, rfl, SqT.of eT, atI_nat (j := 1) rfl, _, rfl, (by show 3 ≤ sizeLine; decide), fun l hl' => ?_⟩
      have hdl : d ≠ l := ne_of_none ed hl'
      have sl := Same.new (o := .lst [.str (S one), .str (S two), .str (S cm)]) hl'
      have el : (upd H' l (.lst [.str (S one), .str (S two), .str (S cm)])) l = some (.lst [.str (S one), .str (S two), .str (S cm)]) := upd_same
      have ed2 := sl _ _ ed
      have kp2 := kp.trans (Keep.same sl)
      generalize upd H' l (.lst [.str (S one), .str (S two), .str (S cm)]) = H3 at el ed2 kp2 ⊢
      refine ⟨_, rfl, d, ds', 3, rfl, ed2, hDd, by decide, by decide, fun k2 ds2 H4 hk2 hk3 hD2 kp4 e4 => ?_⟩
      obtain ⟨v, hv, hvs⟩ := at_three (a := .str (S one)) (b := .str (S two)) (c := .str (S cm)) hk2 hk3
      obtain ⟨row, rfl, hrow⟩ : ∃ row, v = .str (S row) ∧ Signy one two row := by
        rcases hvs with rfl | rfl | rfl
        · exact ⟨one, rfl, fun c hc => .inl hc, htp⟩
        · exact ⟨two, rfl, fun c hc => .inr hc, by omega⟩
        · exact ⟨cm, rfl, fun c hc => .inl (hbm c hc), by omega⟩
      refine ⟨l, _, k2, _, rfl, rfl, SqL.of (kp4 _ _ (Ne.symm hdl) el), hv, ?_⟩
      have kp5 := kp2.trans kp4
      refine ⟨_, rfl, (by show 2 ≤ sizeLine; decide), fun u hu => ?_⟩
      have hdu : d ≠ u := ne_of_none e4 hu
      have su := Same.new (o := .lst [.int 4, .int 40]) hu
      have eu : (upd H4 u (.lst [.int 4, .int 40])) u = some (.lst [.int 4, .int 40]) := upd_same
      have e5 := su _ _ e4
      have kp6 := kp5.trans (Keep.same su)
      generalize upd H4 u (.lst [.int 4, .int 40]) = H5 at eu e5 kp6 ⊢
      refine ⟨_, rfl, d, ds2, 2, rfl, e5, hD2, by decide, by decide, fun k3 ds3 H6 hk4 hk5 hD3 kp7 e6 => ?_⟩
      have hb : Bit k3 := by unfold Bit; omega
      obtain ⟨m, hm, hm0, hm1⟩ : ∃ m : Int, atI [V.int 4, V.int 40] k3 = some (.int m) ∧ 1 ≤ m ∧ m ≤ 40 := by
        rcases hb with rfl | rfl
        · exact ⟨4, atI_nat (j := 0) rfl, by decide, by decide⟩
        · exact ⟨40, atI_nat (j := 1) rfl, by decide, by decide⟩
      refine ⟨u, _, k3, _, rfl, rfl, SqL.of (kp7 _ _ (Ne.symm hdu) eu), hm, ?_⟩
      have kp8 := kp6.trans kp7
      refine ⟨d, ds3, m, rfl, e6, hD3, hm0, by omega, fun k4 ds4 H7 hk6 hk7 hD4 kp9 e7 => ?_⟩
      have kp10 := kp8.trans kp9
      refine ⟨_, _, rfl, rfl, 1 + k4, rfl, by omega, by omega, for_range (n := (1 + k4).toNat) (fun j σ H' => ∃ (tx : List Nat) (y3 : Option V) (ds' : List Int), σ = [some (.ref d), some (.ref t), some (.str (S tx)), y3, some (.str (S cm)), some (.int (0 + (i : Nat))), some (.str (S row))] ∧ Keep d H H' ∧ H' d = some (.lst (Ints ds')) ∧ Dice ds' ∧
        Stands one two tx ∧ tx.length ≤ 40) ⟨tx, _, ds4, rfl, kp10, e7, hD4, hst, hl⟩ ?_ ?_⟩
      · rintro j σ H' hj ⟨tx, y3, ds', rfl, kp, ed, hDd, hst, hl⟩
        refine ⟨_, rfl, rfl, _, rfl, ?_⟩
        have hkeep : ∃ (tx' : List Nat) (y3 : Option V) (ds' : List Int), [some (V.ref d), some (.ref t), some (.str (S tx)), some (.int (0 + (j : Nat))), some (.str (S cm)), some (.int (0 + (i : Nat))), some (.str (S row))] = [some (.ref d), some (.ref t), some (.str (S tx')), y3, some (.str (S cm)), some (.int (0 + (i : Nat))), some (.str (S row))] ∧ Keep d H H' ∧ H' d = some (.lst (Ints ds')) ∧ Dice ds' ∧
          Stands one two tx' ∧ tx'.length ≤ 40 := ⟨tx, _, ds', rfl, kp, ed, hDd, hst, hl⟩
        have e0 : (V.str (Str.ofString "")) = V.str (S []) := rfl
        rw [e0, dec_str]
        by_cases hr0 : row = []
        · rw [decide_eq_true hr0]
          exact iteF hkeep
        · rw [decide_eq_false hr0]
          refine iteT ⟨_, rfl, _, rfl, small_le (by rw [S_len]; omega), _, _, rfl, rfl, _, rfl, ite2 (fun h => ?_) (fun h => ?_)⟩
          · have h' : ((S tx).length : Int) < 40 := of_decide_eq_true h
            rw [S_len] at h'
            have hrl : 1 ≤ row.length := by
              cases row with
              | nil => exact absurd rfl hr0
              | cons a b => simp
            have hr10 := hrow.2
            refine ⟨_, rfl, _, rfl, _, rfl, _, rfl, _, rfl, small_le (by rw [S_len]; omega), d, ds', _, rfl, ed, hDd, (by rw [S_len]; omega), (by rw [S_len]; omega), fun k5 ds5 H8 hk8 hk9 hD5 kp11 e8 => ?_⟩
            rw [S_len] at hk9
            refine ⟨_, _, _, rfl, rfl, small_le (by rw [S_len]; omega), at_sign hk8 hk9, _, _, rfl, rfl, ?_, ?_⟩
            · show (S tx).length + 1 ≤ sizeLine
              exact small_le (by rw [S_len]; omega)
            · exact ⟨tx ++ [row.getD k5.toNat 0], _, ds5, by rw [← S_snoc]; rfl, kp.trans kp11, e8, hD5, hst.snoc (hrow.1 _ (sign_in hk8 hk9)), by simp; omega⟩
          · exact hkeep
      · rintro σ H' ⟨tx, y3, ds', rfl, kp, ed, hDd, hst, hl⟩
        exact ⟨tx, _, _, _, ds', rfl, kp, ed, hDd, hst, hl⟩
    · rintro σ H' ⟨tx, y3, y5, y6, ds', rfl, kp, ed, hDd, hst, hl⟩
      exact ⟨_, rfl, q H' ds' tx kp ed hDd hst hl⟩

def spIsTape : Sp := fun vs H Q _ => ∃ (a t : Addr) (one two : List Nat) (tp : List Int), vs = [.ref a, .ref t] ∧ SetsAt H t one two ∧ one.length ≤ 10 ∧ H a = some (.lst (Ints tp)) ∧ Codes one.length tp ∧ tp.length ≤ 900 ∧ ∀ H', Same H H' → Q (.bl true) H'
theorem ok_l_is_tape (T : Txt K mg) : FnOk P w K mg base CX0 1 T.a_l_is_tape T.d_l_is_tape ["_law_tape", "_law_sets_here"] spIsTape := by
  refine T.F_l_is_tape.ok sc_l_is_tape (fun vs H Q E h => ?_) (fun cdv A outer s H vs Q E hr h => ?_)
  · obtain ⟨a, t, one, two, tp, rfl, _⟩ := h
    rfl
  · obtain ⟨a, t, one, two, tp, rfl, hT, hs, hA, hc, hl, q⟩ := h
    refine ⟨_,
    (pss_cons (ps_if (pt_not (pt_val (pe_callB call_isi (by rfl) T.m_isinstance (by decide +kernel) (pa_cons (pv 0) (pa_cons (pe_bltn (v := .ty "list") (by rfl) T.m_list (by decide +kernel) rfl) pa_nil))))) 
      (pss_one (ps_ret pe_bl)) pss_nil) 
    (pss_cons (ps_if (pt_cmpR (op_neD hr.units) (pe_lc (own := [("_law_code", 2)]) (g := gName 2) rfl sc_l_is_tape.nd (pi_list (pv 0)) (blkOk_by (own := [("_law_code", 2)]) (N := n_l_is_tape) (sc := (defScope s_l_is_tape)) (by decide +kernel)) (fun _ _ _ _ _ => (pg_name (i := 2) sc_l_is_tape.nd rfl (Or.inl rfl))) (fun _ _ _ _ _ => (pts_one (PW.pt (pw_or (pt_not (pt_val (pe_callB (call_isi : CallR _ _ (rIsi K)) (by rfl) T.m_isinstance (by decide +kernel) (pa_cons (pv 2) (pa_cons (pe_bltn (v := .ty "int") (by rfl) T.m_int (by decide +kernel) rfl) pa_nil))))) (pw_or1 (pt_val (pe_callB (call_isi : CallR _ _ (rIsi K)) (by rfl) T.m_isinstance (by decide +kernel) (pa_cons (pv 2) (pa_cons (pe_bltn (v := .ty "bool") (by rfl) T.m_bool (by decide +kernel) rfl) pa_nil))))))))) (fun _ _ _ _ _ => (pv 2))) (pe_lst pa_nil) (nomark _)) 
      (pss_one (ps_ret pe_bl)) pss_nil) 
    (pss_one (ps_ret (pe_cmpR (op_eqD hr.units) (pe_lc (own := [("_law_code", 2)]) (g := gName 2) rfl sc_l_is_tape.nd (pi_list (pv 0)) (blkOk_by (own := [("_law_code", 2)]) (N := n_l_is_tape) (sc := (defScope s_l_is_tape)) (by decide +kernel)) (fun _ _ _ _ _ => (pg_name (i := 2) sc_l_is_tape.nd rfl (Or.inl rfl))) (fun _ _ _ _ _ => (pts_one (pt_not (pt_chain op_le op_lt pe_int (pv 2) (pe_op op_add (pe_callB call_len_str (by rfl) T.m_len PySem.boot_len (pa_cons (pe_ix (ix_tup : IxR _ (rIxT K)) (pv 1) pe_int (fun _ _ => rfl)) pa_nil)) pe_int))))) (fun _ _ _ _ _ => (pv 2))) (pe_lst pa_nil) (nomark _)))))), ?_⟩
    refine ⟨_, rfl, _, _, _, _, true, rfl, .ty _, (tk_ints hA (by omega)).ty, kit_ty (by dsimp only [tyN]; decide +kernel), true, rfl, iteF ?_⟩
    refine ⟨_, rfl, a, rfl, ⟨_, SqL.of hA⟩, fun D hD => lc_list (xs := Ints tp) (fun k H' => H' D = some (.lst []) ∧ Same H H') ⟨upd_same, Same.new hD⟩ ?_ ?_ ?_⟩
    · rintro k H' _ ⟨_, sm⟩
      exact SqL.of (sm _ _ hA)
    · rintro k x H' hx ⟨eD, sm⟩
      obtain ⟨c, hcx, rfl⟩ := ints_at hx
      refine ⟨rfl, _, rfl, _, _, _, _, true, rfl, .ty _, (Tk.int (H := H') c).ty, kit_ty (by dsimp only [tyN]; decide +kernel), true, rfl, iteF ⟨_, rfl, _, _, _, _, false, rfl, .ty _, (Tk.int (H := H') c).ty, kit_ty (by dsimp only [tyN]; decide +kernel), false, rfl, iteF ⟨eD, sm⟩⟩⟩
    rintro H1 ⟨eD, s1⟩
    refine ⟨(by show 0 ≤ sizeLine; decide), fun z hz => ?_⟩
    have s2 := s1.trans (Same.new (o := .lst []) hz)
    have eD2 : (upd H1 z (.lst [])) D = some (.lst (Ints [])) := (Same.new hz) _ _ eD
    have ez : (upd H1 z (.lst [])) z = some (.lst (Ints [])) := upd_same
    generalize upd H1 z (.lst []) = H2 at s2 eD2 ez ⊢
    refine ⟨dInts [], dInts [], Dp.ints eD2, Dp.ints ez, shaped_ints _, shaped_ints _, _, rfl, ?_⟩
    rw [eqv_ints, decide_eq_true rfl]
    refine iteF ?_
    refine ⟨_, rfl, a, rfl, ⟨_, SqL.of (s2 _ _ hA)⟩, fun D2 hD2 => lc_list (xs := Ints tp) (fun k H' => H' D2 = some (.lst []) ∧ Same H2 H') ⟨upd_same, Same.new hD2⟩ ?_ ?_ ?_⟩
    · rintro k H' _ ⟨_, sm⟩
      exact SqL.of (sm _ _ (s2 _ _ hA))
    · rintro k x H' hx ⟨eD, sm⟩
      obtain ⟨c, hcx, rfl⟩ := ints_at hx
      have hm := hc c (List.mem_of_getElem? hcx)
      refine ⟨rfl, _, rfl, _, _, rfl, rfl, _, rfl, ?_⟩
      rw [decide_eq_true hm.1]
      refine iteT ⟨_, rfl, t, _, 0, _, rfl, rfl, SqT.of (sm _ _ (s2 _ _ hT)), atI_nat (j := 0) rfl, _, rfl, small_le (by rw [S_len]; omega), _, _, rfl, rfl, _, _, rfl, rfl, _, rfl, ?_⟩
      rw [S_len, decide_eq_true hm.2]
      exact iteF ⟨eD, sm⟩
    rintro H3 ⟨eD3, s3⟩
    refine ⟨(by show 0 ≤ sizeLine; decide), fun u hu => ?_⟩
    have s4 := (s2.trans s3).trans (Same.new (o := .lst []) hu)
    have eD4 : (upd H3 u (.lst [])) D2 = some (.lst (Ints [])) := (Same.new hu) _ _ eD3
    have eu : (upd H3 u (.lst [])) u = some (.lst (Ints [])) := upd_same
    generalize upd H3 u (.lst []) = H4 at s4 eD4 eu ⊢
    refine ⟨dInts [], dInts [], Dp.ints eD4, Dp.ints eu, shaped_ints _, shaped_ints _, ?_⟩
    rw [eqv_ints, decide_eq_true rfl]
    exact q H4 s4

/-- a def that reads a tape: a new tuple of the text and the state behind -/
def spGone : Sp := fun vs H Q _ => ∃ (t a : Addr) (one two : List Nat) (tp : List Int) (st : Int), vs = [.ref t, .ref a, .int st] ∧ SetsAt H t one two ∧ Sets one two ∧ H a = some (.lst (Ints tp)) ∧ Codes one.length tp ∧ tp.length ≤ 1000 ∧ Bit st ∧
  ∀ H' p, Same H H' → H p = none → H' p = some (.tup [.str (S (rdT one two st tp)), .int (rdS one st tp)]) → Q (.ref p) H'
theorem ok_l_gone (T : Txt K mg) : FnOk P w K mg base CX0 1 T.a_l_gone T.d_l_gone ["_law_sets_here", "_law_tape", "_law_state"] spGone := by
  refine T.F_l_gone.ok sc_l_gone (fun vs H Q E h => ?_) (fun cdv A outer s H vs Q E hr h => ?_)
  · obtain ⟨t, a, one, two, tp, st, rfl, _⟩ := h
    rfl
  · obtain ⟨t, a, one, two, tp, st, rfl, hT, hs, hA, hc, hl, hb, q⟩ := h
    have hp := hs.pos
    have htp := hs.top
    refine ⟨_,
    (pss_cons (ps_set (i := 3) sc_l_gone.nd rfl (Or.inl rfl) pe_str) 
    (pss_cons (ps_for PassesOwn.never rfl (pi_list (pv 1)) (pg_name (i := 4) sc_l_gone.nd rfl (Or.inl rfl)) 
      (pss_one (ps_if (pt_cmpR op_ge (pv 4) (pe_callB call_len_str (by rfl) T.m_len PySem.boot_len (pa_cons (pe_ix ix_tup (pv 0) pe_int (fun _ _ => rfl)) pa_nil)) (nomark _)) 
        (pss_one (ps_set (i := 2) sc_l_gone.nd rfl (Or.inl rfl) (pe_op op_sub (pv 4) (pe_callB call_len_str (by rfl) T.m_len PySem.boot_len (pa_cons (pe_ix ix_tup (pv 0) pe_int (fun _ _ => rfl)) pa_nil))))) 
        (pss_one (ps_set (i := 3) sc_l_gone.nd rfl (Or.inl rfl) (pe_op op_add_str (pv 3) (pe_ix ix_str (pe_ix ix_tup (pv 0) (pv 2) (fun _ _ => rfl)) (pv 4) (fun _ _ => rfl)))))))) 
    (pss_one (ps_ret (pe_tup (pa_cons (pv 3) (pa_cons (pv 2) pa_nil))))))), ?_⟩
    refine ⟨_, rfl, a, rfl, ⟨_, SqL.of hA⟩, for_list (xs := Ints tp) (fun i σ H' => ∃ y4, σ = [some (.ref t), some (.ref a), some (.int (rdS one st (tp.take i))), some (.str (S (rdT one two st (tp.take i)))), y4] ∧ H = H') ⟨none, rfl, rfl⟩ ?_ ?_ ?_⟩
    · rintro i σ H' _ ⟨y4, rfl, rfl⟩
      exact SqL.of hA
    · rintro i x σ H' hx ⟨y4, rfl, rfl⟩
      rw [List.getElem?_map] at hx
      obtain ⟨c, hcx, rfl⟩ := Option.map_eq_some_iff.mp hx
      have hm := hc c (List.mem_of_getElem? hcx)
      have hbi : Bit (rdS one st (tp.take i)) := rdS_bit hb (hc.take i)
      have e1 := rdT_snoc one two c st (tp.take i)
      have e2 := rdS_snoc one c st (tp.take i)
      rw [← take_snoc hcx] at e1 e2
      have hlen := rdT_len one two st (tp.take i)
      have hi : i < tp.length := (List.getElem?_eq_some_iff.mp hcx).1
      rw [List.length_take] at hlen
      refine ⟨_, rfl, _, rfl, t, _, 0, _, rfl, rfl, SqT.of hT, atI_nat (j := 0) rfl, _, rfl, small_le (by rw [S_len]; omega), _, _, rfl, rfl, _, rfl, ite2 (fun h => ?_) (fun h => ?_)⟩
      · have h' : ((S one).length : Int) ≤ c := of_decide_eq_true h
        rw [S_len] at h'
        refine ⟨_, rfl, _, rfl, t, _, 0, _, rfl, rfl, SqT.of hT, atI_nat (j := 0) rfl, _, rfl, small_le (by rw [S_len]; omega), _, _, rfl, rfl, some (.int c), ?_, rfl⟩
        have hn : ¬ c < (one.length : Int) := by omega
        rw [e1, e2, if_neg hn, if_neg hn, S_len, List.append_nil]
        rfl
      · have h' : ¬ ((S one).length : Int) ≤ c := of_decide_eq_false (by simpa using h)
        rw [S_len] at h'
        have hk := hs.pick (rdS one st (tp.take i))
        refine ⟨_, rfl, _, rfl, _, rfl, t, _, _, _, rfl, rfl, SqT.of hT, at_sets hbi, _, rfl, _, _, _, rfl, rfl, small_le (by rw [S_len, hk]; omega), at_sign hm.1 (by rw [hk]; omega), _, _, rfl, rfl, ?_, some (.int c), ?_, rfl⟩
        · refine small_le ?_
          show (S _).length + 1 ≤ 1000
          rw [S_len]
          omega
        · have hn : c < (one.length : Int) := by omega
          rw [e1, e2, if_pos hn, if_pos hn, ← S_cat]
          rfl
    · rintro σ H' ⟨y4, rfl, rfl⟩
      rw [List.length_map, List.take_of_length_le (Nat.le_refl _)]
      refine ⟨_, rfl, _, rfl, (by show 2 ≤ sizeLine; decide), fun p hp => q _ p (Same.new hp) hp upd_same⟩

def spLLosses : Sp := fun vs H Q _ => ∃ (t a : Addr) (one two : List Nat) (tp : List Int) (st : Int), vs = [.ref t, .ref a, .int st] ∧ SetsAt H t one two ∧ Sets one two ∧ H a = some (.lst (Ints tp)) ∧ Codes one.length tp ∧ tp.length ≤ 900 ∧ Bit st ∧
  ∀ H' p, Same H H' → H p = none → H' p = some (.lst (Ints (losL one two st tp))) → Q (.ref p) H'
theorem ok_l_losses (T : Txt K mg) : FnOk P w K mg base CX0 2 T.a_l_losses T.d_l_losses ["_law_sets_here", "_law_tape", "_law_state"] spLLosses := by
  refine T.F_l_losses.ok sc_l_losses (fun vs H Q E h => ?_) (fun cdv A outer s H vs Q E hr h => ?_)
  · obtain ⟨t, a, one, two, tp, st, rfl, _⟩ := h
    rfl
  · obtain ⟨t, a, one, two, tp, st, rfl, hT, hs, hA, hc, hl, hb, q⟩ := h
    have htp := hs.top
    refine ⟨_,
    (pss_cons (ps_set (i := 3) sc_l_losses.nd rfl (Or.inr rfl) (pe_ix ix_tup (pe_call (ok_l_gone T) (hr.mono (by decide)) (by rfl) T.g_l_gone T.F_l_gone.kp T.b_l_gone .nil pass0 (pa_cons (pv 0) (pa_cons (pv 1) (pa_cons (pv 2) pa_nil)))) pe_int (fun _ _ => rfl))) 
    (pss_cons (ps_set (i := 4) sc_l_losses.nd rfl (Or.inl rfl) (pe_lst pa_nil)) 
    (pss_cons (ps_for PassesOwn.never rfl (pi_range1 (by rfl) T.m_range (pa_cons (pe_callB call_len_seq (by rfl) T.m_len PySem.boot_len (pa_cons (pv 1) pa_nil)) pa_nil)) (pg_name (i := 5) sc_l_losses.nd rfl (Or.inl rfl)) 
      (pss_cons (ps_set (i := 6) sc_l_losses.nd rfl (Or.inr rfl) (pe_ix ix_tup (pe_call (ok_l_gone T) (hr.mono (by decide)) (by rfl) T.g_l_gone T.F_l_gone.kp T.b_l_gone .nil pass0 (pa_cons (pv 0) (pa_cons (pe_op op_cat (pe_slice sl_list (pv 1) po_none (po_some (pv 5))) (pe_slice sl_list (pv 1) (po_some (pe_op op_add (pv 5) pe_int)) po_none)) (pa_cons (pv 2) pa_nil)))) pe_int (fun _ _ => rfl))) 
      (pss_cons (ps_set (i := 7) sc_l_losses.nd rfl (Or.inl rfl) pe_int) 
      (C8.pss_cut (ps_if (pt_cmpR op_ge (pe_ix ix_list (pv 1) (pv 5) (fun _ _ => rfl)) (pe_callB call_len_str (by rfl) T.m_len PySem.boot_len (pa_cons (pe_ix ix_tup (pv 0) pe_int (fun _ _ => rfl)) pa_nil)) (nomark _)) 
        (pss_one (ps_set (i := 7) sc_l_losses.nd rfl (Or.inl rfl) (pe_callB call_len_seq (by rfl) T.m_len PySem.boot_len (pa_cons (pe_lc (own := [("_law_k", 8)]) (g := gName 8) rfl sc_l_losses.nd (pi_range1 (by rfl) T.m_range (pa_cons (pe_callB call_len_str (by rfl) T.m_len PySem.boot_len (pa_cons (pv 3) pa_nil)) pa_nil)) (blkOk_by (own := [("_law_k", 8)]) (N := n_l_losses) (sc := (defScope s_l_losses)) (by decide +kernel)) (fun _ _ _ _ _ => (pg_name (i := 8) sc_l_losses.nd rfl (Or.inl rfl))) (fun _ _ _ _ _ => (pts_one (pt_cmpR op_ne (pe_ix ix_str (pv 6) (pv 8) (fun _ _ => rfl)) (pe_ix ix_str (pv 3) (pv 8) (fun _ _ => rfl)) (nomark _)))) (fun _ _ _ _ _ => (pv 8))) pa_nil)))) pss_nil) 
      (pss_one (ps_expr (pe_bm PySem.F.plainAttrs_list PySem.F.slot_list_append PySem.F.type_list_append mt_append (pv 4) (pa_cons (pv 7) pa_nil)))))))) 
    (pss_one (ps_ret (pv 4)))))), ?_⟩
    refine ⟨_, rfl, _, rfl, _, rfl, t, a, one, two, tp, st, rfl, hT, hs, hA, hc, by omega, hb, fun H1 g s1 hg eg => ?_⟩
    refine ⟨g, _, 0, _, rfl, rfl, SqT.of eg, atI_nat (j := 0) rfl, ?_⟩
    refine ⟨Nat.zero_le _, fun o ho => ?_⟩
    have hoN : H o = none := s1.free ho
    have hA1 := s1 _ _ hA
    have s2 : Same H (upd H1 o (.lst [])) := s1.trans (Same.new ho)
    have hwl := rdT_len one two st tp
    refine ⟨_, rfl, a, _, rfl, .inl (SqL.of (s2 _ _ hA)), _, rfl, by omega, by simp; omega, for_range (n := ((Ints tp).length : Int).toNat) (fun i σ H' => ∃ y5 y6 y7 y8, σ = [some (.ref t), some (.ref a), some (.int st), some (.str (S (rdT one two st tp))), some (.ref o), y5, y6, y7, y8] ∧ Same H H' ∧ H' o = some (.lst (Ints ((List.range i).map (los one two st tp))))) ⟨none, none, none, none, rfl, s2, upd_same⟩ ?_ ?_⟩
    · rintro i σ H' hi ⟨y5, y6, y7, y8, rfl, sm, eo⟩
      have hi' : i < tp.length := by simpa using hi
      have z0 : (0 : Int) + (i : Nat) = ((i : Nat) : Int) := Int.zero_add _
      rw [z0]
      refine ⟨_, rfl, _, rfl, _, rfl, _, rfl, a, _, rfl, SqL.of (sm _ _ hA), fun u hu => ?_⟩
      have su : Same H (upd H' u (.lst (cutV (Ints tp) none (some (i : Int))))) := sm.trans (Same.new hu)
      refine ⟨_, rfl, _, rfl, _, _, rfl, rfl, _, rfl, a, _, rfl, SqL.of (su _ _ hA), fun z hz => ?_⟩
      have huz : u ≠ z := ne_of_none upd_same hz
      have eu : (upd (upd H' u (.lst (cutV (Ints tp) none (some (i : Int))))) z (.lst (cutV (Ints tp) (some ((i : Int) + 1)) none))) u = some (.lst (Ints (tp.take i))) := by
        rw [upd_ne huz, upd_same, cutV_to (by omega), Int.toNat_natCast, ← List.map_take]
      have ez : (upd (upd H' u (.lst (cutV (Ints tp) none (some (i : Int))))) z (.lst (cutV (Ints tp) (some ((i : Int) + 1)) none))) z = some (.lst (Ints (tp.drop (i + 1)))) := by
        rw [upd_same, cutV_from (by omega), show ((i : Int) + 1).toNat = i + 1 by omega, ← List.map_drop]
      have sz : Same H (upd (upd H' u (.lst (cutV (Ints tp) none (some (i : Int))))) z (.lst (cutV (Ints tp) (some ((i : Int) + 1)) none))) := su.trans (Same.new hz)
      have hu0 : H' u = none := hu
      have hz0 : H' z = none := (Same.new hu).free hz
      have ko : (upd (upd H' u (.lst (cutV (Ints tp) none (some (i : Int))))) z (.lst (cutV (Ints tp) (some ((i : Int) + 1)) none))) o = H' o := by
        rw [upd_ne (ne_of_none eo hz0), upd_ne (ne_of_none eo hu0)]
      rw [← ko] at eo
      generalize upd (upd H' u (.lst (cutV (Ints tp) none (some (i : Int))))) z (.lst (cutV (Ints tp) (some ((i : Int) + 1)) none)) = H3 at eu ez sz eo ⊢
      refine ⟨u, z, _, _, rfl, rfl, eu, ez, small_le (by simp; omega), fun x hx => ?_⟩
      have sx : Same H (upd H3 x (.lst (Ints (tp.take i) ++ Ints (tp.drop (i + 1))))) := sz.trans (Same.new hx)
      have ex : (upd H3 x (.lst (Ints (tp.take i) ++ Ints (tp.drop (i + 1))))) x = some (.lst (Ints (tp.take i ++ tp.drop (i + 1)))) := by
        rw [upd_same, ← List.map_append]
      have eo3 : (upd H3 x (.lst (Ints (tp.take i) ++ Ints (tp.drop (i + 1))))) o = some (.lst (Ints ((List.range i).map (los one two st tp)))) := by
        rw [upd_ne (ne_of_none eo hx)]
        exact eo
      generalize upd H3 x (.lst (Ints (tp.take i) ++ Ints (tp.drop (i + 1)))) = H4 at sx ex eo3 ⊢
      refine ⟨_, rfl, t, x, one, two, tp.take i ++ tp.drop (i + 1), st, rfl, sx _ _ hT, hs, ex, (Codes.take hc i).append (Codes.drop hc _), by simp; omega, hb, fun H5 g2 s5 hg2 eg2 => ?_⟩
      have eo5 := s5 _ _ eo3
      have s6 := sx.trans s5
      refine ⟨g2, _, 0, _, rfl, rfl, SqT.of eg2, atI_nat (j := 0) rfl, ?_⟩
      generalize hleft : rdT one two st (tp.take i ++ tp.drop (i + 1)) = left
      refine ⟨fun σ' H'' => σ' = [some (.ref t), some (.ref a), some (.int st), some (.str (S (rdT one two st tp))), some (.ref o), some (.int (i : Nat)), some (.str (S left)), some (.int (los one two st tp i)), y8] ∧ Same H H'' ∧ H'' o = some (.lst (Ints ((List.range i).map (los one two st tp)))), ?_, ?_⟩
      · have hcd : atI (Ints tp) ((i : Nat) : Int) = some (.int (tp.getD i 0)) := by
          refine atI_nat ?_
          rw [List.getElem?_map, List.getD_eq_getElem?_getD, List.getElem?_eq_getElem hi']
          rfl
        refine ⟨_, rfl, _, rfl, a, _, _, _, rfl, rfl, SqL.of (s6 _ _ hA), hcd, _, rfl, t, _, 0, _, rfl, rfl, SqT.of (s6 _ _ hT), atI_nat (j := 0) rfl, _, rfl, small_le (by rw [S_len]; omega), _, _, rfl, rfl, _, rfl, ite2 (fun h => ?_) (fun h => ?_)⟩
        · have h' : ((S one).length : Int) ≤ tp.getD i 0 := of_decide_eq_true h
          rw [S_len] at h'
          obtain ⟨l1, l2⟩ := lost_at (two := two) hb hc hi' h'
          rw [hleft] at l1 l2
          refine ⟨_, rfl, _, rfl, small_le (by rw [S_len]; omega), _, rfl, by omega, by rw [S_len]; omega, fun D hD => lc_range (lo := 0) (n := ((S (rdT one two st tp)).length : Int).toNat) (fun j H' => ∃ ks : List Int, H' D = some (.lst (Ints ks)) ∧ ks.length = difN left (rdT one two st tp) j ∧ ks.length ≤ j ∧ Same H5 H') ⟨[], upd_same, rfl, Nat.le_refl _, Same.new hD⟩ ?_ ?_⟩
          · rintro j H' hj ⟨ks, eD, hk, hkj, smD⟩
            rw [Int.toNat_natCast, S_len] at hj
            have zj : (0 : Int) + (j : Nat) = ((j : Nat) : Int) := Int.zero_add _
            rw [zj]
            refine ⟨rfl, _, rfl, _, rfl, _, _, _, rfl, rfl, small_le (by rw [S_len]; omega), at_sign (by omega) (by omega), _, rfl, _, rfl, _, _, _, rfl, rfl, small_le (by rw [S_len]; omega), at_sign (by omega) (by omega), rfl, _, rfl, ?_⟩
            rw [dec_sg, Int.toNat_natCast]
            by_cases hd : left.getD j 0 = (rdT one two st tp).getD j 0
            · rw [decide_eq_true hd]
              exact iteF ⟨ks, eD, by rw [difN, if_pos hd]; exact hk, by omega, smD⟩
            · rw [decide_eq_false hd]
              refine iteT ⟨_, rfl, _, eD, ?_, ks ++ [((j : Nat) : Int)], ?_, ?_, ?_, Same.mut smD hD⟩
              · rw [List.length_map]
                exact small1000 (by omega)
              · rw [upd_same, ints_snoc]
              · rw [difN, if_neg hd, List.length_append, hk]
                rfl
              · rw [List.length_append]
                simp
                omega
          · rintro H' ⟨ks, eD, hk, hkj, smD⟩
            rw [Int.toNat_natCast, S_len] at hk
            refine ⟨D, _, rfl, .inl (SqL.of eD), ?_, s6.trans smD, smD _ _ eo5⟩
            rw [List.length_map, hk, l2]
            rfl
        · have h' : ¬ ((S one).length : Int) ≤ tp.getD i 0 := of_decide_eq_false (by simpa using h)
          rw [S_len] at h'
          refine ⟨?_, s6, eo5⟩
          rw [los_sign h']
          rfl
      · rintro σ' H'' ⟨rfl, s7, eo7⟩
        refine ⟨_, rfl, .inl ⟨rfl, _, SqL.of eo7⟩, _, rfl, o, _, _, rfl, rfl, eo7, ?_, _, _, _, _, rfl, Same.mut s7 hoN, ?_⟩
        · rw [List.length_map, List.length_map, List.length_range]
          exact small1000 (by omega)
        · rw [upd_same, range_snoc]
    · rintro σ H' ⟨y5, y6, y7, y8, rfl, sm, eo⟩
      rw [Int.toNat_natCast, List.length_map] at eo
      exact ⟨_, rfl, q _ o sm hoN eo⟩

/-! ### level by level -/
/-- a list of tuples -/
structure TupsAt (H : Hp) (o : Addr) (ps : List Addr) (L : List (List V)) : Prop where
  lst : H o = some (.lst (ps.map V.ref))
  len : ps.length = L.length
  at' : ∀ (i : Nat) (a : Addr), ps[i]? = some a → ∃ x, L[i]? = some x ∧ H a = some (.tup x)
theorem TupsAt.same {H H' : Hp} {o : Addr} {ps : List Addr} {L : List (List V)} (h : TupsAt H o ps L) (s : Same H H') : TupsAt H' o ps L :=
  ⟨s _ _ h.lst, h.len, fun i a e => let ⟨x, h1, h2⟩ := h.at' i a e; ⟨x, h1, s _ _ h2⟩⟩
theorem TupsAt.put {H : Hp} {o a : Addr} {ps : List Addr} {L : List (List V)} {x : List V} (h : TupsAt H o ps L) (ha : H a = some (.tup x)) : TupsAt (upd H o (.lst (ps.map V.ref ++ [.ref a]))) o (ps ++ [a]) (L ++ [x]) := by
  have ne : ∀ b y, H b = some (.tup y) → b ≠ o := fun b y e z => by rw [z, h.lst] at e; cases e
  refine ⟨by rw [upd_same, List.map_append]; rfl, by simp [h.len], fun i b e => ?_⟩
  by_cases hi : i < ps.length
  · rw [List.getElem?_append_left hi] at e
    obtain ⟨y, h1, h2⟩ := h.at' i b e
    refine ⟨y, by rw [List.getElem?_append_left (by rw [← h.len]; exact hi)]; exact h1, ?_⟩
    rw [upd_ne (ne b y h2)]
    exact h2
  · rw [List.getElem?_append_right (by omega)] at e
    have hj : i - ps.length = 0 := by
      cases hk : i - ps.length with
      | zero => rfl
      | succ k => rw [hk] at e; simp at e
    rw [hj] at e
    cases e
    refine ⟨x, ?_, ?_⟩
    · rw [List.getElem?_append_right (by rw [← h.len]; omega), ← h.len, hj]
      rfl
    · rw [upd_ne (ne _ x ha)]
      exact ha
theorem TupsAt.keep {H H' : Hp} {o : Addr} {ps : List Addr} {L : List (List V)} (h : TupsAt H o ps L) (k : ∀ x u, (∃ l, u = HO.lst l ∨ u = .tup l) → H x = some u → H' x = some u) : TupsAt H' o ps L :=
  ⟨k _ _ ⟨_, .inl rfl⟩ h.lst, h.len, fun i a e => let ⟨x, h1, h2⟩ := h.at' i a e; ⟨x, h1, k _ _ ⟨_, .inr rfl⟩ h2⟩⟩
/-- all of H but what stands at b -/
theorem keep_back {b : Addr} {H H' : Hp} {u : HO} (k : Keep b H H') (e : H b = some u) : Same H (upd H' b u) := fun x o h => by
  by_cases z : x = b
  · subst z
    rw [e] at h
    cases h
    exact upd_same
  · rw [upd_ne z]
    exact k x o z h
/-- the places at the end of the text -/
def atEnd (n : Nat) (es : List (K3 × Addr)) : List (K3 × Addr) := es.filter fun e => decide (e.1.1 = (n : Int))
abbrev dK3 (k : K3) : PyData := .tuple [.int k.1, .int k.2.1, .int k.2.2]
def vK3 (k : K3) : List V := [.int k.1, .int k.2.1, .int k.2.2]
theorem atEnd_snoc (n : Nat) (es : List (K3 × Addr)) (e : K3 × Addr) : atEnd n (es ++ [e]) = if e.1.1 = (n : Int) then atEnd n es ++ [e] else atEnd n es := by
  unfold atEnd
  rw [List.filter_append]
  by_cases h : e.1.1 = (n : Int) <;> simp [h]
theorem lay_tups : ∀ ks : List K3, PyData.canLayAll0 (ks.map dK3) = true ∧ PyData.depthAll (ks.map dK3) ≤ 1
  | [] => ⟨by simp [PyData.canLayAll0], by simp [PyData.depthAll]⟩
  | k :: ks => by
    obtain ⟨h1, h2⟩ := lay_tups ks
    rw [List.map_cons]
    refine ⟨by simp [PyData.canLayAll0, PyData.canLay0, h1], ?_⟩
    simp only [PyData.depthAll, PyData.depth]
    simp
    omega
theorem shaped_tups (ks : List K3) : SeqAt.shaped (.list (ks.map dK3)) = true := by
  obtain ⟨h1, h2⟩ := lay_tups ks
  simp only [SeqAt.shaped, PyData.canLay0, PyData.depth, h1]
  simp
  omega
theorem dp_tups {K : PySem.W.Frag} {H : Hp} : ∀ {ps : List Addr} {ks : List K3}, ps.length = ks.length → (∀ (i : Nat) (a : Addr), ps[i]? = some a → ∃ x, (ks.map vK3)[i]? = some x ∧ H a = some (.tup x)) → DpAll K H (ps.map V.ref) (ks.map dK3)
  | [], [], _, _ => .nil
  | [], _ :: _, h, _ => by simp at h
  | _ :: _, [], h, _ => by simp at h
  | p :: ps, k :: ks, h, ha => by
    obtain ⟨x, h1, h2⟩ := ha 0 p rfl
    cases h1
    exact .cons (.tup (SqT.of h2) (.cons (.int _) (.cons (.int _) (.cons (.int _) .nil)))) (dp_tups (by simpa using h) fun i a e => ha (i + 1) a (by simpa using e))
theorem size_big {n : Nat} (h : n ≤ 16777216) : n ≤ sizeLine := by
  rw [sizeLine_eq]
  exact h
theorem size_big2 {n : Nat} (h : n < 16777216) : n < sizeLine := by
  rw [sizeLine_eq]
  exact h
theorem es_at {es : List (K3 × Addr)} {i : Nat} {k : List Key} {v : V} (h : (kvsOf es)[i]? = some (k, v)) : ∃ k3 a, es[i]? = some (k3, a) ∧ k = key3 k3 ∧ v = .ref a := by
  unfold kvsOf at h
  rw [List.getElem?_map] at h
  cases e : es[i]? with
  | none => rw [e] at h; cases h
  | some x =>
    rw [e] at h
    cases h
    exact ⟨x.1, x.2, rfl, rfl, rfl⟩
theorem len_kvs (es : List (K3 × Addr)) : (kvsOf es).length = es.length := List.length_map _
theorem atEnd_len (n : Nat) (es : List (K3 × Addr)) : (atEnd n es).length ≤ es.length := List.length_filter_le _ _
theorem Rep.few {one two : List Nat} {most : Int} {tx : List Nat} {st : Int} {M : K3 → Option (List Int)} {H0 H : Hp} {S : List Addr} {es : List (K3 × Addr)} (R : Rep H0 S H es M) (hM : ∀ k t, M k = some t → Pth one two most tx st t k) (hm : 0 ≤ most) (hb : Bit st) (h1 : most ≤ 99) (h2 : tx.length ≤ 60) : es.length ≤ 30000 := by
  have := Sh.few (most := most) (n := tx.length) R.nd (fun k hk => by
    obtain ⟨t, ht⟩ := R.mem k hk
    exact (hM k t ht).inK hm hb) (by omega) h2
  rw [List.length_map] at this
  exact this
theorem dp_lists {K : PySem.W.Frag} {H : Hp} {f : K3 × Addr → List Int} : ∀ {L : List (K3 × Addr)}, (∀ e ∈ L, H e.2 = some (.lst (Ints (f e)))) → DpAll K H ((L.map Prod.snd).map V.ref) ((L.map f).map dInts)
  | [], _ => .nil
  | e :: L, h => .cons (Dp.ints (h e (by simp))) (dp_lists fun x hx => h x (List.mem_cons_of_mem _ hx))
/-- a list of codes with the places behind them -/
structure StpAt (H : Hp) (o : Addr) (ps : List Addr) (L : List (Int × K3)) : Prop where
  lst : H o = some (.lst (ps.map V.ref))
  len : ps.length = L.length
  at' : ∀ (i : Nat) (a : Addr), ps[i]? = some a → ∃ c k q, L[i]? = some (c, k) ∧ H a = some (.tup [.int c, .ref q]) ∧ H q = some (.tup (vK3 k))
theorem StpAt.same {H H' : Hp} {o : Addr} {ps : List Addr} {L : List (Int × K3)} (h : StpAt H o ps L) (s : Same H H') : StpAt H' o ps L :=
  ⟨s _ _ h.lst, h.len, fun i a e => let ⟨c, k, q, h1, h2, h3⟩ := h.at' i a e; ⟨c, k, q, h1, s _ _ h2, s _ _ h3⟩⟩
theorem StpAt.keep {H H' : Hp} {o : Addr} {ps : List Addr} {L : List (Int × K3)} (h : StpAt H o ps L) (k : ∀ x u, (∃ l, u = HO.lst l ∨ u = .tup l) → H x = some u → H' x = some u) : StpAt H' o ps L :=
  ⟨k _ _ ⟨_, .inl rfl⟩ h.lst, h.len, fun i a e => let ⟨c, j, q, h1, h2, h3⟩ := h.at' i a e; ⟨c, j, q, h1, k _ _ ⟨_, .inr rfl⟩ h2, k _ _ ⟨_, .inr rfl⟩ h3⟩⟩
theorem StpAt.put {H : Hp} {o a q : Addr} {ps : List Addr} {L : List (Int × K3)} {c : Int} {k : K3} (h : StpAt H o ps L) (ha : H a = some (.tup [.int c, .ref q])) (hq : H q = some (.tup (vK3 k))) : StpAt (upd H o (.lst (ps.map V.ref ++ [.ref a]))) o (ps ++ [a]) (L ++ [(c, k)]) := by
  have ne : ∀ b y, H b = some (.tup y) → b ≠ o := fun b y e z => by rw [z, h.lst] at e; cases e
  refine ⟨by rw [upd_same, List.map_append]; rfl, by simp [h.len], fun i b e => ?_⟩
  by_cases hi : i < ps.length
  · rw [List.getElem?_append_left hi] at e
    obtain ⟨c', k', q', h1, h2, h3⟩ := h.at' i b e
    refine ⟨c', k', q', by rw [List.getElem?_append_left (by rw [← h.len]; exact hi)]; exact h1, ?_, ?_⟩
    · rw [upd_ne (ne b _ h2)]
      exact h2
    · rw [upd_ne (ne q' _ h3)]
      exact h3
  · rw [List.getElem?_append_right (by omega)] at e
    have hj : i - ps.length = 0 := by
      cases hk : i - ps.length with
      | zero => rfl
      | succ k => rw [hk] at e; simp at e
    rw [hj] at e
    cases e
    refine ⟨c, k, q, ?_, ?_, ?_⟩
    · rw [List.getElem?_append_right (by rw [← h.len]; omega), ← h.len, hj]
      rfl
    · rw [upd_ne (ne _ _ ha)]
      exact ha
    · rw [upd_ne (ne _ _ hq)]
      exact hq
theorem KeepS.toSame {S : List Addr} {H H1 H2 : Hp} (k : KeepS S H1 H2) (s : Same H H1) (hS : ∀ x ∈ S, H x = none) : Same H H2 := fun x o e => k x o (fun z => by rw [hS x z] at e; cases e) (s x o e)
theorem Nxt.imp {one two : List Nat} {most : Int} {tx : List Nat} {st : Int} {d : Nat} {Dn Dn' : List Int → Int → K3 → Prop} {M : K3 → Option (List Int)} (h : Nxt one two most tx st d Dn M) (hd : ∀ t c k, Dn' t c k → Dn t c k) : Nxt one two most tx st d Dn' M :=
  ⟨h.sound, fun t c k z => h.all t c k (hd t c k z)⟩
theorem at_after (kk here : Int) : atI [V.int 0, V.int (-1)] (if decide (V.int kk = V.int here) then 1 else 0) = some (.int (afterS here kk)) := by
  rw [dec_int]
  unfold afterS
  by_cases h : kk = here
  · rw [decide_eq_true h, if_pos h]
    exact atI_nat (j := 1) rfl
  · rw [decide_eq_false h, if_neg h]
    exact atI_nat (j := 0) rfl
theorem shifts2 (one two : List Nat) (most : Int) (tx : List Nat) (k : K3) {i : Nat} (hi : i < 2) : (stepsK one two most tx k)[i]? = some ((one.length : Int) + (i : Nat), (k.1, ((i : Nat) : Int), afterS k.2.1 ((i : Nat) : Int))) := by
  unfold stepsK
  rw [List.getElem?_append_left (by simpa using hi)]
  match i, hi with
  | 0, _ => rfl
  | 1, _ => rfl
def spShort : Sp := fun vs H Q _ => ∃ (t : Addr) (one two tx : List Nat) (st most : Int), vs = [.ref t, .str (S tx), .int st, .int most] ∧ SetsAt H t one two ∧ Sets one two ∧ Bit st ∧ Stands one two tx ∧ tx.length ≤ 60 ∧ 0 ≤ most ∧ most ≤ 99 ∧
  ∀ H' p R, Same H H' → H p = none → Best one two most st (-1) tx R → H' p = some (.lst (Ints R)) → Q (.ref p) H'
theorem ok_l_shortest (T : Txt K mg) : FnOk P w K mg base CX0 2 T.a_l_shortest T.d_l_shortest ["_law_sets_here", "_law_text_here", "_law_state", "_law_most"] spShort := by
  refine T.F_l_shortest.ok sc_l_shortest (fun vs H Q E h => ?_) (fun cdv A outer s H vs Q E hr h => ?_)
  · obtain ⟨t, one, two, tx, st, most, rfl, _⟩ := h
    rfl
  · obtain ⟨t, one, two, tx, st, most, rfl, hT, hs, hb, hst, hl, hm0, hm1, q⟩ := h
    have htp := hs.top
    refine ⟨_,
    (pss_cons (ps_set (i := 4) sc_l_shortest.nd rfl (Or.inr rfl) (pe_callB call_len_str (by rfl) T.m_len PySem.boot_len (pa_cons (pe_ix ix_tup (pv 0) pe_int (fun _ _ => rfl)) pa_nil))) 
    (pss_cons (ps_set (i := 5) sc_l_shortest.nd rfl (Or.inr rfl) (pe_disp1 (hu0_of hr) (pe_tup (pa_cons pe_int (pa_cons (pv 2) (pa_cons (pe_un un_neg pe_int) pa_nil)))) (pe_lst pa_nil))) 
    (pss_cons (ps_while PassesOwn.never (pt_cmpR (op_eqD hr.units) (pe_lock (pe_lc (own := [("_law_key", 6)]) (g := gName 6) rfl sc_l_shortest.nd (pi_keys (pv 5)) (blkOk_by (own := [("_law_key", 6)]) (N := n_l_shortest) (sc := (defScope s_l_shortest)) (by decide +kernel)) (fun _ _ _ _ _ => (pg_name (i := 6) sc_l_shortest.nd rfl (Or.inl rfl))) (fun _ _ _ _ _ => (pts_one (pt_cmpR op_eq (pe_ix (ix_tup : IxR _ (rIxT K)) (pv 6) pe_int (fun _ _ => rfl)) (pe_callB call_len_str (by rfl) T.m_len PySem.boot_len (pa_cons (pv 1) pa_nil)) (nomark _)))) (fun _ _ _ _ _ => (pv 6)))) (pe_lst pa_nil) (nomark _)) 
      (pss_cons (ps_set (i := 7) sc_l_shortest.nd rfl (Or.inl rfl) pe_dnewT) 
      (pss_cons (ps_lock (ps_for PassesOwn.never rfl (pi_keys (pv 5)) (pg_tup rfl (pgs_cons (pg_name (i := 8) sc_l_shortest.nd rfl (Or.inr rfl)) (pgs_cons (pg_name (i := 9) sc_l_shortest.nd rfl (Or.inr rfl)) (pgs_cons (pg_name (i := 10) sc_l_shortest.nd rfl (Or.inl rfl)) pgs_nil)))) 
        (pss_cons (ps_set (i := 11) sc_l_shortest.nd rfl (Or.inl rfl) (pe_dget (hu_of hr) (pv 5) (pe_tup (pa_cons (pv 8) (pa_cons (pv 9) (pa_cons (pv 10) pa_nil)))) (fun _ _ => rfl))) 
        (pss_cons (ps_setLc (i := 12) (own := [("_law_k", 15)]) (g := gName 15) (tt := tYes) rfl sc_l_shortest.nd rfl rfl (sw_true rfl rfl rfl (by decide +kernel)) (pi_range1 (by rfl) T.m_range (pa_cons pe_int pa_nil)) (blkOk_by (own := [("_law_k", 15)]) (N := n_l_shortest) (sc := (defScope s_l_shortest)) (by decide +kernel)) (fun _ _ _ _ _ => (pg_name (i := 15) sc_l_shortest.nd rfl (Or.inl rfl))) (fun _ _ _ _ _ => pts_nil) (fun _ _ _ _ _ => (pe_tup (pa_cons (pe_op op_add (pv 4) (pv 15)) (pa_cons (pe_tup (pa_cons (pv 8) (pa_cons (pv 15) (pa_cons (pe_ix (ix_list : IxR _ (rIxL K)) (pe_lst (pa_cons pe_int (pa_cons (pe_un un_neg pe_int) pa_nil))) (pe_callTy call_int1 (by rfl) T.m_int (by decide +kernel) (pa_cons (pe_cmpR op_eq (pv 15) (pv 9) (nomark _)) pa_nil)) (fun _ _ => rfl)) pa_nil)))) pa_nil))))) 
        (C8.pss_cut (ps_if (pt_cmpR op_in_sign (pe_ix ix_str (pv 1) (pv 8) (fun _ _ => rfl)) (pe_ix ix_tup (pv 0) (pv 9) (fun _ _ => rfl)) (by rfl)) 
          (pss_cons (ps_set (i := 13) sc_l_shortest.nd rfl (Or.inl rfl) (pe_bm PySem.F.plainAttrs_str PySem.F.slot_str_index PySem.F.type_str_index mt_sindex (pe_ix ix_tup (pv 0) (pv 9) (fun _ _ => rfl)) (pa_cons (pe_ix ix_str (pv 1) (pv 8) (fun _ _ => rfl)) pa_nil))) 
          (C8.pss_cut (ps_set (i := 14) sc_l_shortest.nd rfl (Or.inl rfl) (pe_op op_add (pv 10) (pe_callTy call_int1 (by rfl) T.m_int (by decide +kernel) (pa_cons (pe_and (pe_cmpR op_ge (pv 10) pe_int (nomark _)) (pe_one (pe_cmpR op_ne (pe_ix ix_str (pe_ix ix_tup (pv 0) pe_int (fun _ _ => rfl)) (pv 13) (fun _ _ => rfl)) (pe_ix ix_str (pe_ix ix_tup (pv 0) pe_int (fun _ _ => rfl)) (pv 13) (fun _ _ => rfl)) (nomark _)))) pa_nil)))) 
          (pss_one (ps_if (pt_cmpR op_le (pv 14) (pv 3) (nomark _)) 
            (pss_one (ps_expr (pe_bm PySem.F.plainAttrs_list PySem.F.slot_list_append PySem.F.type_list_append mt_append (pv 12) (pa_cons (pe_tup (pa_cons (pv 13) (pa_cons (pe_tup (pa_cons (pe_op op_add (pv 8) pe_int) (pa_cons (pv 9) (pa_cons (pv 14) pa_nil)))) pa_nil))) pa_nil)))) pss_nil)))) pss_nil) 
        (pss_one (ps_for PassesOwn.never rfl (pi_list (pv 12)) (pg_tup rfl (pgs_cons (pg_name (i := 13) sc_l_shortest.nd rfl (Or.inl rfl)) (pgs_cons (pg_name (i := 6) sc_l_shortest.nd rfl (Or.inl rfl)) pgs_nil))) 
          (pss_one (ps_if (pt_cut (PW.pt (pw_or (pt_cmp (pc_dnotin (hu_of hr) (pv 6) (pv 7))) (pw_or1 (pt_cmpR (op_ltLI hr.units) (pe_op op_cat (pv 11) (pe_lst (pa_cons (pv 13) pa_nil))) (pe_dget (hu_of hr) (pv 7) (pv 6) (fun _ _ => rfl)) (nomark _)))))) 
            (pss_one (ps_dput (hu_of hr) (pv 7) (pv 6) (pe_op op_cat (pv 11) (pe_lst (pa_cons (pv 13) pa_nil))) rfl)) pss_nil))))))))) 
      (pss_one (ps_set (i := 5) sc_l_shortest.nd rfl (Or.inr rfl) (pv 7)))))) 
    (pss_one (ps_ret (pe_callB (cr_minLI rfl hr.units) (by rfl) T.m_min (by decide +kernel) (pa_cons (pe_lock (pe_lc (own := [("_law_key", 6)]) (g := gName 6) rfl sc_l_shortest.nd (pi_keys (pv 5)) (blkOk_by (own := [("_law_key", 6)]) (N := n_l_shortest) (sc := (defScope s_l_shortest)) (by decide +kernel)) (fun _ _ _ _ _ => (pg_name (i := 6) sc_l_shortest.nd rfl (Or.inl rfl))) (fun _ _ _ _ _ => (pts_one (pt_cmpR op_eq (pe_ix (ix_tup : IxR _ (rIxT K)) (pv 6) pe_int (fun _ _ => rfl)) (pe_callB call_len_str (by rfl) T.m_len PySem.boot_len (pa_cons (pv 1) pa_nil)) (nomark _)))) (fun _ _ _ _ _ => (pe_dget (hu_of hr) (pv 5) (pv 6) (fun _ _ => rfl))))) pa_nil))))))), ?_⟩
    refine ⟨_, rfl, t, _, 0, _, rfl, rfl, SqT.of hT, atI_nat (j := 0) rfl, _, rfl, small_le (by rw [S_len]; omega), ?_⟩
    intro lv hlv
    refine ⟨_, rfl, _, rfl, (by show 3 ≤ sizeLine; decide), fun z hz => ⟨Nat.zero_le _, fun u hu => ?_⟩⟩
    have sz := Same.new (o := .tup [.int 0, .int st, .int (-1)]) hz
    have su := Same.new (o := .lst []) hu
    have ez := su _ _ (upd_same (H := upd H lv (.dT [])) (a := z) (o := .tup [.int 0, .int st, .int (-1)]))
    have elv := su _ _ (sz _ _ (upd_same (H := H) (a := lv) (o := .dT [])))
    have eu : (upd (upd (upd H lv (.dT [])) z (.tup [.int 0, .int st, .int (-1)])) u (.lst [])) u = some (.lst (Ints [])) := upd_same
    have s1 : Same H (upd (upd (upd H lv (.dT [])) z (.tup [.int 0, .int st, .int (-1)])) u (.lst [])) := ((Same.new hlv).trans sz).trans su
    have huN : H u = none := ((Same.new hlv).trans sz).free hu
    have hulv : lv ≠ u := ne_of_none (sz _ _ (upd_same (H := H) (a := lv) (o := .dT []))) hu
    generalize upd (upd (upd H lv (.dT [])) z (.tup [.int 0, .int st, .int (-1)])) u (.lst []) = H1 at ez elv eu s1 ⊢
    refine ⟨z, key3 (0, st, -1), rfl, ez, elv, ?_⟩
    have s2 : Same H (upd H1 lv (.dT [(key3 (0, st, -1), .ref u)])) := Same.mut s1 hlv
    have elv2 : (upd H1 lv (.dT [(key3 (0, st, -1), .ref u)])) lv = some (.dT (kvsOf [((0, st, -1), u)])) := upd_same
    have R0 : Rep H [lv] (upd H1 lv (.dT [(key3 (0, st, -1), .ref u)])) [((0, st, -1), u)] (updM (fun _ => none) (0, st, -1) []) := by
      refine ⟨by simp, fun k t e => ?_, fun k hk => ?_⟩
      · unfold updM at e
        by_cases w : k = (0, st, -1)
        · rw [if_pos w] at e
          cases e
          rw [w]
          exact ⟨u, by simp, by rw [upd_ne (Ne.symm hulv)]; exact eu, by simpa using Ne.symm hulv, huN⟩
        · rw [if_neg w] at e
          cases e
      · simp at hk
        unfold updM
        exact ⟨[], by rw [if_pos hk]⟩
    generalize upd H1 lv (.dT [(key3 (0, st, -1), .ref u)]) = H2 at s2 elv2 R0 ⊢
    obtain ⟨t0, ht0, ht0l⟩ := run_exists (Lf one two most tx st (-1)).toNat (most := most) (left := -1) hb hst (by omega) (by
      have := Lf_nonneg one two most tx st (-1)
      omega)
    refine ⟨fun m σ H' => ∃ (d : Nat) (lv : Addr) (es : List (K3 × Addr)) (M : K3 → Option (List Int)) (y6 y7 y8 y9 y10 y11 y12 y13 y14 y15 : Option V), m = t0.length - d ∧ σ = [some (.ref t), some (.str (S tx)), some (.int st), some (.int most), some (.int (S one).length), some (.ref lv), y6, y7, y8, y9, y10, y11, y12, y13, y14, y15] ∧
      Same H H' ∧ H lv = none ∧ H' lv = some (.dT (kvsOf es)) ∧ Rep H [lv] H' es M ∧ Lvl one two most tx st d M ∧ ∀ r, Run one two most st (-1) tx r → d ≤ r.length, ⟨_, 0, lv, _, _, none, none, none, none, none, none, none, none, none, none, rfl, rfl, s2, hlv, elv2, R0, lvl_start, fun _ _ => Nat.zero_le _⟩, ?_⟩
    clear R0 elv2 s2 eu s1 huN hulv ez elv sz su H2 hz hu hlv lv z u H1
    rintro m σ H' ⟨d, lv, es, M, y6, y7, y8, y9, y10, y11, y12, y13, y14, y15, rfl, rfl, sm, hlv, elv, R, hL, hno⟩
    have hfew := Rep.few R (fun k t h => (hL.sound k t h).1) hm0 hb hm1 hl
    refine ⟨lv, _, elv, trivial, fun od => ?_⟩
    have sF : KeepS [lv] H' (upd H' lv (.frz od (.dT (kvsOf es)))) := KeepS.upd (by simp)
    refine ⟨_, rfl, lv, od, rfl, .inr ⟨_, upd_same, fun D hD => lc_it (walk_keysT (kvs := kvsOf es)) (fun i H2 => ∃ ps, TupsAt H2 D ps ((atEnd tx.length (es.take i)).map fun e => vK3 e.1) ∧ Same (upd H' lv (.frz od (.dT (kvsOf es)))) H2) ⟨[], ⟨upd_same, rfl, fun i a e => by simp at e⟩, Same.new hD⟩ ?_ ?_ ?_⟩⟩
    · rintro i H2 _ ⟨_, _, sk⟩
      exact sk _ _ upd_same
    · rintro i x _ H2 hi ⟨ps, TA, sk⟩ ⟨rfl, k, v, qa, hk, rfl, eq⟩
      obtain ⟨k3, a, hes, rfl, rfl⟩ := es_at hk
      have htk := take_snoc hes
      have hil : i < es.length := (List.getElem?_eq_some_iff.mp hes).1
      refine ⟨rfl, _, rfl, qa, _, 0, _, rfl, rfl, SqT.of eq, atI_nat (j := 0) rfl, _, rfl, _, rfl, small_le (by rw [S_len]; omega), rfl, _, rfl, ?_⟩
      show if decide (V.int k3.1 = V.int ((S tx).length : Int)) = true then _ else _
      rw [dec_int, S_len, htk, atEnd_snoc]
      have hpl := TA.len
      have hel := atEnd_len tx.length (es.take i)
      rw [List.length_map] at hpl
      rw [List.length_take] at hel
      by_cases he : k3.1 = (tx.length : Int)
      · rw [decide_eq_true he, if_pos he]
        refine iteT ⟨_, rfl, _, TA.lst, size_big2 (by rw [List.length_map]; omega), ps ++ [qa], ?_, Same.mut sk hD⟩
        rw [List.map_append]
        exact TA.put eq
      · rw [decide_eq_false he, if_neg he]
        exact iteF ⟨ps, TA, sk⟩
    rintro H2 ⟨ps, TA, sk⟩
    rw [len_kvs, List.take_of_length_le (Nat.le_refl _)] at TA
    have elvF : H2 lv = some (.frz od (.dT (kvsOf es))) := sk _ _ upd_same
    refine ⟨elvF, (by show 0 ≤ sizeLine; decide), fun z hz => ?_⟩
    have sA : Same H' (upd H2 lv (.dT (kvsOf es))) := keep_back ((Keep.upd (H := H') (d := lv) (o := .frz od (.dT (kvsOf es)))).trans (Keep.same sk)) elv
    have TA2 : TupsAt (upd H2 lv (.dT (kvsOf es))) D ps ((atEnd tx.length es).map fun e => vK3 e.1) := TA.keep fun x u hu e => by
      rw [upd_ne (fun w => by
        rw [w, elvF] at e
        cases e
        obtain ⟨l, hu | hu⟩ := hu <;> cases hu)]
      exact e
    have elvA : (upd H2 lv (.dT (kvsOf es))) lv = some (.dT (kvsOf es)) := upd_same
    generalize upd H2 lv (.dT (kvsOf es)) = HA at sA TA2 elvA hz ⊢
    have sz := Same.new (o := .lst []) hz
    have TA3 := TA2.same sz
    have ez : (upd HA z (.lst [])) z = some (.lst []) := upd_same
    have sB := sA.trans sz
    have elvB := sz _ _ elvA
    generalize upd HA z (.lst []) = HB at sB TA3 ez elvB ⊢
    have hmm : (atEnd tx.length es).map (fun e => vK3 e.1) = ((atEnd tx.length es).map Prod.fst).map vK3 := by rw [List.map_map]; rfl
    have hdp := dp_tups (K := K) (H := HB) (ps := ps) (ks := (atEnd tx.length es).map Prod.fst) (by rw [TA3.len, hmm, List.length_map]) (fun i a e => by
      have := TA3.at' i a e
      rw [hmm] at this
      exact this)
    refine ⟨.list (((atEnd tx.length es).map Prod.fst).map dK3), .list [], .lst (SqL.of TA3.lst) hdp, .lst (SqL.of ez) .nil, shaped_tups _, shaped_list (ds := []) rfl, _, rfl, ?_⟩
    rw [eqv_nil]
    have RB := R.keep (KeepS.same sB)
    have smB := sm.trans sB
    clear hdp TA3 TA2 TA sA elvA elvF sk sF hz sz
    by_cases hE : atEnd tx.length es = []
    · rw [hE]
      refine iteT ?_
      have hne : ∀ e ∈ es, e.1.1 ≠ (tx.length : Int) := fun e he w => by
        have : e ∈ atEnd tx.length es := List.mem_filter.mpr ⟨he, by simpa using w⟩
        rw [hE] at this
        simp at this
      have hdL : d + 1 ≤ t0.length ∧ ∀ r, Run one two most st (-1) tx r → d + 1 ≤ r.length := by
        have key : ∀ r, Run one two most st (-1) tx r → d + 1 ≤ r.length := fun r hr => by
          have h1 := hno r hr
          by_cases w : r.length = d
          · exfalso
            obtain ⟨h', sp', hp⟩ := tape_pth hm0 hb hr
            obtain ⟨t', h2, _⟩ := hL.all _ r hp w
            obtain ⟨a, h3, _⟩ := R.val _ t' h2
            exact hne _ h3 rfl
          · omega
        exact ⟨key t0 ht0, key⟩
      refine ⟨fun σ' H'' => ∃ (lv : Addr) (es : List (K3 × Addr)) (M : K3 → Option (List Int)) (y6 y7 y8 y9 y10 y11 y12 y13 y14 y15 : Option V), σ' = [some (.ref t), some (.str (S tx)), some (.int st), some (.int most), some (.int (S one).length), some (.ref lv), y6, y7, y8, y9, y10, y11, y12, y13, y14, y15] ∧
        Same H H'' ∧ H lv = none ∧ H'' lv = some (.dT (kvsOf es)) ∧ Rep H [lv] H'' es M ∧ Lvl one two most tx st (d + 1) M, ?_, ?_⟩
      · rintro σ' H'' ⟨lv', es', M', y6, y7, y8, y9, y10, y11, y12, y13, y14, y15, rfl, h1, h2, h3, h4, h5⟩
        exact ⟨_, by omega, d + 1, lv', es', M', y6, y7, y8, y9, y10, y11, y12, y13, y14, y15, rfl, rfl, h1, h2, h3, h4, h5, hdL.2⟩
      intro b hb'
      have hbN := smB.free hb'
      have hlb : lv ≠ b := ne_of_none elvB hb'
      have s5 := Same.new (o := .dT []) hb'
      have eb : (upd HB b (.dT [])) b = some (.dT (kvsOf [])) := upd_same
      have elv5 := s5 _ _ elvB
      have sm5 := smB.trans s5
      have R5 : Rep H [b, lv] (upd HB b (.dT [])) es M := (RB.more hb').keep (KeepS.same s5)
      generalize upd HB b (.dT []) = H5 at eb elv5 sm5 R5 ⊢
      have hSN : ∀ x ∈ [b, lv], H x = none := fun x hx => by
        simp at hx
        rcases hx with rfl | rfl
        · exact hbN
        · exact hlv
      refine ⟨lv, _, elv5, trivial, fun od3 => ?_⟩
      refine ⟨_, rfl, lv, od3, rfl, .inr ⟨_, upd_same, for_it (walk_keysT (kvs := kvsOf es)) (fun i σ H' => ∃ (es' : List (K3 × Addr)) (M' : K3 → Option (List Int)) (y6 y8 y9 y10 y11 y12 y13 y14 y15 : Option V), σ = [some (.ref t), some (.str (S tx)), some (.int st), some (.int most), some (.int (S one).length), some (.ref lv), y6, some (.ref b), y8, y9, y10, y11, y12, y13, y14, y15] ∧
        KeepS [b, lv] H5 H' ∧ H' lv = some (.frz od3 (.dT (kvsOf es))) ∧ H' b = some (.dT (kvsOf es')) ∧ Rep H [b, lv] H' es' M' ∧ Nxt one two most tx st d (fun u c k' => ∃ (j : Nat) (k : K3) (a : Addr), j < i ∧ es[j]? = some (k, a) ∧ M k = some u ∧ Stp one two most tx k c k') M') ⟨[], fun _ => none, _, _, _, _, _, _, _, _, _, rfl, KeepS.upd (by simp), upd_same, by rw [upd_ne (Ne.symm hlb)]; exact eb, ⟨by simp, fun k u h => (by cases h), fun k h => by simp at h⟩, ⟨fun k u h => (by cases h), fun u c k' h => by obtain ⟨j, _, _, h, _⟩ := h; omega⟩⟩ ?_ ?_ ?_⟩⟩
      · rintro i σ H' _ ⟨_, _, _, _, _, _, _, _, _, _, _, rfl, _, e, _⟩
        exact e
      · rintro i x σ _ H' hi ⟨es', M', y6, y8, y9, y10, y11, y12, y13, y14, y15, rfl, ks, elvF, ebF, R', N'⟩ ⟨rfl, k, v, qa, hk, rfl, eq⟩
        obtain ⟨k3, a, hes, rfl, rfl⟩ := es_at hk
        have hmem := List.mem_of_getElem? hes
        obtain ⟨tp, hMk, etp, htS, htN, hval⟩ := (R5.keep (KeepS.refl _ _)).at hmem
        obtain ⟨hpth, htl⟩ := hL.sound k3 tp hMk
        obtain ⟨i1, i2, i3, i4, i5⟩ := hpth.inK hm0 hb
        have hkne := hne _ hmem
        have hklt : k3.1 < (tx.length : Int) := by
          simp only at hkne
          omega
        have etp' := ks _ _ htS etp
        have smH := ks.toSame sm5 hSN
        refine ⟨qa, [.int k3.1, .int k3.2.1, .int k3.2.2], rfl, SqT.of eq, rfl, _, _, rfl, _, _, rfl, _, _, rfl, rfl, ?_⟩
        refine ⟨_, rfl, _, rfl, _, rfl, _, rfl, (by show 3 ≤ sizeLine; decide), fun z hz => ?_⟩
        have sz := Same.new (o := .tup [.int k3.1, .int k3.2.1, .int k3.2.2]) hz
        have ez : (upd H' z (.tup [.int k3.1, .int k3.2.1, .int k3.2.2])) z = some (.tup [.int k3.1, .int k3.2.1, .int k3.2.2]) := upd_same
        have elv6 := sz _ _ elvF
        have eb6 := sz _ _ ebF
        have etp6 := sz _ _ etp'
        have R6 := R'.keep (KeepS.same sz)
        have ks6 := ks.trans (KeepS.same sz)
        have sm6 := smH.trans sz
        generalize upd H' z (.tup [.int k3.1, .int k3.2.1, .int k3.2.2]) = H6 at ez elv6 eb6 etp6 R6 ks6 sm6 ⊢
        refine ⟨lv, _, rfl, .inr ⟨kvsOf es, key3 k3, z, .inr ⟨od3, elv6⟩, rfl, ez, hval.symm⟩, ?_⟩
        -- the steps
        refine ⟨2, rfl, by decide, by decide, fun D hD => ?_⟩
        refine lc_range (lo := 0) (n := 2) (fun c' H3 => ∃ ps, StpAt H3 D ps ((stepsK one two most tx k3).take c') ∧ Same H6 H3) ⟨[], ⟨upd_same, rfl, fun i a e => by simp at e⟩, Same.new hD⟩ ?_ ?_
        · rintro c' H3 hc' ⟨ps, SA, sk⟩
          have z0 : (0 : Int) + (c' : Nat) = ((c' : Nat) : Int) := Int.zero_add _
          rw [z0]
          have hat2 := shifts2 one two most tx k3 hc'
          refine ⟨rfl, _, rfl, _, rfl, _, _, rfl, rfl, _, rfl, _, rfl, _, rfl, (by show 2 ≤ sizeLine; decide), fun w hw => ?_⟩
          have sw := Same.new (o := .lst [.int 0, .int (-1)]) hw
          have ew : (upd H3 w (.lst [.int 0, .int (-1)])) w = some (.lst [.int 0, .int (-1)]) := upd_same
          have SA2 := SA.same sw
          have sk2 := sk.trans sw
          generalize upd H3 w (.lst [.int 0, .int (-1)]) = H7 at ew SA2 sk2 ⊢
          refine ⟨_, rfl, _, rfl, rfl, .inr ⟨_, rfl, w, _, _, _, rfl, rfl, SqL.of ew, at_after _ _, (by show 3 ≤ sizeLine; decide), fun q hq => ?_⟩⟩
          have sq := Same.new (o := .tup [.int k3.1, .int (c' : Nat), .int (afterS k3.2.1 (c' : Nat))]) hq
          have eq' : (upd H7 q (.tup [.int k3.1, .int (c' : Nat), .int (afterS k3.2.1 (c' : Nat))])) q = some (.tup (vK3 (k3.1, ((c' : Nat) : Int), afterS k3.2.1 (c' : Nat)))) := upd_same
          have SA3 := SA2.same sq
          have sk3 := sk2.trans sq
          generalize upd H7 q (.tup [.int k3.1, .int (c' : Nat), .int (afterS k3.2.1 (c' : Nat))]) = H8 at eq' SA3 sk3 ⊢
          refine ⟨(by show 2 ≤ sizeLine; decide), fun y hy => ?_⟩
          have sy := Same.new (o := .tup [.int (((S one).length : Int) + (c' : Nat)), .ref q]) hy
          have ey : (upd H8 y (.tup [.int (((S one).length : Int) + (c' : Nat)), .ref q])) y = some (.tup [.int ((one.length : Int) + (c' : Nat)), .ref q]) := by
            rw [upd_same, S_len]
          have eq4 := sy _ _ eq'
          have SA4 := SA3.same sy
          have sk4 := sk3.trans sy
          have hpl := SA4.len
          rw [List.length_take] at hpl
          refine ⟨_, SA4.lst, small1000 (by rw [List.length_map]; omega), ps ++ [y], ?_, Same.mut sk4 hD⟩
          rw [take_snoc hat2]
          exact SA4.put ey eq4
        rintro H7 ⟨ps, SA, sk⟩
        have hltn : k3.1.toNat < tx.length := by omega
        have hsg : tx[k3.1.toNat]? = some (tx.getD k3.1.toNat 0) := by
          rw [List.getD_eq_getElem?_getD, List.getElem?_eq_getElem hltn]
          rfl
        have hats := at_sign (l := tx) i1 hklt
        have hsplit : stepsK one two most tx k3 = (stepsK one two most tx k3).take 2 ++ (if tx.getD k3.1.toNat 0 ∈ pickS one two k3.2.1 ∧ addS one two (cdS one two k3.2.1 (tx.getD k3.1.toNat 0)) k3.2.2 ≤ most then [(cdS one two k3.2.1 (tx.getD k3.1.toNat 0), (k3.1 + 1, k3.2.1, addS one two (cdS one two k3.2.1 (tx.getD k3.1.toNat 0)) k3.2.2))] else []) := by
          unfold stepsK
          rw [hsg]
          rfl
        generalize tx.getD k3.1.toNat 0 = s at hats hsplit hsg
        refine ⟨fun σ' H'' => ∃ (ps : List Addr) (y13 y14 : Option V), σ' = [some (.ref t), some (.str (S tx)), some (.int st), some (.int most), some (.int (S one).length), some (.ref lv), y6, some (.ref b), some (.int k3.1), some (.int k3.2.1), some (.int k3.2.2), some (.ref a), some (.ref D), y13, y14, y15] ∧
          Same H6 H'' ∧ StpAt H'' D ps (stepsK one two most tx k3), ?_, ?_⟩
        · have sm7 := sm6.trans sk
          refine ⟨_, rfl, _, rfl, _, _, _, rfl, rfl, small_le (by rw [S_len]; omega), hats, _, rfl, _, rfl, t, _, k3.2.1, _, rfl, rfl, SqT.of (sm7 _ _ hT), at_sets i3, s, _, rfl, rfl, _, rfl, ?_⟩
          by_cases hin : s ∈ pickS one two k3.2.1
          · have e : decide (s ∈ (S (if k3.2.1 = 0 then one else two)).cps.toList) = true := by
              show decide (s ∈ (pickS one two k3.2.1).toArray.toList) = true
              simp [hin]
            rw [e]
            obtain ⟨rest, hocc⟩ := occ_sign hin
            have hcd : (((pickS one two k3.2.1).idxOf s : Nat) : Int) = cdS one two k3.2.1 s := by
              unfold cdS
              rw [if_pos hin]
            obtain ⟨hc0, hc1, _⟩ := cdS_range hs (cdS_pick hin)
            refine iteT ⟨_, rfl, _, rfl, t, _, k3.2.1, _, rfl, rfl, SqT.of (sm7 _ _ hT), at_sets i3, rfl, _, rfl, _, rfl, _, _, _, rfl, rfl, small_le (by rw [S_len]; omega), hats, _, _, _, _, rfl, rfl, hocc, ?_⟩
            rw [hcd]
            generalize cdS one two k3.2.1 s = c at hc0 hc1 hsplit
            refine ⟨fun σ' H'' => σ' = [some (.ref t), some (.str (S tx)), some (.int st), some (.int most), some (.int (S one).length), some (.ref lv), y6, some (.ref b), some (.int k3.1), some (.int k3.2.1), some (.int k3.2.2), some (.ref a), some (.ref D), some (.int c), some (.int (addS one two c k3.2.2)), y15] ∧ H7 = H'', ?_, ?_⟩
            · refine ⟨_, rfl, _, rfl, _, _, rfl, rfl, _, rfl, ?_⟩
              have h2 := hs.same
              by_cases h0 : 0 ≤ k3.2.2
              · rw [decide_eq_true (show k3.2.2 ≥ 0 from h0)]
                refine iteT ⟨_, rfl, t, _, 0, _, rfl, rfl, SqT.of (sm7 _ _ hT), atI_nat (j := 0) rfl, _, rfl, _, _, _, rfl, rfl, small_le (by rw [S_len]; omega), at_sign hc0 hc1, _, rfl, t, _, 1, _, rfl, rfl, SqT.of (sm7 _ _ hT), atI_nat (j := 1) rfl, _, rfl, _, _, _, rfl, rfl, small_le (by rw [S_len]; omega), at_sign hc0 (by omega), rfl, ?_⟩
                refine .inr ⟨_, rfl, _, _, rfl, rfl, ?_, rfl⟩
                have hadd : addS one two c k3.2.2 = k3.2.2 + (if (!decide (one.getD c.toNat 0 = two.getD c.toNat 0)) = true then 1 else 0) := by
                  unfold addS comm
                  by_cases h1 : one.getD c.toNat 0 = two.getD c.toNat 0
                  · rw [decide_eq_true h1, if_neg (fun z => by cases z.2)]
                    rfl
                  · rw [decide_eq_false h1, if_pos ⟨h0, rfl⟩]
                    rfl
                rw [dec_sg, hadd]
                rfl
              · rw [decide_eq_false (show ¬ k3.2.2 ≥ 0 from h0)]
                refine iteF (.inr ⟨_, rfl, _, _, rfl, rfl, ?_, rfl⟩)
                have hadd : addS one two c k3.2.2 = k3.2.2 + 0 := by
                  unfold addS
                  rw [if_neg (fun z => h0 z.1)]
                rw [hadd]
                rfl
            · rintro σ' H'' ⟨rfl, rfl⟩
              refine ⟨_, rfl, _, rfl, _, _, rfl, rfl, _, rfl, ?_⟩
              by_cases hle : addS one two c k3.2.2 ≤ most
              · rw [decide_eq_true hle]
                rw [if_pos ⟨hin, hle⟩] at hsplit
                refine iteT ?_
                refine ⟨_, rfl, .inl ⟨rfl, _, SqL.of SA.lst⟩, _, rfl, _, rfl, _, _, rfl, rfl, _, rfl, _, rfl, (by show 3 ≤ sizeLine; decide), fun q hq => ?_⟩
                have sq := Same.new (o := .tup [.int (k3.1 + 1), .int k3.2.1, .int (addS one two c k3.2.2)]) hq
                have eq' : (upd H7 q (.tup [.int (k3.1 + 1), .int k3.2.1, .int (addS one two c k3.2.2)])) q = some (.tup (vK3 (k3.1 + 1, k3.2.1, addS one two c k3.2.2))) := upd_same
                have SA3 := SA.same sq
                have sk3 := sk.trans sq
                generalize upd H7 q (.tup [.int (k3.1 + 1), .int k3.2.1, .int (addS one two c k3.2.2)]) = H8 at eq' SA3 sk3 ⊢
                refine ⟨(by show 2 ≤ sizeLine; decide), fun y hy => ?_⟩
                have sy := Same.new (o := .tup [.int c, .ref q]) hy
                have ey : (upd H8 y (.tup [.int c, .ref q])) y = some (.tup [.int c, .ref q]) := upd_same
                have eq4 := sy _ _ eq'
                have SA4 := SA3.same sy
                have sk4 := sk3.trans sy
                have hpl := SA4.len
                rw [List.length_take] at hpl
                refine ⟨D, _, _, rfl, rfl, SA4.lst, small1000 (by rw [List.length_map]; omega), ps ++ [y], _, _, rfl, Same.mut sk4 hD, ?_⟩
                rw [hsplit]
                exact SA4.put ey eq4
              · rw [decide_eq_false hle]
                rw [if_neg (fun z => hle z.2), List.append_nil] at hsplit
                exact iteF ⟨ps, _, _, rfl, sk, by rw [hsplit]; exact SA⟩
          · have e : decide (s ∈ (S (if k3.2.1 = 0 then one else two)).cps.toList) = false := by
              show decide (s ∈ (pickS one two k3.2.1).toArray.toList) = false
              simp [hin]
            rw [e]
            rw [if_neg (fun z => hin z.1), List.append_nil] at hsplit
            exact iteF ⟨ps, _, _, rfl, sk, by rw [hsplit]; exact SA⟩
        · rintro σ' H8 ⟨ps, y13, y14, rfl, sk, SA⟩
          have hslen : (stepsK one two most tx k3).length ≤ 3 := by
            unfold stepsK
            rw [hsg]
            simp only
            split <;> simp
          have hDb : D ≠ b := fun w => by rw [w, eb6] at hD; cases hD
          have hDlv : D ≠ lv := fun w => by rw [w, elv6] at hD; cases hD
          have elv8 := sk _ _ elv6
          have eb8 := sk _ _ eb6
          have etp8 := sk _ _ etp6
          have R8 := R6.keep (KeepS.same sk)
          have ks8 := ks6.trans (KeepS.same sk)
          have sm8 := sm6.trans sk
          have hab : a ≠ b := fun w => htS (by simp [w])
          have halv : a ≠ lv := fun w => htS (by simp [w])
          clear etp6 eb6 elv6 R6 ks6 sm6 sk ez
          refine ⟨_, rfl, D, rfl, ⟨_, SqL.of SA.lst⟩, for_list (xs := ps.map V.ref) (fun j σ H' => ∃ (es' : List (K3 × Addr)) (M' : K3 → Option (List Int)) (y6 y13 : Option V), σ = [some (.ref t), some (.str (S tx)), some (.int st), some (.int most), some (.int (S one).length), some (.ref lv), y6, some (.ref b), some (.int k3.1), some (.int k3.2.1), some (.int k3.2.2), some (.ref a), some (.ref D), y13, y14, y15] ∧
            KeepS [b] H8 H' ∧ H' b = some (.dT (kvsOf es')) ∧ Rep H [b, lv] H' es' M' ∧ Nxt one two most tx st d (fun u c k' => (∃ (j : Nat) (k : K3) (a : Addr), j < i ∧ es[j]? = some (k, a) ∧ M k = some u ∧ Stp one two most tx k c k') ∨ (u = tp ∧ ∃ j', j' < j ∧ (stepsK one two most tx k3)[j']? = some (c, k'))) M') ⟨es', M', _, _, rfl, KeepS.refl _ _, eb8, R8, N'.imp fun u c k' h => h.resolve_right (fun z => by obtain ⟨_, j', h1, _⟩ := z; omega)⟩ ?_ ?_ ?_⟩
          · rintro j σ H' _ ⟨_, _, _, _, rfl, k, _⟩
            exact SqL.of (k _ _ (by simpa using hDb) SA.lst)
          · rintro j x σ H' hx ⟨es2, M2, y6, y13, rfl, kk, ebH, R2, N2⟩
            obtain ⟨p, hp, rfl⟩ : ∃ p, ps[j]? = some p ∧ x = V.ref p := by
              rw [List.getElem?_map] at hx
              cases e : ps[j]? with
              | none => rw [e] at hx; cases hx
              | some p => rw [e] at hx; cases hx; exact ⟨p, rfl, rfl⟩
            obtain ⟨c, k', qk, hcj, ep, eqk⟩ := SA.at' j p hp
            have hstp := steps_stp i1 (List.mem_of_getElem? hcj)
            have hpn : Pth one two most tx st (tp ++ [c]) k' := hpth.snoc hkne hstp
            have kT : ∀ u l, H8 u = some (.tup l) → H' u = some (.tup l) := fun u l e => kk u _ (fun w => by
              simp at w
              rw [w, eb8] at e
              cases e) e
            have etpH : H' a = some (.lst (Ints tp)) := kk _ _ (by simpa using hab) etp8
            have epH := kT _ _ ep
            have eqH := kT _ _ eqk
            have htl2 : tp.length ≤ 200 := by
              have h1 := hdL.1
              have h2 := Lf_bound (one := one) (two := two) (most := most) (tx := tx) (left := -1) hb hst
              omega
            refine ⟨p, _, rfl, SqT.of epH, rfl, _, _, rfl, _, _, rfl, rfl, ?_⟩
            have smH' : Same H H' := (show KeepS [b, lv] H8 H' from fun x o hx e => kk x o (fun w => hx (by simp at w; simp [w])) e).toSame sm8 hSN
            have elvH : H' lv = some (.frz od3 (.dT (kvsOf es))) := kk _ _ (by simpa using hlb) elv8
            have hfew2 := Rep.few R2 (fun k t h => (N2.sound k t h).1) hm0 hb hm1 hl
            refine ⟨fun H1 => Same H' H1 ∧ ∀ o, M2 k' = some o → HT.lexLt (tp ++ [c]) o = true, fun H1 => Same H' H1 ∧ ∃ o, M2 k' = some o ∧ HT.lexLt (tp ++ [c]) o = false, ?_, ?_, ?_⟩
            · refine ⟨_, rfl, _, rfl, b, _, rfl, DGet.t (k := key3 k') ebH eqH, _, rfl, ?_⟩
              cases hM2 : M2 k' with
              | none =>
                rw [R2.no hM2]
                exact iteT ⟨Same.refl _, fun o z => by cases z⟩
              | some o =>
                obtain ⟨ao, hao, eao, _, _⟩ := R2.val k' o hM2
                rw [val_es R2.nd hao]
                refine iteF ⟨_, rfl, _, rfl, (by show 1 ≤ sizeLine; decide), fun w hw => ?_⟩
                have sw := Same.new (o := .lst [.int c]) hw
                have ew : (upd H' w (.lst [.int c])) w = some (.lst [.int c]) := upd_same
                refine ⟨a, w, _, _, rfl, rfl, sw _ _ etpH, ew, small_le (by rw [List.length_map]; simp; omega), fun v hv => ?_⟩
                have sv := sw.trans (Same.new (o := .lst (Ints tp ++ [.int c])) hv)
                have ev : (upd (upd H' w (.lst [.int c])) v (.lst (Ints tp ++ [.int c]))) v = some (.lst (Ints (tp ++ [c]))) := by
                  rw [upd_same, ints_snoc]
                have hval2 : valV (kvsOf es2) (key3 k') = some (.ref ao) := val_es R2.nd hao
                have hg := DGet.t (k := key3 k') (sv _ _ ebH) (sv _ _ eqH)
                rw [hval2] at hg
                refine ⟨_, rfl, _, rfl, b, _, rfl, hg, v, ao, tp ++ [c], o, rfl, rfl, SqL.of ev, SqL.of (sv _ _ eao), _, rfl, ?_⟩
                by_cases hlt : HT.lexLt (tp ++ [c]) o = true
                · rw [hlt]
                  exact iteT ⟨sv, fun o' z => by cases z; exact hlt⟩
                · have hlt' : HT.lexLt (tp ++ [c]) o = false := by simpa using hlt
                  rw [hlt']
                  exact iteF ⟨sv, o, rfl, hlt'⟩
            · rintro H1 ⟨s1, hlt⟩
              refine ⟨_, rfl, _, rfl, (by show 1 ≤ sizeLine; decide), fun w hw => ?_⟩
              have sw := s1.trans (Same.new (o := .lst [.int c]) hw)
              have ew : (upd H1 w (.lst [.int c])) w = some (.lst [.int c]) := upd_same
              generalize upd H1 w (.lst [.int c]) = H2 at sw ew ⊢
              refine ⟨a, w, _, _, rfl, rfl, sw _ _ etpH, ew, small_le (by rw [List.length_map]; simp; omega), fun v hv => ?_⟩
              have sv := sw.trans (Same.new (o := .lst (Ints tp ++ [.int c])) hv)
              have ev : (upd H2 v (.lst (Ints tp ++ [.int c]))) v = some (.lst (Ints (tp ++ [c]))) := by
                rw [upd_same, ints_snoc]
              have hvb : v ≠ b := fun z => by rw [z, sw _ _ ebH] at hv; cases hv
              have hvl : v ≠ lv := fun z => by rw [z, sw _ _ elvH] at hv; cases hv
              have hvN : H v = none := (smH'.trans sw).free hv
              generalize upd H2 v (.lst (Ints tp ++ [.int c])) = H3 at sv ev ⊢
              have hput := DPut.t (k := key3 k') (v := .ref v) (sv _ _ ebH) (sv _ _ eqH) (size_big2 (by rw [len_kvs]; omega))
              rw [put_es] at hput
              have kU : KeepS [b] H3 (upd H3 b (.dT (kvsOf (putE es2 k' v)))) := KeepS.upd (by simp)
              have kU2 : KeepS [b, lv] H3 (upd H3 b (.dT (kvsOf (putE es2 k' v)))) := KeepS.upd (by simp)
              refine ⟨_, rfl, _, rfl, b, _, rfl, hput, putE es2 k' v, updM M2 k' (tp ++ [c]), _, _, rfl, (kk.trans (KeepS.same sv)).trans kU, upd_same, ((R2.keep (KeepS.same sv)).put ev (by simp [hvb, hvl]) hvN).keep kU2, (N2.put hpn htl hlt).imp fun u c2 k2 h => ?_⟩
              rcases h with h | ⟨rfl, j', hj', hje⟩
              · exact .inl (.inl h)
              · by_cases hjj : j' < j
                · exact .inl (.inr ⟨rfl, j', hjj, hje⟩)
                · have : j' = j := by omega
                  subst this
                  rw [hcj] at hje
                  cases hje
                  exact .inr ⟨rfl, rfl, rfl⟩
            · rintro H1 ⟨s1, o, ho, hlt⟩
              refine ⟨es2, M2, _, _, rfl, kk.trans (KeepS.same s1), s1 _ _ ebH, R2.keep (KeepS.same s1), (N2.skip ho hlt).imp fun u c2 k2 h => ?_⟩
              rcases h with h | ⟨rfl, j', hj', hje⟩
              · exact .inl (.inl h)
              · by_cases hjj : j' < j
                · exact .inl (.inr ⟨rfl, j', hjj, hje⟩)
                · have : j' = j := by omega
                  subst this
                  rw [hcj] at hje
                  cases hje
                  exact .inr ⟨rfl, rfl, rfl⟩
          · rintro σ H' ⟨es2, M2, y6, y13, rfl, kk, ebH, R2, N2⟩
            rw [List.length_map, SA.len] at N2
            refine ⟨es2, M2, _, _, _, _, _, _, _, _, _, rfl, ks8.trans (fun x o hx e => kk x o (fun w => hx (by simp at w; simp [w])) e), kk _ _ (by simpa using hlb) elv8, ebH, R2, N2.imp fun u c k' h => ?_⟩
            obtain ⟨j, k, a', hj, h1, h2, h3⟩ := h
            by_cases hji : j < i
            · exact .inl ⟨j, k, a', hji, h1, h2, h3⟩
            · have : j = i := by omega
              subst this
              rw [hes] at h1
              cases h1
              rw [hMk] at h2
              cases h2
              obtain ⟨j', hj', hje⟩ := List.getElem_of_mem (stp_steps h3)
              exact .inr ⟨rfl, j', hj', by rw [List.getElem?_eq_getElem hj', hje]⟩
      · rintro σ H' ⟨es', M', y6, y8, y9, y10, y11, y12, y13, y14, y15, rfl, ks, elvF, ebF, R', N'⟩
        rw [len_kvs] at N'
        refine ⟨elvF, ?_⟩
        have smH := ks.toSame sm5 hSN
        have sU : KeepS [b, lv] H' (upd H' lv (.dT (kvsOf es))) := KeepS.upd (by simp)
        refine ⟨_, rfl, b, es', M', _, _, _, _, _, _, _, _, _, _, rfl, sU.toSame smH hSN, hbN, by rw [upd_ne (Ne.symm hlb)]; exact ebF, (R'.keep sU).sub (by simp), N'.done hL fun k u c k' h1 h2 h3 => ?_⟩
        obtain ⟨a, h4, _⟩ := R.val k u h1
        obtain ⟨j, hj, hje⟩ := List.getElem_of_mem h4
        exact ⟨j, k, a, hj, by rw [List.getElem?_eq_getElem hj, hje], h1, h3⟩
    · have e : (((atEnd tx.length es).map Prod.fst).map dK3).isEmpty = false := by
        cases h : atEnd tx.length es with
        | nil => exact absurd h hE
        | cons x xs => rfl
      rw [e]
      refine iteF ?_
      refine ⟨lv, _, elvB, trivial, fun od2 => ?_⟩
      refine ⟨_, rfl, lv, od2, rfl, .inr ⟨_, upd_same, fun D2 hD2 => lc_it (walk_keysT (kvs := kvsOf es)) (fun i H2 => H2 D2 = some (.lst (((atEnd tx.length (es.take i)).map Prod.snd).map V.ref)) ∧ Same (upd HB lv (.frz od2 (.dT (kvsOf es)))) H2) ⟨upd_same, Same.new hD2⟩ ?_ ?_ ?_⟩⟩
      · rintro i H3 _ ⟨_, sk⟩
        exact sk _ _ upd_same
      · rintro i x _ H3 hi ⟨eD, sk⟩ ⟨rfl, k, v, qa, hk, rfl, eq⟩
        obtain ⟨k3, a, hes, rfl, rfl⟩ := es_at hk
        have htk := take_snoc hes
        have hil : i < es.length := (List.getElem?_eq_some_iff.mp hes).1
        refine ⟨rfl, _, rfl, qa, _, 0, _, rfl, rfl, SqT.of eq, atI_nat (j := 0) rfl, _, rfl, _, rfl, small_le (by rw [S_len]; omega), rfl, _, rfl, ?_⟩
        show if decide (V.int k3.1 = V.int ((S tx).length : Int)) = true then _ else _
        rw [dec_int, S_len, htk, atEnd_snoc]
        have hel := atEnd_len tx.length (es.take i)
        rw [List.length_take] at hel
        by_cases he : k3.1 = (tx.length : Int)
        · rw [decide_eq_true he, if_pos he]
          obtain ⟨tp, _, _, _, _, hval⟩ := R.at (List.mem_of_getElem? hes)
          refine iteT ⟨_, rfl, _, rfl, lv, _, rfl, .inr ⟨kvsOf es, key3 k3, qa, .inr ⟨od2, sk _ _ upd_same⟩, rfl, eq, hval.symm⟩, _, eD, size_big2 (by rw [List.length_map, List.length_map]; omega), ?_, Same.mut sk hD2⟩
          rw [upd_same, List.map_append, List.map_append]
          rfl
        · rw [decide_eq_false he, if_neg he]
          exact iteF ⟨eD, sk⟩
      rintro H3 ⟨eD, sk⟩
      rw [len_kvs, List.take_of_length_le (Nat.le_refl _)] at eD
      have elvF2 : H3 lv = some (.frz od2 (.dT (kvsOf es))) := sk _ _ upd_same
      refine ⟨elvF2, ?_⟩
      have sC : Same HB (upd H3 lv (.dT (kvsOf es))) := keep_back ((Keep.upd (H := HB) (d := lv) (o := .frz od2 (.dT (kvsOf es)))).trans (Keep.same sk)) elvB
      have hDlv : D2 ≠ lv := fun w => by
        rw [w, elvF2] at eD
        cases eD
      have eD2 : (upd H3 lv (.dT (kvsOf es))) D2 = some (.lst (((atEnd tx.length es).map Prod.snd).map V.ref)) := by
        rw [upd_ne hDlv]
        exact eD
      generalize upd H3 lv (.dT (kvsOf es)) = HC at sC eD2 ⊢
      have RC := RB.keep (KeepS.same sC)
      have hf : ∀ e ∈ atEnd tx.length es, M e.1 = some ((M e.1).getD []) ∧ HC e.2 = some (.lst (Ints ((M e.1).getD []))) ∧ H e.2 = none := fun e he => by
        obtain ⟨tp, h1, h2, h3, h4, _⟩ := RC.at (k := e.1) (a := e.2) (List.mem_filter.mp he).1
        rw [h1]
        exact ⟨rfl, h2, h4⟩
      have hend : ∀ e ∈ atEnd tx.length es, e.1.1 = (tx.length : Int) := fun e he => by simpa using (List.mem_filter.mp he).2
      have hall : ∀ k y, k.1 = (tx.length : Int) → M k = some y → ∃ e ∈ atEnd tx.length es, e.1 = k := fun k y hk hy => by
        obtain ⟨a, h1, _⟩ := RC.val k y hy
        exact ⟨(k, a), List.mem_filter.mpr ⟨h1, by simpa using hk⟩, rfl⟩
      generalize atEnd tx.length es = L at hf hend hall hE eD2
      cases L with
      | nil => exact absurd rfl hE
      | cons e0 L =>
        have hB := lvl_best (x := (M e0.1).getD []) (xs := L.map fun e => (M e.1).getD []) hm0 hb hL hno (fun y hy => by
          have hy' : y ∈ (e0 :: L).map fun e => (M e.1).getD [] := hy
          obtain ⟨e, he, rfl⟩ := List.mem_map.mp hy'
          exact ⟨e.1, hend e he, (hf e he).1⟩) (fun k y hk hy => by
          obtain ⟨e, he, hek⟩ := hall k y hk hy
          show y ∈ (e0 :: L).map fun e => (M e.1).getD []
          exact List.mem_map.mpr ⟨e, he, by rw [hek, hy]; rfl⟩)
        refine ⟨D2, (e0 :: L).map Prod.snd, (M e0.1).getD [], L.map fun e => (M e.1).getD [], rfl, SqL.of eD2, dp_lists (f := fun e => (M e.1).getD []) (L := e0 :: L) fun e he => (hf e he).2.1, fun j p hj hx => ?_⟩
        rw [List.getElem?_map] at hj
        cases hej : (e0 :: L)[j]? with
        | none => rw [hej] at hj; cases hj
        | some e =>
          rw [hej] at hj
          cases hj
          have hx' : ((e0 :: L).map fun e => (M e.1).getD [])[j]? = some (lexMin ((M e0.1).getD []) (L.map fun e => (M e.1).getD [])) := hx
          rw [List.getElem?_map, hej] at hx'
          have he := List.mem_of_getElem? hej
          have h5 := (hf e he).2.1
          have h6 : (M e.1).getD [] = lexMin ((M e0.1).getD []) (L.map fun e => (M e.1).getD []) := Option.some.inj hx'
          rw [h6] at h5
          exact q HC e.2 _ (smB.trans sC) (hf e he).2.2 hB h5

/-! ### the law -/
theorem at_21 {k : Int} (h0 : 0 ≤ k) (h1 : k < 4) : ∃ m : Int, atI [V.int 1, V.int 2, V.int 5, V.int 21] k = some (.int m) ∧ 1 ≤ m ∧ m ≤ 21 := by
  have : k = 0 ∨ k = 1 ∨ k = 2 ∨ k = 3 := by omega
  rcases this with rfl | rfl | rfl | rfl
  · exact ⟨1, atI_nat (j := 0) rfl, by decide, by decide⟩
  · exact ⟨2, atI_nat (j := 1) rfl, by decide, by decide⟩
  · exact ⟨5, atI_nat (j := 2) rfl, by decide, by decide⟩
  · exact ⟨21, atI_nat (j := 3) rfl, by decide, by decide⟩
theorem at_12 {k : Int} (h0 : 0 ≤ k) (h1 : k < 3) : ∃ m : Int, atI [V.int 12, V.int 12, V.int 40] k = some (.int m) ∧ 0 ≤ m ∧ m ≤ 40 := by
  have : k = 0 ∨ k = 1 ∨ k = 2 := by omega
  rcases this with rfl | rfl | rfl
  · exact ⟨12, atI_nat (j := 0) rfl, by decide, by decide⟩
  · exact ⟨12, atI_nat (j := 1) rfl, by decide, by decide⟩
  · exact ⟨40, atI_nat (j := 2) rfl, by decide, by decide⟩
def spLaw (K : PySem.W.Frag) : Sp := fun vs H Q _ => ∃ (a : Addr) (ns : List Int), vs = [.ref a] ∧ SqL K H a (ns.map V.int) ∧ ns.length ≤ 63 ∧ ∀ H', Q (.bl true) H'
theorem ok_law (T : Txt K mg) : FnOk P w K mg base CX0 7 T.a_law T.d_law ["_law_script"] (spLaw K) := by
  refine T.F_law.ok sc_law (fun vs H Q E h => ?_) (fun cdv A outer s H vs Q E hr h => ?_)
  · obtain ⟨a, ns, rfl, _⟩ := h
    rfl
  · obtain ⟨a, ns, rfl, hS, hn, q⟩ := h
    refine ⟨_,
    (pss_cons (ps_set (i := 1) sc_law.nd rfl (Or.inl rfl) (pe_call (ok_l_dice T) (hr.mono (by decide)) (by rfl) T.g_l_dice T.F_l_dice.kp T.b_l_dice .nil pass0 (pa_cons (pv 0) (pa_cons pe_int pa_nil)))) 
    (pss_cons (ps_set (i := 2) sc_law.nd rfl (Or.inl rfl) (pe_call (ok_l_sets T) (hr.mono (by decide)) (by rfl) T.g_l_sets T.F_l_sets.kp T.b_l_sets .nil pass0 (pa_cons (pv 1) pa_nil))) 
    (pss_cons (ps_for PassesOwn.never rfl (pi_range1 (by rfl) T.m_range (pa_cons pe_int pa_nil)) (pg_name (i := 3) sc_law.nd rfl (Or.inl rfl)) 
      (pss_cons (ps_set (i := 4) sc_law.nd rfl (Or.inl rfl) (pe_call (ok_l_text T) (hr.mono (by decide)) (by rfl) T.g_l_text T.F_l_text.kp T.b_l_text .nil pass0 (pa_cons (pv 1) (pa_cons (pv 2) (pa_cons (pe_ix ix_list (pe_lst (pa_cons pe_int (pa_cons pe_int (pa_cons pe_int pa_nil)))) (pe_call (ok_l_offK T) (hr.mono (by decide)) (by rfl) T.g_l_off T.F_l_off.kp T.b_l_off .nil pass0 (pa_cons (pv 1) (pa_cons pe_int pa_nil))) (fun _ _ => rfl)) pa_nil))))) 
      (C8.pss_cut (ps_if (pt_cmpR op_eq (pe_call (ok_l_offK T) (hr.mono (by decide)) (by rfl) T.g_l_off T.F_l_off.kp T.b_l_off .nil pass0 (pa_cons (pv 1) (pa_cons pe_int pa_nil))) pe_int (nomark _)) 
        (pss_one (ps_set (i := 4) sc_law.nd rfl (Or.inl rfl) (pe_call (ok_l_runs T) (hr.mono (by decide)) (by rfl) T.g_l_runs T.F_l_runs.kp T.b_l_runs .nil pass0 (pa_cons (pv 1) (pa_cons (pv 2) pa_nil))))) pss_nil) 
      (pss_cons (ps_set (i := 5) sc_law.nd rfl (Or.inl rfl) (pe_call (ok_l_offK T) (hr.mono (by decide)) (by rfl) T.g_l_off T.F_l_off.kp T.b_l_off .nil pass0 (pa_cons (pv 1) (pa_cons (pe_ix ix_list (pe_lst (pa_cons pe_int (pa_cons pe_int (pa_cons pe_int (pa_cons pe_int pa_nil))))) (pe_call (ok_l_offK T) (hr.mono (by decide)) (by rfl) T.g_l_off T.F_l_off.kp T.b_l_off .nil pass0 (pa_cons (pv 1) (pa_cons pe_int pa_nil))) (fun _ _ => rfl)) pa_nil)))) 
      (pss_one (ps_for PassesOwn.never rfl (pi_range1 (by rfl) T.m_range (pa_cons pe_int pa_nil)) (pg_name (i := 6) sc_law.nd rfl (Or.inl rfl)) 
        (pss_one (ps_for PassesOwn.never rfl (pi_range1 (by rfl) T.m_range (pa_cons pe_int pa_nil)) (pg_name (i := 7) sc_law.nd rfl (Or.inl rfl)) 
          (pss_cons (ps_set (i := 8) sc_law.nd rfl (Or.inl rfl) (pe_call (ok_p_guarded T) (hr.mono (by decide)) (by rfl) T.g_p_guarded T.F_p_guarded.kp T.b_p_guarded .nil pass0 (pa_cons (pv 2) (pa_cons (pv 4) (pa_cons (pv 6) (pa_cons (pv 5) pa_nil)))))) 
          (pss_cons (ps_if (PW.pt (pw_or (pt_not (pt_val (pe_call (ok_l_is_tape T) (hr.mono (by decide)) (by rfl) T.g_l_is_tape T.F_l_is_tape.kp T.b_l_is_tape .nil pass0 (pa_cons (pv 8) (pa_cons (pv 2) pa_nil))))) (pw_or1 (pt_cmpR op_ne (pe_ix ix_tup (pe_call (ok_p_read T) (hr.mono (by decide)) (by rfl) T.g_p_read T.F_p_read.kp T.b_p_read .nil pass0 (pa_cons (pv 2) (pa_cons (pv 8) (pa_cons (pv 6) pa_nil)))) pe_int (fun _ _ => rfl)) (pv 4) (nomark _))))) 
            (pss_one (ps_ret pe_bl)) pss_nil) 
          (pss_cons (ps_if (pt_cmpR op_gt (pe_callB (cr_max rfl) (by rfl) T.m_max (by decide +kernel) (pa_cons (pe_op op_cat (pe_call (ok_l_losses T) (hr.mono (by decide)) (by rfl) T.g_l_losses T.F_l_losses.kp T.b_l_losses .nil pass0 (pa_cons (pv 2) (pa_cons (pv 8) (pa_cons (pv 6) pa_nil)))) (pe_lst (pa_cons pe_int pa_nil))) pa_nil)) (pv 5) (nomark _)) 
            (pss_one (ps_ret pe_bl)) pss_nil) 
          (pss_cons (ps_if (pt_not (pt_val (pe_call (ok_l_alike T 2) (hr.mono (by decide)) (by rfl) T.g_l_alike T.F_l_alike.kp T.b_l_alike .nil pass0 (pa_cons (pv 8) (pa_cons (pe_call (ok_l_shortest T) (hr.mono (by decide)) (by rfl) T.g_l_shortest T.F_l_shortest.kp T.b_l_shortest .nil pass0 (pa_cons (pv 2) (pa_cons (pv 4) (pa_cons (pv 6) (pa_cons (pv 5) pa_nil))))) pa_nil))))) 
            (pss_one (ps_ret pe_bl)) pss_nil) 
          (pss_one (ps_expr (pe_bm PySem.F.plainAttrs_list PySem.F.slot_list_append PySem.F.type_list_append mt_append (pv 8) (pa_cons pe_int pa_nil)))))))))))))))) 
    (pss_one (ps_ret pe_bl))))), ?_⟩
    refine ⟨_, rfl, a, ns, rfl, hS, hn, fun H1 d ds sm1 hd e1 hD => ?_⟩
    refine ⟨_, rfl, d, ds, rfl, e1, hD, fun H2 t ds2 one two kp2 ht e2 hD2 eT hs => ?_⟩
    have htp := hs.top
    have htd : t ≠ d := ne_of eT e2 (by intro z; cases z)
    refine ⟨3, rfl, by decide, by decide, for_range (n := 3) (fun i σ H' => ∃ y3 y4 y5 y6 y7 y8 ds', σ = [some (.ref a), some (.ref d), some (.ref t), y3, y4, y5, y6, y7, y8] ∧ Keep d H2 H' ∧ H' d = some (.lst (Ints ds')) ∧ Dice ds') ⟨none, none, none, none, none, none, ds2, rfl, Keep.refl _ _, e2, hD2⟩ ?_ ?_⟩
    · rintro i σ H' hi ⟨y3, y4, y5, y6, y7, y8, ds', rfl, kp, ed, hD'⟩
      refine ⟨_, rfl, _, rfl, (by show 3 ≤ sizeLine; decide), fun l hl => ?_⟩
      have sl := Same.new (o := .lst [.int 12, .int 12, .int 40]) hl
      have el : (upd H' l (.lst [.int 12, .int 12, .int 40])) l = some (.lst [.int 12, .int 12, .int 40]) := upd_same
      have hdl : d ≠ l := ne_of_none ed hl
      have ed2 := sl _ _ ed
      have kp2' := kp.trans (Keep.same sl)
      generalize upd H' l (.lst [.int 12, .int 12, .int 40]) = H3 at el ed2 kp2' ⊢
      refine ⟨_, rfl, d, ds', 3, rfl, ed2, hD', by decide, by decide, fun k0 ds3 H4 hk0 hk1 hD3 kp4 e4 => ?_⟩
      obtain ⟨m, hm, hm0, hm1⟩ := at_12 hk0 hk1
      have kp5 := kp2'.trans kp4
      refine ⟨l, _, k0, _, rfl, rfl, SqL.of (kp4 _ _ (Ne.symm hdl) el), hm, d, t, ds3, one, two, m, rfl, e4, hD3, kp5 _ _ htd eT, hs, hm0, by omega, fun H5 ds4 tx0 kp6 e5 hD4 hst0 hlx0 => ?_⟩
      have kp7 := kp5.trans kp6
      refine ⟨fun σ' H'' => ∃ (tx : List Nat) (ds' : List Int), σ' = [some (.ref a), some (.ref d), some (.ref t), some (.int (0 + (i : Nat))), some (.str (S tx)), y5, y6, y7, y8] ∧ Keep d H2 H'' ∧ H'' d = some (.lst (Ints ds')) ∧ Dice ds' ∧ Stands one two tx ∧ tx.length ≤ 40, ?_, ?_⟩
      · refine ⟨_, rfl, d, ds4, 2, rfl, e5, hD4, by decide, by decide, fun k1 ds5 H6 hk2 hk3 hD5 kp8 e6 => ?_⟩
        have kp9 := kp7.trans kp8
        refine ⟨rfl, _, rfl, ite2 (fun h => ?_) (fun h => ?_)⟩
        · refine ⟨_, rfl, _, rfl, d, t, ds5, one, two, rfl, e6, hD5, kp9 _ _ htd eT, hs, fun H7 ds6 tx kp10 e7 hD6 hst hlx => ?_⟩
          exact ⟨tx, ds6, rfl, kp9.trans kp10, e7, hD6, hst, hlx⟩
        · exact ⟨tx0, ds5, rfl, kp9, e6, hD5, hst0, by omega⟩
      · rintro σ' H6 ⟨tx, ds6, rfl, kpA, e6, hD6, hst, hlx⟩
        -- the number
        refine ⟨_, rfl, (by show 4 ≤ sizeLine; decide), fun l2 hl2 => ?_⟩
        have sl2 := Same.new (o := .lst [.int 1, .int 2, .int 5, .int 21]) hl2
        have el2 : (upd H6 l2 (.lst [.int 1, .int 2, .int 5, .int 21])) l2 = some (.lst [.int 1, .int 2, .int 5, .int 21]) := upd_same
        have hdl2 : d ≠ l2 := ne_of_none e6 hl2
        have e6' := sl2 _ _ e6
        have kpA' := kpA.trans (Keep.same sl2)
        generalize upd H6 l2 (.lst [.int 1, .int 2, .int 5, .int 21]) = H6' at el2 e6' kpA' ⊢
        refine ⟨_, rfl, d, ds6, 4, rfl, e6', hD6, by decide, by decide, fun k2 ds7 H7 hk4 hk5 hD7 kp11 e7 => ?_⟩
        obtain ⟨mm, hmm, hmm0, hmm1⟩ := at_21 hk4 hk5
        refine ⟨l2, _, k2, _, rfl, rfl, SqL.of (kp11 _ _ (Ne.symm hdl2) el2), hmm, d, ds7, mm, rfl, e7, hD7, hmm0, by omega, fun most ds8 H8 hmo0 hmo1 hD8 kp12 e8 => ?_⟩
        have kpB := (kpA'.trans kp11).trans kp12
        have eT6 : SetsAt H8 t one two := kpB _ _ htd eT
        refine ⟨2, rfl, by decide, by decide, for_range (n := 2) (fun j σ H' => ∃ y6 y7 y8, σ = [some (.ref a), some (.ref d), some (.ref t), some (.int (0 + (i : Nat))), some (.str (S tx)), some (.int most), y6, y7, y8] ∧ Same H8 H') ⟨_, _, _, rfl, Same.refl _⟩ ?_ ?_⟩
        · rintro j σ H9 hj ⟨y6, y7, y8, rfl, sm⟩
          have hb : Bit (0 + (j : Nat)) := by
            unfold Bit
            omega
          generalize hst' : (0 + (j : Nat) : Int) = st at hb
          refine ⟨2, rfl, by decide, by decide, for_range (n := 2) (fun k σ H' => ∃ y7 y8, σ = [some (.ref a), some (.ref d), some (.ref t), some (.int (0 + (i : Nat))), some (.str (S tx)), some (.int most), some (.int st), y7, y8] ∧ Same H8 H') ⟨_, _, rfl, sm⟩ ?_ ?_⟩
          · rintro k σ H10 hk ⟨y7, y8, rfl, sm8⟩
            refine ⟨_, rfl, _, rfl, _, rfl, _, rfl, t, one, two, tx, st, most, rfl, sm8 _ _ eT6, hs, hb, hst, by omega, hmo0, by omega, fun H11 r R s9 hr B er => ?_⟩
            have hrN := sm8.free hr
            have sm9 := sm8.trans s9
            have hlR := B.short hb hst (by omega)
            obtain ⟨hc, hrd, _⟩ := B.1.read hs
            refine ⟨_, rfl, _, rfl, r, t, one, two, R, rfl, sm9 _ _ eT6, htp, er, hc, by omega, fun H12 s10 => ⟨_, rfl, iteF ?_⟩⟩
            have sm10 := sm9.trans s10
            have er10 := s10 _ _ er
            refine ⟨_, rfl, _, rfl, _, rfl, t, r, one, two, R, st, rfl, sm10 _ _ eT6, hs, er10, ⟨by omega, hc⟩, hb, fun H13 p s11 hp ep => ?_⟩
            have sm11 := sm10.trans s11
            have er11 := s11 _ _ er10
            refine ⟨p, _, 0, _, rfl, rfl, SqT.of ep, atI_nat (j := 0) rfl, _, rfl, rfl, _, rfl, ?_⟩
            rw [dec_str, decide_eq_true hrd]
            refine iteF ?_
            -- the losses
            refine ⟨_, rfl, _, rfl, _, rfl, t, r, one, two, R, st, rfl, sm11 _ _ eT6, hs, er11, hc, by omega, hb, fun H14 L s12 hL eL => ?_⟩
            refine ⟨(by show 1 ≤ sizeLine; decide), fun z hz => ?_⟩
            have sz := Same.new (o := .lst [.int 0]) hz
            have ez : (upd H14 z (.lst [.int 0])) z = some (.lst [.int 0]) := upd_same
            have eLz := sz _ _ eL
            have sm12 := (sm11.trans s12).trans sz
            have er12 := sz _ _ (s12 _ _ er11)
            generalize upd H14 z (.lst [.int 0]) = H15 at ez eLz sm12 er12 ⊢
            have hLl : (losL one two st R).length ≤ 120 := by
              unfold losL
              rw [List.length_map, List.length_range]
              omega
            refine ⟨L, z, _, _, rfl, rfl, eLz, ez, small_le (by rw [List.length_map]; simp; omega), fun v hv => ?_⟩
            have sv := Same.new (o := .lst (Ints (losL one two st R) ++ [.int 0])) hv
            have ev : (upd H15 v (.lst (Ints (losL one two st R) ++ [.int 0]))) v = some (.lst (Ints (losL one two st R ++ [0]))) := by
              rw [upd_same, ints_snoc]
            have sm13 := sm12.trans sv
            have er13 := sv _ _ er12
            generalize upd H15 v (.lst (Ints (losL one two st R) ++ [.int 0])) = H16 at ev sm13 er13 ⊢
            refine ⟨v, _, rfl, SqL.of ev, by simp, fun mx hmx hle => ?_⟩
            have hg := (B.1.guard hs hmo0 (by decide)).1
            have hmost : mx ≤ most := by
              rcases List.mem_append.mp hmx with hmx | hmx
              · obtain ⟨j', hj', rfl⟩ := List.mem_map.mp hmx
                exact hg j' (List.mem_range.mp hj')
              · rw [List.mem_singleton.mp hmx]
                exact hmo0
            refine ⟨_, rfl, _, _, rfl, rfl, _, rfl, ?_⟩
            rw [decide_eq_false (show ¬ most < mx by omega)]
            refine iteF ?_
            refine ⟨_, rfl, _, rfl, _, rfl, _, rfl, _, rfl, t, one, two, tx, st, most, rfl, sm13 _ _ eT6, hs, hb, hst, by omega, hmo0, by omega, fun H17 p2 R2 s14 hp2 B2 er2 => ?_⟩
            have sm14 := sm13.trans s14
            have er14 := s14 _ _ er13
            have e : R2 = R := B2.unique B
            rw [e] at er2
            refine ⟨.ref r, .ref p2, _, rfl, tk_ints er14 (by omega), tk_ints er2 (by omega), depth_ints R, fun H18 s15 => ⟨true, rfl, iteF ?_⟩⟩
            have sm15 := sm14.trans s15
            have er15 := s15 _ _ er14
            exact ⟨_, rfl, .inl ⟨rfl, _, SqL.of er15⟩, r, _, _, rfl, rfl, er15, small1000 (by rw [List.length_map]; omega), _, _, rfl, Same.mut sm15 hrN⟩
          · rintro σ H10 ⟨y7, y8, rfl, sm8⟩
            exact ⟨_, _, _, rfl, sm8⟩
        · rintro σ H9 ⟨y6, y7, y8, rfl, sm⟩
          exact ⟨_, _, _, _, _, _, ds8, rfl, kpB.trans (Keep.same sm), sm _ _ e8, hD8⟩
    · rintro σ H' ⟨y3, y4, y5, y6, y7, y8, ds', rfl, kp, ed, hD'⟩
      exact q H'

end
/-! ### what the top has written; the end -/
theorem all_mk {l : PySem.W.OpenLaw} {w : World} {K : PySem.W.Frag} {h : Heap} {mg : Str → Option Value} {fa f0 f1 f2 f3 f4 f5 f6 f7 f8 f9 f10 f11 f12 f13 f14 f15 f16 f17 f18 f19 f20 f21 f22 f23 f24 : Addr} (X : K.In h) (G : h.Ns mainGlobals mg) (hfa : mg "law" = some (.ref fa))
    {od0 an0 od1 an1 od2 an2 od3 an3 od4 an4 od5 an5 od6 an6 od7 an7 od8 an8 od9 an9 od10 an10 od11 an11 od12 an12 od13 an13 od14 an14 od15 an15 od16 an16 od17 an17 od18 an18 od19 an19 od20 an20 od21 an21 od22 an22 od23 an23 od24 an24 : Option Addr} {sl0 sl1 sl2 sl3 sl4 sl5 sl6 sl7 sl8 sl9 sl10 sl11 sl12 sl13 sl14 sl15 sl16 sl17 sl18 sl19 sl20 sl21 sl22 sl23 sl24 : Array (Option Value)} {oc0 kV0 dc0 pm0 cd0 ct0 oc1 kV1 dc1 pm1 cd1 ct1 oc2 kV2 dc2 pm2 cd2 ct2 oc3 kV3 dc3 pm3 cd3 ct3 oc4 kV4 dc4 pm4 cd4 ct4 oc5 kV5 dc5 pm5 cd5 ct5 oc6 kV6 dc6 pm6 cd6 ct6 oc7 kV7 dc7 pm7 cd7 ct7 oc8 kV8 dc8 pm8 cd8 ct8 oc9 kV9 dc9 pm9 cd9 ct9 oc10 kV10 dc10 pm10 cd10 ct10 oc11 kV11 dc11 pm11 cd11 ct11 oc12 kV12 dc12 pm12 cd12 ct12 oc13 kV13 dc13 pm13 cd13 ct13 oc14 kV14 dc14 pm14 cd14 ct14 oc15 kV15 dc15 pm15 cd15 ct15 oc16 kV16 dc16 pm16 cd16 ct16 oc17 kV17 dc17 pm17 cd17 ct17 oc18 kV18 dc18 pm18 cd18 ct18 oc19 kV19 dc19 pm19 cd19 ct19 oc20 kV20 dc20 pm20 cd20 ct20 oc21 kV21 dc21 pm21 cd21 ct21 oc22 kV22 dc22 pm22 cd22 ct22 oc23 kV23 dc23 pm23 cd23 ct23 oc24 kV24 dc24 pm24 cd24 ct24 : Value} {t0 t1 t2 t3 t4 : Tok}
    (a0 : PySem.W.nsIn K mainGlobals "can_be_set" = some (some (.ref f0))) (l0 : K.lookup f0 = some ⟨oc0, od0, .func (PySem.W.fnOf "can_be_set" "can_be_set" (defArgs s_p_can_be_set) (defBody s_p_can_be_set) (defScope s_p_can_be_set) .none kV0 dc0 pm0 an0 cd0 ct0), sl0⟩) (c0 : PySem.W.codeIn K cd0 "can_be_set" = true) (k0 : PySem.W.keepIn K (.ref f0) = true)
    (a1 : PySem.W.nsIn K mainGlobals "check_sets" = some (some (.ref f1))) (l1 : K.lookup f1 = some ⟨oc1, od1, .func (PySem.W.fnOf "check_sets" "check_sets" (defArgs s_p_check_sets) (defBody s_p_check_sets) (defScope s_p_check_sets) .none kV1 dc1 pm1 an1 cd1 ct1), sl1⟩) (c1 : PySem.W.codeIn K cd1 "check_sets" = true) (k1 : PySem.W.keepIn K (.ref f1) = true)
    (a2 : PySem.W.nsIn K mainGlobals "check_tape" = some (some (.ref f2))) (l2 : K.lookup f2 = some ⟨oc2, od2, .func (PySem.W.fnOf "check_tape" "check_tape" (defArgs s_p_check_tape) (defBody s_p_check_tape) (defScope s_p_check_tape) .none kV2 dc2 pm2 an2 cd2 ct2), sl2⟩) (c2 : PySem.W.codeIn K cd2 "check_tape" = true) (k2 : PySem.W.keepIn K (.ref f2) = true)
    (a3 : PySem.W.nsIn K mainGlobals "check_state" = some (some (.ref f3))) (l3 : K.lookup f3 = some ⟨oc3, od3, .func (PySem.W.fnOf "check_state" "check_state" (defArgs s_p_check_state) (defBody s_p_check_state) (defScope s_p_check_state) .none kV3 dc3 pm3 an3 cd3 ct3), sl3⟩) (c3 : PySem.W.codeIn K cd3 "check_state" = true) (k3 : PySem.W.keepIn K (.ref f3) = true)
    (a4 : PySem.W.nsIn K mainGlobals "is_common" = some (some (.ref f4))) (l4 : K.lookup f4 = some ⟨oc4, od4, .func (PySem.W.fnOf "is_common" "is_common" (defArgs s_p_is_common) (defBody s_p_is_common) (defScope s_p_is_common) .none kV4 dc4 pm4 an4 cd4 ct4), sl4⟩) (c4 : PySem.W.codeIn K cd4 "is_common" = true) (k4 : PySem.W.keepIn K (.ref f4) = true)
    (a5 : PySem.W.nsIn K mainGlobals "read" = some (some (.ref f5))) (l5 : K.lookup f5 = some ⟨oc5, od5, .func (PySem.W.fnOf "read" "read" (defArgs s_p_read) (defBody s_p_read) (defScope s_p_read) .none kV5 dc5 pm5 an5 cd5 ct5), sl5⟩) (c5 : PySem.W.codeIn K cd5 "read" = true) (k5 : PySem.W.keepIn K (.ref f5) = true)
    (a6 : PySem.W.nsIn K mainGlobals "check_text" = some (some (.ref f6))) (l6 : K.lookup f6 = some ⟨oc6, od6, .func (PySem.W.fnOf "check_text" "check_text" (defArgs s_p_check_text) (defBody s_p_check_text) (defScope s_p_check_text) .none kV6 dc6 pm6 an6 cd6 ct6), sl6⟩) (c6 : PySem.W.codeIn K cd6 "check_text" = true) (k6 : PySem.W.keepIn K (.ref f6) = true)
    (a7 : PySem.W.nsIn K mainGlobals "sign_step" = some (some (.ref f7))) (l7 : K.lookup f7 = some ⟨oc7, od7, .func (PySem.W.fnOf "sign_step" "sign_step" (defArgs s_p_sign_step) (defBody s_p_sign_step) (defScope s_p_sign_step) .none kV7 dc7 pm7 an7 cd7 ct7), sl7⟩) (c7 : PySem.W.codeIn K cd7 "sign_step" = true) (k7 : PySem.W.keepIn K (.ref f7) = true)
    (a8 : PySem.W.nsIn K mainGlobals "steps" = some (some (.ref f8))) (l8 : K.lookup f8 = some ⟨oc8, od8, .func (PySem.W.fnOf "steps" "steps" (defArgs s_p_steps) (defBody s_p_steps) (defScope s_p_steps) .none kV8 dc8 pm8 an8 cd8 ct8), sl8⟩) (c8 : PySem.W.codeIn K cd8 "steps" = true) (k8 : PySem.W.keepIn K (.ref f8) = true)
    (a9 : PySem.W.nsIn K mainGlobals "lengths_ahead" = some (some (.ref f9))) (l9 : K.lookup f9 = some ⟨oc9, od9, .func (PySem.W.fnOf "lengths_ahead" "lengths_ahead" (defArgs s_p_lengths_ahead) (defBody s_p_lengths_ahead) (defScope s_p_lengths_ahead) .none kV9 dc9 pm9 an9 cd9 ct9), sl9⟩) (c9 : PySem.W.codeIn K cd9 "lengths_ahead" = true) (k9 : PySem.W.keepIn K (.ref f9) = true)
    (a10 : PySem.W.nsIn K mainGlobals "shortest_lengths" = some (some (.ref f10))) (l10 : K.lookup f10 = some ⟨oc10, od10, .func (PySem.W.fnOf "shortest_lengths" "shortest_lengths" (defArgs s_p_shortest_lengths) (defBody s_p_shortest_lengths) (defScope s_p_shortest_lengths) .none kV10 dc10 pm10 an10 cd10 ct10), sl10⟩) (c10 : PySem.W.codeIn K cd10 "shortest_lengths" = true) (k10 : PySem.W.keepIn K (.ref f10) = true)
    (a11 : PySem.W.nsIn K mainGlobals "shortest" = some (some (.ref f11))) (l11 : K.lookup f11 = some ⟨oc11, od11, .func (PySem.W.fnOf "shortest" "shortest" (defArgs s_p_shortest) (defBody s_p_shortest) (defScope s_p_shortest) .none kV11 dc11 pm11 an11 cd11 ct11), sl11⟩) (c11 : PySem.W.codeIn K cd11 "shortest" = true) (k11 : PySem.W.keepIn K (.ref f11) = true)
    (a12 : PySem.W.nsIn K mainGlobals "guarded" = some (some (.ref f12))) (l12 : K.lookup f12 = some ⟨oc12, od12, .func (PySem.W.fnOf "guarded" "guarded" (defArgs s_p_guarded) (defBody s_p_guarded) (defScope s_p_guarded) .none kV12 dc12 pm12 an12 cd12 ct12), sl12⟩) (c12 : PySem.W.codeIn K cd12 "guarded" = true) (k12 : PySem.W.keepIn K (.ref f12) = true)
    (a13 : PySem.W.nsIn K mainGlobals "_law_dice" = some (some (.ref f13))) (l13 : K.lookup f13 = some ⟨oc13, od13, .func (PySem.W.fnOf "_law_dice" "_law_dice" (defArgs s_l_dice) (defBody s_l_dice) (defScope s_l_dice) .none kV13 dc13 pm13 an13 cd13 ct13), sl13⟩) (c13 : PySem.W.codeIn K cd13 "_law_dice" = true) (k13 : PySem.W.keepIn K (.ref f13) = true)
    (a14 : PySem.W.nsIn K mainGlobals "_law_off" = some (some (.ref f14))) (l14 : K.lookup f14 = some ⟨oc14, od14, .func (PySem.W.fnOf "_law_off" "_law_off" (defArgs s_l_off) (defBody s_l_off) (defScope s_l_off) .none kV14 dc14 pm14 an14 cd14 ct14), sl14⟩) (c14 : PySem.W.codeIn K cd14 "_law_off" = true) (k14 : PySem.W.keepIn K (.ref f14) = true)
    (a15 : PySem.W.nsIn K mainGlobals "_law_alike" = some (some (.ref f15))) (l15 : K.lookup f15 = some ⟨oc15, od15, .func (PySem.W.fnOf "_law_alike" "_law_alike" (defArgs s_l_alike) (defBody s_l_alike) (defScope s_l_alike) .none kV15 dc15 pm15 an15 cd15 ct15), sl15⟩) (c15 : PySem.W.codeIn K cd15 "_law_alike" = true) (k15 : PySem.W.keepIn K (.ref f15) = true)
    (a16 : PySem.W.nsIn K mainGlobals "_law_mixed" = some (some (.ref f16))) (l16 : K.lookup f16 = some ⟨oc16, od16, .func (PySem.W.fnOf "_law_mixed" "_law_mixed" (defArgs s_l_mixed) (defBody s_l_mixed) (defScope s_l_mixed) .none kV16 dc16 pm16 an16 cd16 ct16), sl16⟩) (c16 : PySem.W.codeIn K cd16 "_law_mixed" = true) (k16 : PySem.W.keepIn K (.ref f16) = true)
    (a17 : PySem.W.nsIn K mainGlobals "_law_sets" = some (some (.ref f17))) (l17 : K.lookup f17 = some ⟨oc17, od17, .func (PySem.W.fnOf "_law_sets" "_law_sets" (defArgs s_l_sets) (defBody s_l_sets) (defScope s_l_sets) .none kV17 dc17 pm17 an17 cd17 ct17), sl17⟩) (c17 : PySem.W.codeIn K cd17 "_law_sets" = true) (k17 : PySem.W.keepIn K (.ref f17) = true)
    (a18 : PySem.W.nsIn K mainGlobals "_law_text" = some (some (.ref f18))) (l18 : K.lookup f18 = some ⟨oc18, od18, .func (PySem.W.fnOf "_law_text" "_law_text" (defArgs s_l_text) (defBody s_l_text) (defScope s_l_text) .none kV18 dc18 pm18 an18 cd18 ct18), sl18⟩) (c18 : PySem.W.codeIn K cd18 "_law_text" = true) (k18 : PySem.W.keepIn K (.ref f18) = true)
    (a19 : PySem.W.nsIn K mainGlobals "_law_gone" = some (some (.ref f19))) (l19 : K.lookup f19 = some ⟨oc19, od19, .func (PySem.W.fnOf "_law_gone" "_law_gone" (defArgs s_l_gone) (defBody s_l_gone) (defScope s_l_gone) .none kV19 dc19 pm19 an19 cd19 ct19), sl19⟩) (c19 : PySem.W.codeIn K cd19 "_law_gone" = true) (k19 : PySem.W.keepIn K (.ref f19) = true)
    (a20 : PySem.W.nsIn K mainGlobals "_law_losses" = some (some (.ref f20))) (l20 : K.lookup f20 = some ⟨oc20, od20, .func (PySem.W.fnOf "_law_losses" "_law_losses" (defArgs s_l_losses) (defBody s_l_losses) (defScope s_l_losses) .none kV20 dc20 pm20 an20 cd20 ct20), sl20⟩) (c20 : PySem.W.codeIn K cd20 "_law_losses" = true) (k20 : PySem.W.keepIn K (.ref f20) = true)
    (a21 : PySem.W.nsIn K mainGlobals "_law_shortest" = some (some (.ref f21))) (l21 : K.lookup f21 = some ⟨oc21, od21, .func (PySem.W.fnOf "_law_shortest" "_law_shortest" (defArgs s_l_shortest) (defBody s_l_shortest) (defScope s_l_shortest) .none kV21 dc21 pm21 an21 cd21 ct21), sl21⟩) (c21 : PySem.W.codeIn K cd21 "_law_shortest" = true) (k21 : PySem.W.keepIn K (.ref f21) = true)
    (a22 : PySem.W.nsIn K mainGlobals "_law_is_tape" = some (some (.ref f22))) (l22 : K.lookup f22 = some ⟨oc22, od22, .func (PySem.W.fnOf "_law_is_tape" "_law_is_tape" (defArgs s_l_is_tape) (defBody s_l_is_tape) (defScope s_l_is_tape) .none kV22 dc22 pm22 an22 cd22 ct22), sl22⟩) (c22 : PySem.W.codeIn K cd22 "_law_is_tape" = true) (k22 : PySem.W.keepIn K (.ref f22) = true)
    (a23 : PySem.W.nsIn K mainGlobals "_law_runs" = some (some (.ref f23))) (l23 : K.lookup f23 = some ⟨oc23, od23, .func (PySem.W.fnOf "_law_runs" "_law_runs" (defArgs s_l_runs) (defBody s_l_runs) (defScope s_l_runs) .none kV23 dc23 pm23 an23 cd23 ct23), sl23⟩) (c23 : PySem.W.codeIn K cd23 "_law_runs" = true) (k23 : PySem.W.keepIn K (.ref f23) = true)
    (a24 : PySem.W.nsIn K mainGlobals "law" = some (some (.ref f24))) (l24 : K.lookup f24 = some ⟨oc24, od24, .func (PySem.W.fnOf "law" "law" (defArgs s_law) (defBody s_law) (defScope s_law) .none kV24 dc24 pm24 an24 cd24 ct24), sl24⟩) (c24 : PySem.W.codeIn K cd24 "law" = true) (k24 : PySem.W.keepIn K (.ref f24) = true)
    (z0 : PySem.W.nsIn K mainGlobals "ValueError" = some none)
    (z1 : PySem.W.nsIn K mainGlobals "abs" = some none)
    (z2 : PySem.W.nsIn K mainGlobals "all" = some none)
    (z3 : PySem.W.nsIn K mainGlobals "bool" = some none)
    (z4 : PySem.W.nsIn K mainGlobals "enumerate" = some none)
    (z5 : PySem.W.nsIn K mainGlobals "int" = some none)
    (z6 : PySem.W.nsIn K mainGlobals "isinstance" = some none)
    (z7 : PySem.W.nsIn K mainGlobals "len" = some none)
    (z8 : PySem.W.nsIn K mainGlobals "list" = some none)
    (z9 : PySem.W.nsIn K mainGlobals "max" = some none)
    (z10 : PySem.W.nsIn K mainGlobals "min" = some none)
    (z11 : PySem.W.nsIn K mainGlobals "range" = some none)
    (z12 : PySem.W.nsIn K mainGlobals "reversed" = some none)
    (z13 : PySem.W.nsIn K mainGlobals "set" = some none)
    (z14 : PySem.W.nsIn K mainGlobals "str" = some none)
    (z15 : PySem.W.nsIn K mainGlobals "tuple" = some none)
    (q0 : PySem.W.nsIn K mainGlobals "MOST_SIGNS" = some (some (.int (10) t0)))
    (q1 : PySem.W.nsIn K mainGlobals "MOST_CODES" = some (some (.int (200) t1)))
    (q2 : PySem.W.nsIn K mainGlobals "MOST_SPOILT" = some (some (.int (20) t2)))
    (q3 : PySem.W.nsIn K mainGlobals "FREE" = some (some (.int (-1) t3)))
    (q4 : PySem.W.nsIn K mainGlobals "NEVER" = some (some (.int (1000000) t4)))
    : ∃ fd : FuncData, (∀ (s : Shared) (v : Value), BindsTo s fd ⟨[v], []⟩ [("_law_script", v)]) ∧ ∀ base : Heap, K.In base → base.Ns mainGlobals mg → FnOk l.prog w K mg base CX0 7 fa fd ["_law_script"] (spLaw K) := by
  have e := hfa.symm.trans (PySem.W.mg_of X G a24)
  cases e
  have F0 := fun_mk (st := s_p_can_be_set) l0 c0 k0
  have F1 := fun_mk (st := s_p_check_sets) l1 c1 k1
  have F2 := fun_mk (st := s_p_check_tape) l2 c2 k2
  have F3 := fun_mk (st := s_p_check_state) l3 c3 k3
  have F4 := fun_mk (st := s_p_is_common) l4 c4 k4
  have F5 := fun_mk (st := s_p_read) l5 c5 k5
  have F6 := fun_mk (st := s_p_check_text) l6 c6 k6
  have F7 := fun_mk (st := s_p_sign_step) l7 c7 k7
  have F8 := fun_mk (st := s_p_steps) l8 c8 k8
  have F9 := fun_mk (st := s_p_lengths_ahead) l9 c9 k9
  have F10 := fun_mk (st := s_p_shortest_lengths) l10 c10 k10
  have F11 := fun_mk (st := s_p_shortest) l11 c11 k11
  have F12 := fun_mk (st := s_p_guarded) l12 c12 k12
  have F13 := fun_mk (st := s_l_dice) l13 c13 k13
  have F14 := fun_mk (st := s_l_off) l14 c14 k14
  have F15 := fun_mk (st := s_l_alike) l15 c15 k15
  have F16 := fun_mk (st := s_l_mixed) l16 c16 k16
  have F17 := fun_mk (st := s_l_sets) l17 c17 k17
  have F18 := fun_mk (st := s_l_text) l18 c18 k18
  have F19 := fun_mk (st := s_l_gone) l19 c19 k19
  have F20 := fun_mk (st := s_l_losses) l20 c20 k20
  have F21 := fun_mk (st := s_l_shortest) l21 c21 k21
  have F22 := fun_mk (st := s_l_is_tape) l22 c22 k22
  have F23 := fun_mk (st := s_l_runs) l23 c23 k23
  have F24 := fun_mk (st := s_law) l24 c24 k24
  let T : Txt K mg := {
    a_p_can_be_set := _, d_p_can_be_set := _, F_p_can_be_set := F0, g_p_can_be_set := PySem.W.mg_of X G a0,
    b_p_can_be_set := F0.binds (ps := ["text"]) fun _ _ _ _ _ _ us hl => match us, hl with | [_], _ => rfl,
    a_p_check_sets := _, d_p_check_sets := _, F_p_check_sets := F1, g_p_check_sets := PySem.W.mg_of X G a1,
    b_p_check_sets := F1.binds (ps := ["sets"]) fun _ _ _ _ _ _ us hl => match us, hl with | [_], _ => rfl,
    a_p_check_tape := _, d_p_check_tape := _, F_p_check_tape := F2, g_p_check_tape := PySem.W.mg_of X G a2,
    b_p_check_tape := F2.binds (ps := ["sets", "tape"]) fun _ _ _ _ _ _ us hl => match us, hl with | [_, _], _ => rfl,
    a_p_check_state := _, d_p_check_state := _, F_p_check_state := F3, g_p_check_state := PySem.W.mg_of X G a3,
    b_p_check_state := F3.binds (ps := ["state"]) fun _ _ _ _ _ _ us hl => match us, hl with | [_], _ => rfl,
    a_p_is_common := _, d_p_is_common := _, F_p_is_common := F4, g_p_is_common := PySem.W.mg_of X G a4,
    b_p_is_common := F4.binds (ps := ["sets", "code"]) fun _ _ _ _ _ _ us hl => match us, hl with | [_, _], _ => rfl,
    a_p_read := _, d_p_read := _, F_p_read := F5, g_p_read := PySem.W.mg_of X G a5,
    b_p_read := F5.binds (ps := ["sets", "tape", "state"]) fun _ _ _ _ _ _ us hl => match us, hl with | [_, _, _], _ => rfl,
    a_p_check_text := _, d_p_check_text := _, F_p_check_text := F6, g_p_check_text := PySem.W.mg_of X G a6,
    b_p_check_text := F6.binds (ps := ["sets", "text"]) fun _ _ _ _ _ _ us hl => match us, hl with | [_, _], _ => rfl,
    a_p_sign_step := _, d_p_sign_step := _, F_p_sign_step := F7, g_p_sign_step := PySem.W.mg_of X G a7,
    b_p_sign_step := F7.binds (ps := ["sets", "sign", "state", "left"]) fun _ _ _ _ _ _ us hl => match us, hl with | [_, _, _, _], _ => rfl,
    a_p_steps := _, d_p_steps := _, F_p_steps := F8, g_p_steps := PySem.W.mg_of X G a8,
    b_p_steps := F8.binds (ps := ["sets", "sign", "state", "left", "most"]) fun _ _ _ _ _ _ us hl => match us, hl with | [_, _, _, _, _], _ => rfl,
    a_p_lengths_ahead := _, d_p_lengths_ahead := _, F_p_lengths_ahead := F9, g_p_lengths_ahead := PySem.W.mg_of X G a9,
    b_p_lengths_ahead := F9.binds (ps := ["sets", "sign", "behind", "most"]) fun _ _ _ _ _ _ us hl => match us, hl with | [_, _, _, _], _ => rfl,
    a_p_shortest_lengths := _, d_p_shortest_lengths := _, F_p_shortest_lengths := F10, g_p_shortest_lengths := PySem.W.mg_of X G a10,
    b_p_shortest_lengths := F10.binds (ps := ["sets", "text", "most"]) fun _ _ _ _ _ _ us hl => match us, hl with | [_, _, _], _ => rfl,
    a_p_shortest := _, d_p_shortest := _, F_p_shortest := F11, g_p_shortest := PySem.W.mg_of X G a11,
    b_p_shortest := F11.binds (ps := ["sets", "text", "state", "most"]) fun _ _ _ _ _ _ us hl => match us, hl with | [_, _, _, _], _ => rfl,
    a_p_guarded := _, d_p_guarded := _, F_p_guarded := F12, g_p_guarded := PySem.W.mg_of X G a12,
    b_p_guarded := F12.binds (ps := ["sets", "text", "state", "most"]) fun _ _ _ _ _ _ us hl => match us, hl with | [_, _, _, _], _ => rfl,
    a_l_dice := _, d_l_dice := _, F_l_dice := F13, g_l_dice := PySem.W.mg_of X G a13,
    b_l_dice := F13.binds (ps := ["_law_script", "_law_k"]) fun _ _ _ _ _ _ us hl => match us, hl with | [_, _], _ => rfl,
    a_l_off := _, d_l_off := _, F_l_off := F14, g_l_off := PySem.W.mg_of X G a14,
    b_l_off := F14.binds (ps := ["_law_d", "_law_most"]) fun _ _ _ _ _ _ us hl => match us, hl with | [_, _], _ => rfl,
    a_l_alike := _, d_l_alike := _, F_l_alike := F15, g_l_alike := PySem.W.mg_of X G a15,
    b_l_alike := F15.binds (ps := ["_law_found", "_law_due"]) fun _ _ _ _ _ _ us hl => match us, hl with | [_, _], _ => rfl,
    a_l_mixed := _, d_l_mixed := _, F_l_mixed := F16, g_l_mixed := PySem.W.mg_of X G a16,
    b_l_mixed := F16.binds (ps := ["_law_d", "_law_row"]) fun _ _ _ _ _ _ us hl => match us, hl with | [_, _], _ => rfl,
    a_l_sets := _, d_l_sets := _, F_l_sets := F17, g_l_sets := PySem.W.mg_of X G a17,
    b_l_sets := F17.binds (ps := ["_law_d"]) fun _ _ _ _ _ _ us hl => match us, hl with | [_], _ => rfl,
    a_l_text := _, d_l_text := _, F_l_text := F18, g_l_text := PySem.W.mg_of X G a18,
    b_l_text := F18.binds (ps := ["_law_d", "_law_sets_here", "_law_most"]) fun _ _ _ _ _ _ us hl => match us, hl with | [_, _, _], _ => rfl,
    a_l_gone := _, d_l_gone := _, F_l_gone := F19, g_l_gone := PySem.W.mg_of X G a19,
    b_l_gone := F19.binds (ps := ["_law_sets_here", "_law_tape", "_law_state"]) fun _ _ _ _ _ _ us hl => match us, hl with | [_, _, _], _ => rfl,
    a_l_losses := _, d_l_losses := _, F_l_losses := F20, g_l_losses := PySem.W.mg_of X G a20,
    b_l_losses := F20.binds (ps := ["_law_sets_here", "_law_tape", "_law_state"]) fun _ _ _ _ _ _ us hl => match us, hl with | [_, _, _], _ => rfl,
    a_l_shortest := _, d_l_shortest := _, F_l_shortest := F21, g_l_shortest := PySem.W.mg_of X G a21,
    b_l_shortest := F21.binds (ps := ["_law_sets_here", "_law_text_here", "_law_state", "_law_most"]) fun _ _ _ _ _ _ us hl => match us, hl with | [_, _, _, _], _ => rfl,
    a_l_is_tape := _, d_l_is_tape := _, F_l_is_tape := F22, g_l_is_tape := PySem.W.mg_of X G a22,
    b_l_is_tape := F22.binds (ps := ["_law_tape", "_law_sets_here"]) fun _ _ _ _ _ _ us hl => match us, hl with | [_, _], _ => rfl,
    a_l_runs := _, d_l_runs := _, F_l_runs := F23, g_l_runs := PySem.W.mg_of X G a23,
    b_l_runs := F23.binds (ps := ["_law_d", "_law_sets_here"]) fun _ _ _ _ _ _ us hl => match us, hl with | [_, _], _ => rfl,
    a_law := _, d_law := _, F_law := F24, g_law := PySem.W.mg_of X G a24,
    b_law := F24.binds (ps := ["_law_script"]) fun _ _ _ _ _ _ us hl => match us, hl with | [_], _ => rfl,
    m_ValueError := PySem.W.mg_none_of X G z0,
    m_abs := PySem.W.mg_none_of X G z1,
    m_all := PySem.W.mg_none_of X G z2,
    m_bool := PySem.W.mg_none_of X G z3,
    m_enumerate := PySem.W.mg_none_of X G z4,
    m_int := PySem.W.mg_none_of X G z5,
    m_isinstance := PySem.W.mg_none_of X G z6,
    m_len := PySem.W.mg_none_of X G z7,
    m_list := PySem.W.mg_none_of X G z8,
    m_max := PySem.W.mg_none_of X G z9,
    m_min := PySem.W.mg_none_of X G z10,
    m_range := PySem.W.mg_none_of X G z11,
    m_reversed := PySem.W.mg_none_of X G z12,
    m_set := PySem.W.mg_none_of X G z13,
    m_str := PySem.W.mg_none_of X G z14,
    m_tuple := PySem.W.mg_none_of X G z15,
    t_MOST_SIGNS := _, c_MOST_SIGNS := PySem.W.mg_of X G q0,
    t_MOST_CODES := _, c_MOST_CODES := PySem.W.mg_of X G q1,
    t_MOST_SPOILT := _, c_MOST_SPOILT := PySem.W.mg_of X G q2,
    t_FREE := _, c_FREE := PySem.W.mg_of X G q3,
    t_NEVER := _, c_NEVER := PySem.W.mg_of X G q4 }
  exact ⟨_, fun s v => .of_eq rfl, fun base _ _ => ok_law T⟩
end Sh
open PySem PySem.W PyProof.Rows
set_option maxHeartbeats 0 in
theorem PySem.Challenge.cw_shiftrow_k06_whole_guarded_holds : PySem.Challenge.rw_shiftrow_k06_whole_guarded.Holds := by
  w_on; o_law; k_head; (case hw => w_witness2)
  k_fill
  refine L2.walk_of (l := PySem.Challenge.rw_shiftrow_k06_whole_guarded) (n := 63) (k := 7) (x := "_law_script") (CX := fun _ => L2.CX0) (sp := fun w => Sh.spLaw _) rfl (by decide) rfl ⟨rfl, by decide, by decide⟩ (fun w h Y => PySem.W.kIn_of Y) ?F (fun _ _ a ns hl _ hS => ⟨a, ns, rfl, hS, hl, fun _ => rfl⟩) (fun _ _ _ _ _ h => h)
  case F =>
    intro w mg fa h KX G hmg
    refine' Sh.all_mk KX G hmg ?a0 ?l0 ?c0 ?k0 ?a1 ?l1 ?c1 ?k1 ?a2 ?l2 ?c2 ?k2 ?a3 ?l3 ?c3 ?k3 ?a4 ?l4 ?c4 ?k4 ?a5 ?l5 ?c5 ?k5 ?a6 ?l6 ?c6 ?k6 ?a7 ?l7 ?c7 ?k7 ?a8 ?l8 ?c8 ?k8 ?a9 ?l9 ?c9 ?k9 ?a10 ?l10 ?c10 ?k10 ?a11 ?l11 ?c11 ?k11 ?a12 ?l12 ?c12 ?k12 ?a13 ?l13 ?c13 ?k13 ?a14 ?l14 ?c14 ?k14 ?a15 ?l15 ?c15 ?k15 ?a16 ?l16 ?c16 ?k16 ?a17 ?l17 ?c17 ?k17 ?a18 ?l18 ?c18 ?k18 ?a19 ?l19 ?c19 ?k19 ?a20 ?l20 ?c20 ?k20 ?a21 ?l21 ?c21 ?k21 ?a22 ?l22 ?c22 ?k22 ?a23 ?l23 ?c23 ?k23 ?a24 ?l24 ?c24 ?k24 ?z0 ?z1 ?z2 ?z3 ?z4 ?z5 ?z6 ?z7 ?z8 ?z9 ?z10 ?z11 ?z12 ?z13 ?z14 ?z15 ?q0 ?q1 ?q2 ?q3 ?q4
    (case a0 => k_is); (case l0 => k_is); (case c0 => k_is); (case k0 => k_is); (case a1 => k_is); (case l1 => k_is); (case c1 => k_is); (case k1 => k_is); (case a2 => k_is); (case l2 => k_is); (case c2 => k_is); (case k2 => k_is); (case a3 => k_is); (case l3 => k_is); (case c3 => k_is); (case k3 => k_is); (case a4 => k_is); (case l4 => k_is); (case c4 => k_is); (case k4 => k_is); (case a5 => k_is); (case l5 => k_is); (case c5 => k_is); (case k5 => k_is); (case a6 => k_is); (case l6 => k_is); (case c6 => k_is); (case k6 => k_is); (case a7 => k_is); (case l7 => k_is); (case c7 => k_is); (case k7 => k_is); (case a8 => k_is); (case l8 => k_is); (case c8 => k_is); (case k8 => k_is); (case a9 => k_is); (case l9 => k_is); (case c9 => k_is); (case k9 => k_is); (case a10 => k_is); (case l10 => k_is); (case c10 => k_is); (case k10 => k_is); (case a11 => k_is); (case l11 => k_is); (case c11 => k_is); (case k11 => k_is); (case a12 => k_is); (case l12 => k_is); (case c12 => k_is); (case k12 => k_is); (case a13 => k_is); (case l13 => k_is); (case c13 => k_is); (case k13 => k_is); (case a14 => k_is); (case l14 => k_is); (case c14 => k_is); (case k14 => k_is); (case a15 => k_is); (case l15 => k_is); (case c15 => k_is); (case k15 => k_is); (case a16 => k_is); (case l16 => k_is); (case c16 => k_is); (case k16 => k_is); (case a17 => k_is); (case l17 => k_is); (case c17 => k_is); (case k17 => k_is); (case a18 => k_is); (case l18 => k_is); (case c18 => k_is); (case k18 => k_is); (case a19 => k_is); (case l19 => k_is); (case c19 => k_is); (case k19 => k_is); (case a20 => k_is); (case l20 => k_is); (case c20 => k_is); (case k20 => k_is); (case a21 => k_is); (case l21 => k_is); (case c21 => k_is); (case k21 => k_is); (case a22 => k_is); (case l22 => k_is); (case c22 => k_is); (case k22 => k_is); (case a23 => k_is); (case l23 => k_is); (case c23 => k_is); (case k23 => k_is); (case a24 => k_is); (case l24 => k_is); (case c24 => k_is); (case k24 => k_is); (case z0 => k_is); (case z1 => k_is); (case z2 => k_is); (case z3 => k_is); (case z4 => k_is); (case z5 => k_is); (case z6 => k_is); (case z7 => k_is); (case z8 => k_is); (case z9 => k_is); (case z10 => k_is); (case z11 => k_is); (case z12 => k_is); (case z13 => k_is); (case z14 => k_is); (case z15 => k_is); (case q0 => k_is); (case q1 => k_is); (case q2 => k_is); (case q3 => k_is); (case q4 => k_is)

