import PyProof.Rows.All
import Wide.All
import OpenK.AllK
import Wide.FinOn
import HandS.ForMost
import HandS.IsInst
import HandS.Codes
import PyProof.ListStr
import PyProof.EqAt
import PyProof.P3Eq
import HandS.Strs
import HandS.Walk
import PyProof.Rows.SetFrom
import PyProof.StrWalks
import PyProof.MaxThree
import KE.DatumOrd
import HandS.RevTup
import HandS.Iter
import HandS.DictComp
import KE.KDictDisplayH
import PyProof.DictTable
import HandS.Replace
import PyProof.StrLawsFirst
import HandS.Words
import HandS.Style
import KE.GoesMore
import PyProof.EnumMake
import PyProof.Draws
import HandS.ExcInit
import HandS.ExcIs
import HandS.ExcField
import HandS.FStr
import HandS.WordsExc
import HandS.ExcOwn
import KE.KExcIs
import HandS.Conv
import HandS.SortInts
import KE.IntTextLaws
import HandS.ExcCtx
import HandS.Hot
import HandS.HotCalls
import HandS.ExcInitHot
import HandS.Lambda
import HandS.EndTab
import KE.KDflt
import KE.KNestM
import PySem.Challenge.RW_shiftrow_k03_tapes_and_states_refused
set_option Elab.async false
set_option linter.all false
set_option maxRecDepth 100000
set_option maxHeartbeats 4000000
namespace Sh
open PySem PySem.Spec PyProof.Rows L2
open SX (S S_inj S_len S_cat S_beq_eq)


/-! ### lists of values -/
abbrev Ints (ns : List Int) : List V := ns.map V.int
def sg (c : Nat) : V := .str (S [c])
abbrev Sgs (cs : List Nat) : List V := cs.map sg

/-! ### heaps -/
/-- all but d stands -/
def Keep (d : Addr) (H H' : Hp) : Prop := ∀ b o, b ≠ d → H b = some o → H' b = some o
theorem Keep.refl (d : Addr) (H : Hp) : Keep d H H := fun _ _ _ h => h
theorem Keep.trans {d : Addr} {H H1 H2 : Hp} (a : Keep d H H1) (b : Keep d H1 H2) : Keep d H H2 := fun x o n h => b x o n (a x o n h)
theorem Keep.same {d : Addr} {H H1 : Hp} (a : Same H H1) : Keep d H H1 := fun x o _ h => a x o h
theorem Keep.upd {d : Addr} {H : Hp} {o : HO} : Keep d H (upd H d o) := fun x u n h => by
  rw [upd_ne n]
  exact h
theorem Same.new {H : Hp} {p : Addr} {o : HO} (h : H p = none) : Same H (upd H p o) := fun b x e => by
  rw [upd_ne (ne_of_none e h)]
  exact e
/-- what was not known ahead may change -/
theorem Same.mut {H H' : Hp} {p : Addr} {o : HO} (e : Same H H') (h : H p = none) : Same H (L2.upd H' p o) := fun a u ha => by
  rw [upd_ne (ne_of_none ha h)]
  exact e a u ha
theorem Keep.mut {d : Addr} {H H' : Hp} {p : Addr} {o : HO} (e : Keep d H H') (h : H p = none) : Keep d H (L2.upd H' p o) := fun a u n ha => by
  rw [upd_ne (ne_of_none ha h)]
  exact e a u n ha
theorem Keep.free {d : Addr} {H H' : Hp} (e : Keep d H H') {o : HO} (hd : H' d = some o) {l : Addr} (h : H' l = none) : H l = none := by
  cases q : H l with
  | none => rfl
  | some u =>
    by_cases n : l = d
    · subst n
      rw [hd] at h
      cases h
    · rw [e l u n q] at h
      cases h
theorem upd_self {H : Hp} {p : Addr} {o : HO} (h : H p = some o) : L2.upd H p o = H := by
  funext b
  by_cases e : b = p
  · subst e
    rw [upd_same, h]
  · rw [upd_ne e]
theorem Same.at {H H' : Hp} (e : Same H H') {p : Addr} {o : HO} (h : H p = some o) : H' p = some o := e p o h

theorem small_le {n : Nat} (h : n ≤ 1000) : n ≤ sizeLine := Nat.le_of_lt (small1000 h)
theorem ixn {n j : Nat} (h : j < n) : ixN n (j : Int) = some j := by
  unfold ixN
  rw [if_pos (by omega), if_pos (by omega)]
  simp
/-! ### the dice -/
def Dice (ds : List Int) : Prop := ∃ f r bs, ds = f :: r :: bs ∧ 0 ≤ f ∧ f < 2147483647 ∧ 0 ≤ r ∧ (∀ b ∈ bs, 0 ≤ b) ∧ bs.length ≤ 63

/-! ### list of a text -/
theorem vals_of : ∀ {xs : List V} {us : List Value}, xs.length = us.length → (∀ (j : Nat) x u, xs[j]? = some x → us[j]? = some u → RelV x u) → Vals xs us
  | [], [], _, _ => .nil
  | [], _ :: _, h, _ => by simp at h
  | _ :: _, [], h, _ => by simp at h
  | x :: xs, u :: us, h, k => .cons (k 0 x u rfl rfl) (vals_of (by simpa using h) fun j x' u' h1 h2 => k (j + 1) x' u' (by simpa using h1) (by simpa using h2))
section
variable {X : Cx}
theorem vals_signs {x : Str} {its : Array Value} (h : ItemsOf (SignAt x) its x.cps.size) : Vals (Sgs x.cps.toList) its.toList := by
  refine vals_of ?_ fun j y u h1 h2 => ?_
  · simp [h.1]
  · obtain ⟨c, t, e1, e2⟩ := h.2 j u (by simpa using h2)
    rw [List.getElem?_map, Array.getElem?_toList, e1] at h1
    cases h1
    exact ⟨t, e2⟩
/-- list(text) -/
theorem call_list_text (hc : X.calm = true) : CallR X (.type "list") (fun xs H Q => ∃ cs : List Nat, xs = [.str (S cs)] ∧ cs.length ≤ sizeLine ∧ ∀ l, H l = none → Q (.ref l) (upd H l (.lst (Sgs cs)))) := by
  intro pins s σ H xs us Q I r h
  obtain ⟨cs, rfl, hz, q⟩ := h
  obtain ⟨u, rfl, rx⟩ := vals1 r
  obtain ⟨t, rfl⟩ := rx
  refine call_list_str (I.ok.hd hc) (S cs) t (fun h' tk acc' c' kp e its => ?_) (by simpa using hz)
  have v := vals_signs its
  exact ⟨.ref s.heap.objs.size, _, I.laid (t' := tk) kp (Nat.le_refl _) (show ObjOk X.prog X.w _ h' _ (.lst (Sgs cs)) from ⟨by simpa using hz, acc'.toList, c', by simpa using v, by simpa using e⟩), rfl, q _ (I.hok.fresh (Nat.le_refl _))⟩
end

/-! ### tables of signs -/
/-- two sets of signs -/
structure Sets (one two : List Nat) : Prop where
  pos : 1 ≤ one.length
  top : one.length ≤ 10
  same : two.length = one.length
  nd1 : one.Nodup
  nd2 : two.Nodup
  pl1 : ∀ c ∈ one, c < 127
  pl2 : ∀ c ∈ two, c < 127
/-- a tape over sets of n signs -/
def Tape (n : Nat) (tp : List Int) : Prop := tp.length ≤ 200 ∧ ∀ c ∈ tp, 0 ≤ c ∧ c < (n : Int) + 2
/-- the sign of a code in a state -/
def sgn (one two : List Nat) (st c : Int) : Nat := (if st = 0 then one else two).getD c.toNat 0
/-- what is read, the state behind -/
def rdT (one two : List Nat) : Int → List Int → List Nat
  | _, [] => []
  | st, c :: r => if c < (one.length : Int) then sgn one two st c :: rdT one two st r else rdT one two (c - one.length) r
def rdS (one : List Nat) : Int → List Int → Int
  | st, [] => st
  | st, c :: r => if c < (one.length : Int) then rdS one st r else rdS one (c - one.length) r
/-- the sets as an object -/
def SetsAt (H : Hp) (a : Addr) (one two : List Nat) : Prop := H a = some (.tup [.str (S one), .str (S two)])


/-! ### data, for == and != -/
def flatD : PyData → Bool
  | .none => true
  | .bool _ => true
  | .int _ => true
  | .str x => PyData.strOk x
  | _ => false
theorem flat_lay : ∀ {ds : List PyData}, ds.all flatD = true → PyData.canLayAll0 ds = true ∧ PyData.depthAll ds = 0
  | [], _ => ⟨by simp [PyData.canLayAll0], by simp [PyData.depthAll]⟩
  | d :: ds, h => by
    rw [List.all_cons, Bool.and_eq_true] at h
    obtain ⟨h1, h2⟩ := flat_lay h.2
    have h0 := h.1
    cases d <;> simp [flatD, PyData.canLayAll0, PyData.depthAll, PyData.canLay0, PyData.depth, h1, h2] at h0 ⊢ <;> exact h0
theorem shaped_list {ds : List PyData} (h : ds.all flatD = true) : SeqAt.shaped (.list ds) = true := by
  obtain ⟨h1, h2⟩ := flat_lay h
  simp [SeqAt.shaped, PyData.canLay0, PyData.depth, h1, h2]
theorem shaped_tuple {ds : List PyData} (h : ds.all flatD = true) : SeqAt.shaped (.tuple ds) = true := by
  obtain ⟨h1, h2⟩ := flat_lay h
  simp [SeqAt.shaped, PyData.canLay0, PyData.depth, h1, h2]
abbrev dInts (ns : List Int) : PyData := .list (ns.map .int)
abbrev dSgs (cs : List Nat) : PyData := .list (cs.map fun c => .str (S [c]))
theorem flat_ints (ns : List Int) : (ns.map PyData.int).all flatD = true := by
  induction ns with
  | nil => rfl
  | cons n ns ih => simp [flatD, ih]
theorem shaped_ints (ns : List Int) : SeqAt.shaped (dInts ns) = true := shaped_list (flat_ints ns)
theorem flat_sgs {cs : List Nat} (h : ∀ c ∈ cs, c < 1114112) : (cs.map fun c => PyData.str (S [c])).all flatD = true := by
  induction cs with
  | nil => rfl
  | cons n ns ih =>
    have h1 := h n (by simp)
    have h2 := ih fun c hc => h c (by simp [hc])
    simp only [List.map_cons, List.all_cons, h2, Bool.and_true]
    simp [flatD, PyData.strOk, h1]
theorem shaped_sgs {cs : List Nat} (h : ∀ c ∈ cs, c < 1114112) : SeqAt.shaped (dSgs cs) = true := shaped_list (flat_sgs h)
theorem eqv_ints : ∀ xs ys : List Int, PyData.eqv (dInts xs) (dInts ys) = decide (xs = ys)
  | [], [] => by simp [PyData.eqv, PyData.eqvAll]
  | [], _ :: _ => by simp [PyData.eqv, PyData.eqvAll]
  | _ :: _, [] => by simp [PyData.eqv, PyData.eqvAll]
  | x :: xs, y :: ys => by
    have ih := eqv_ints xs ys
    simp only [PyData.eqv] at ih
    simp only [dInts, List.map_cons, PyData.eqv, PyData.eqvAll, ih]
    by_cases h : x = y <;> simp [h]
theorem eqv_nil (ds : List PyData) : PyData.eqv (.list ds) (.list []) = ds.isEmpty := by
  cases ds <;> simp [PyData.eqv, PyData.eqvAll]
theorem dp_ints {K : PySem.W.Frag} {H : Hp} (ns : List Int) : DpAll K H (Ints ns) (ns.map .int) := by
  induction ns with
  | nil => exact .nil
  | cons n ns ih => exact .cons (.int n) ih
theorem dp_sgs {K : PySem.W.Frag} {H : Hp} (cs : List Nat) : DpAll K H (Sgs cs) (cs.map fun c => .str (S [c])) := by
  induction cs with
  | nil => exact .nil
  | cons n ns ih => exact .cons (.str _) ih
theorem Dp.ints {K : PySem.W.Frag} {H : Hp} {a : Addr} {ns : List Int} (h : H a = some (.lst (Ints ns))) : Dp K H (.ref a) (dInts ns) := .lst (SqL.of h) (dp_ints ns)
theorem Dp.sgs {K : PySem.W.Frag} {H : Hp} {a : Addr} {cs : List Nat} (h : H a = some (.lst (Sgs cs))) : Dp K H (.ref a) (dSgs cs) := .lst (SqL.of h) (dp_sgs cs)
/-! ### lists of one-sign texts -/
theorem joinL_one : ∀ cs : List Nat, TL.joinL [] (cs.map fun c => [c]) = cs
  | [] => rfl
  | [c] => rfl
  | c :: d :: ds => by
    have ih := joinL_one (d :: ds)
    simp only [List.map_cons, TL.joinL] at ih ⊢
    rw [ih]
    rfl
theorem join_sgs (cs : List Nat) : Txt.join (S []) ((cs.map fun c => S [c])) = S cs := by
  have e : (cs.map fun c => S [c]) = (cs.map fun c => [c]).map S := by
    rw [List.map_map]
    rfl
  rw [e, SX.join_S, joinL_one]
theorem Sgs_eq (cs : List Nat) : Sgs cs = (cs.map fun c => S [c]).map V.str := by
  rw [List.map_map]
  rfl
theorem len_sgs (cs : List Nat) : ((cs.map fun c => S [c]).map (·.length)).sum = cs.length := by
  induction cs with
  | nil => rfl
  | cons c cs ih =>
    rw [List.map_cons, List.map_cons, List.sum_cons, ih, S_len, List.length_cons]
    simp
    omega


/-! ### reading -/
theorem rdS_snoc (one : List Nat) (c : Int) : ∀ (st : Int) (l : List Int), rdS one st (l ++ [c]) = if c < (one.length : Int) then rdS one st l else c - one.length
  | st, [] => by simp [rdS]
  | st, d :: l => by
    simp only [List.cons_append, rdS]
    split <;> exact rdS_snoc one c _ l
theorem rdT_snoc (one two : List Nat) (c : Int) : ∀ (st : Int) (l : List Int), rdT one two st (l ++ [c]) = rdT one two st l ++ (if c < (one.length : Int) then [sgn one two (rdS one st l) c] else [])
  | st, [] => by
    simp only [List.nil_append, rdT, rdS]
  | st, d :: l => by
    simp only [List.cons_append, rdT, rdS]
    split
    · rw [rdT_snoc one two c st l]
      rfl
    · rw [rdT_snoc one two c _ l]
theorem rdT_append (one two : List Nat) : ∀ (st : Int) (l m : List Int), rdT one two st (l ++ m) = rdT one two st l ++ rdT one two (rdS one st l) m
  | st, [], m => rfl
  | st, d :: l, m => by
    simp only [List.cons_append, rdT, rdS]
    split
    · rw [rdT_append one two st l m]
      rfl
    · rw [rdT_append one two _ l m]
theorem rdS_append (one : List Nat) : ∀ (st : Int) (l m : List Int), rdS one st (l ++ m) = rdS one (rdS one st l) m
  | st, [], m => rfl
  | st, d :: l, m => by
    simp only [List.cons_append, rdS]
    split <;> exact rdS_append one _ l m
def Bit (st : Int) : Prop := st = 0 ∨ st = 1
def Codes (n : Nat) (tp : List Int) : Prop := ∀ c ∈ tp, 0 ≤ c ∧ c < (n : Int) + 2
theorem rdS_bit {one : List Nat} : ∀ {st : Int} {l : List Int}, Bit st → Codes one.length l → Bit (rdS one st l)
  | st, [], h, _ => h
  | st, d :: l, h, hc => by
    have h1 := hc d (by simp)
    have h2 : Codes one.length l := fun c m => hc c (by simp [m])
    simp only [rdS]
    split
    · exact rdS_bit h h2
    · refine rdS_bit ?_ h2
      unfold Bit
      omega
theorem Codes.take {n : Nat} {tp : List Int} (h : Codes n tp) (i : Nat) : Codes n (tp.take i) := fun c m => h c (List.mem_of_mem_take m)
theorem Codes.drop {n : Nat} {tp : List Int} (h : Codes n tp) (i : Nat) : Codes n (tp.drop i) := fun c m => h c (List.mem_of_mem_drop m)
theorem Codes.append {n : Nat} {l m : List Int} (h : Codes n l) (k : Codes n m) : Codes n (l ++ m) := fun c hm => (List.mem_append.mp hm).elim (h c) (k c)
theorem rdT_len (one two : List Nat) : ∀ (st : Int) (l : List Int), (rdT one two st l).length ≤ l.length
  | _, [] => Nat.le_refl _
  | st, d :: l => by
    simp only [rdT]
    split
    · simpa using rdT_len one two st l
    · exact Nat.le_trans (rdT_len one two _ l) (by simp)
theorem take_snoc {α : Type} {l : List α} {i : Nat} {x : α} (h : l[i]? = some x) : l.take (i + 1) = l.take i ++ [x] := by
  rw [List.take_add_one, h]
  rfl
theorem at_two {a b : V} {st : Int} (h : Bit st) : atI [a, b] st = some (if st = 0 then a else b) := by
  rcases h with rfl | rfl
  · exact atI_nat (j := 0) rfl
  · exact atI_nat (j := 1) rfl
theorem at_sets {one two : List Nat} {st : Int} (h : Bit st) : atI [V.str (S one), V.str (S two)] st = some (.str (S (if st = 0 then one else two))) := by
  rw [at_two h]
  rcases h with rfl | rfl <;> rfl
theorem at_sign {l : List Nat} {c : Int} (h0 : 0 ≤ c) (h1 : c < (l.length : Int)) : atI (S l).cps.toList c = some (l.getD c.toNat 0) := by
  have e : c = ((c.toNat : Nat) : Int) := by omega
  have hl : c.toNat < l.length := by omega
  rw [e]
  refine atI_nat ?_
  simp only [SX.S]
  rw [Int.toNat_natCast, List.getD_eq_getElem?_getD, List.getElem?_eq_getElem hl]
  rfl
theorem Sets.pick {one two : List Nat} (h : Sets one two) (st : Int) : (if st = 0 then one else two).length = one.length := by
  split
  · rfl
  · exact h.same


/-! ### set(text): how many signs of a text are unlike -/
/-- the signs met, each once -/
def uniq (cs : List Nat) : List Nat := cs.foldl (fun l c => if l.contains c then l else l ++ [c]) []
theorem uniq_snoc (cs : List Nat) (c : Nat) : uniq (cs ++ [c]) = if (uniq cs).contains c then uniq cs else uniq cs ++ [c] := by
  unfold uniq
  rw [List.foldl_append]
  rfl
theorem text_no_set : isSubtype (.type "str") (.type "set") = pure false := (isSubtype_type _ _).trans (by kernel_rfl)
theorem text_no_frozenset : isSubtype (.type "str") (.type "frozenset") = pure false := (isSubtype_type _ _).trans (by kernel_rfl)
theorem one_inj {c d : Nat} : (S [c] = S [d]) ↔ c = d := ⟨fun e => by simpa using S_inj e, fun e => by rw [e]⟩
theorem one_beq {c d : Nat} : (S [c] == S [d]) = (c == d) := by
  rw [S_beq_eq]
  by_cases h : c = d <;> simp [h]

section
variable {prog : Program} {w : World} {A : Around} {R : Result → Shared → Prop} {I : Addr} {fp wr : List Addr} {G : Array GenState → Array GenState → Prop} {n : Nat} {P : Nat → Value → Prop} {St : Nat → Shared → Prop}
/-- which texts are met -/
def met (l : List Nat) (k : Str) : Bool := l.any fun c => S [c] == k
theorem uniq_len (cs : List Nat) : (uniq cs).length ≤ cs.length := by
  have h : ∀ (cs l : List Nat), (cs.foldl (fun l c => if l.contains c then l else l ++ [c]) l).length ≤ l.length + cs.length := by
    intro cs
    induction cs with
    | nil => intro l; exact Nat.le_refl _
    | cons c cs ih =>
      intro l
      rw [List.foldl_cons]
      refine Nat.le_trans (ih _) ?_
      rw [List.length_cons]
      split
      · omega
      · rw [List.length_append, List.length_singleton]
        omega
  simpa [uniq] using h cs []
theorem met_snoc (l : List Nat) (c : Nat) (k : Str) : met (if l.contains c then l else l ++ [c]) k = (met l k || decide (k = S [c])) := by
  unfold met
  split
  · rename_i h
    by_cases e : k = S [c]
    · subst e
      have : (l.any fun d => S [d] == S [c]) = true := by
        rw [List.any_eq_true]
        exact ⟨c, by simpa using h, by simp⟩
      rw [this]
      simp
    · simp [e]
  · rw [List.any_append]
    by_cases e : k = S [c]
    · subst e
      simp
    · have hb : (S [c] == k) = false := by simpa [beq_iff_eq] using (fun h' : S [c] = k => e h'.symm)
      simp [hb, e]
/-- the loop of set.update over the signs that are left: pre is what it has met -/
theorem signs_in (W : WalksS prog w A.in1 I fp wr G n P St) (p : Addr) (out : p ∉ fp) (cs : List Nat) (hn : cs.length = n) (room : n + 1 < scanBound)
    (sign : ∀ j u, P j u → ∃ c t, cs[j]? = some c ∧ u = .str (S [c]) t) : ∀ (r pre : List Nat) (s : Shared), pre ++ r = cs → St pre.length s →
      s.heap.SetOf (PySem.strKind prog w) p (met (uniq pre)) (uniq pre).length →
      (∀ z, Moved (p :: wr) G s z → z.heap.SetOf (PySem.strKind prog w) p (met (uniq cs)) (uniq cs).length → R (.ok (.ret .none)) z) →
      codeAny (model prog w) A (.builtin "set.update.loop" ⟨[.ref p, .ref I], []⟩) R s := by
  have pw : p ∉ wr := fun q => out (W.sub _ q)
  have up : ∀ c ∈ wr, c ∈ p :: wr := fun c q => List.mem_cons_of_mem _ q
  have stays : ∀ {s z : Shared} {F : Str → Bool} {m : Nat}, Moved wr G s z → s.heap.SetOf (PySem.strKind prog w) p F m → z.heap.SetOf (PySem.strKind prog w) p F m :=
    fun mv ⟨o, es, ep, tb, at_, more⟩ => ⟨o, es, ep, tb, mv.heap p _ pw at_, more⟩
  intro r
  induction r with
  | nil =>
    intro pre s e st so fin
    rw [List.append_nil] at e
    subst e
    refine codeAny_builtin F.entry_set_update_loop ((Around.under_plainId F.plain_set_update_loop _).symm ▸ ?_)
    refine wpAny_bind (m := pyNext (.ref I)) (W.done s _ _ (hn ▸ st) fun z mv => ?_)
    exact wpAny_pure (fin z (mv.mono up) (stays mv so))
  | cons c0 r ih =>
    intro pre s e st so fin
    have lt : pre.length < n := by
      rw [← hn, ← e, List.length_append, List.length_cons]
      omega
    refine codeAny_builtin F.entry_set_update_loop ((Around.under_plainId F.plain_set_update_loop _).symm ▸ ?_)
    refine wpAny_bind (m := pyNext (.ref I)) (W.item pre.length s _ _ lt st fun u z pu st2 mv => ?_)
    obtain ⟨c, t, hc, rfl⟩ := sign _ _ pu
    have ec : c = c0 := by
      rw [← e, List.getElem?_append_right (Nat.le_refl _), Nat.sub_self] at hc
      exact (Option.some.inj hc).symm
    subst ec
    have small := uniq_len pre
    have so1 := stays mv so
    show wpAny _ A.in1 (holding [Value.str (S [c]) t] (setAdd p (.str (S [c]) t)) >>= _) _ _ z
    refine wpAny_bind (wpAny_holding (wpAny_holding (wpAny_bind ((PySem.strKind prog w).pyHash (k := S [c]) (strKind_is _ _ _ _) ?_))))
    refine wpAny_setAddHashed_of (knd := PySem.strKind prog w) (s := { z with toks := z.toks + 1 }) (strKind_is _ _ _ _) rfl so1 (by omega) fun h2 but so2 => ?_
    have so3 : h2.SetOf (PySem.strKind prog w) p (met (uniq (pre ++ [c]))) (uniq (pre ++ [c])).length := by
      rw [uniq_snoc]
      refine SetOf_congr so2 (fun k => (met_snoc _ _ _).symm) ?_
      have e : met (uniq pre) (S [c]) = (uniq pre).contains c := by
        unfold met
        rw [Bool.eq_iff_iff, List.any_eq_true, List.contains_iff_mem]
        exact ⟨fun ⟨d, hd, q⟩ => one_inj.mp (beq_iff_eq.mp q) ▸ hd, fun q => ⟨c, q, beq_self_eq_true _⟩⟩
      rw [e]
      split <;> simp
    have far : ∀ b, b ≠ p → ∀ o, z.heap.get? b = some o → h2.get? b = some o := fun b ne o q => (but.2 b ne).trans q
    refine wpAny_pure ⟨plainId_quiet F.plain_set_update_loop _, ih (pre ++ [c]) _ (by rw [List.append_assoc]; exact e) ?_ so3 fun z2 mv2 so4 => ?_⟩
    · rw [List.length_append]
      exact W.frame _ z _ _ st2 (Nat.le_succ _) fun b q o g => far b (fun k => out (k ▸ q)) o g
    · exact fin z2 (Moved.trans W.gtrans ((mv.mono up).then_heap (Nat.le_succ _) fun b o q g => far b (fun k => q (k ▸ List.mem_cons_self)) o g) mv2) so4
end
section
variable {prog : Program} {w : World} {A : Around} {E : Value → Shared → Prop} {s : Shared}
/-- an empty set object -/
abbrev set0 (b : Bool) : Obj := { cls := .type "set", dict := none, data := .set #[] 0 (.fresh 0 0 b) }
/-- set.__init__ of a text -/
theorem init_text {cs : List Nat} {t : Tok} {b : Bool} {R : Result → Shared → Prop} (calm : A.handled = none) (room : cs.length + 1 < scanBound)
    (fin : ∀ (h2 : Heap) (k : Nat), h2.SetOf (PySem.strKind prog w) s.heap.objs.size (met (uniq cs)) (uniq cs).length →
      (∀ c o, c < s.heap.objs.size → s.heap.get? c = some o → h2.get? c = some o) → R (.ok (.ret .none)) { s with heap := h2, toks := k }) :
    wpAny (model prog w) A.in1 (Builtin.«set.__init__» ⟨[.ref s.heap.objs.size, .str (S cs) t], []⟩)
      (fun f z => match f with | .done r => R (.ok r) z | .again c => c.quiet = true ∧ codeAny (model prog w) A c R z) (fun e z => R (.error e) z) { s with heap := s.heap.push (set0 b) } := by
  have at0 : (s.heap.push (set0 b)).get? s.heap.objs.size = some (set0 b) := Heap.get?_push_size _ rfl
  have n1 := text_no_set
  have n2 := text_no_frozenset
  have n3 : (Value.type "str" == Value.type "dict") = false := by decide
  unfold Builtin.«set.__init__» noKeywords
  unfold Builtin.Frozenset.updateFrom
  generalize hP : pyIter = PI
  wp_walk
  subst hP
  refine wpAny_pyIter_str fun o St W st => wpAny_bind (wpAny_runValue ?_)
  have calm2 : A.in1.in1.handled = none := by simp [calm]
  have sz := Heap.size_push s.heap (set0 b)
  refine signs_in (W _ calm2).toS s.heap.objs.size (fun q => ?_) cs (by simp) room (fun j u ⟨c, k, e1, e2⟩ => ⟨c, k, by simpa using e1, e2⟩) cs [] { s with heap := (s.heap.push (set0 b)).push o } rfl st ?_ fun z mv so => ?_
  · have := List.mem_singleton.mp q
    rw [sz] at this
    exact absurd this (Nat.ne_of_lt (Nat.lt_succ_self _))
  · exact SetOf_congr ((setObjOf_fresh (knd := PySem.strKind prog w) b).setOf (Heap.get?_push_of_some o at0) (by unfold scanBound; omega)) (fun _ => rfl) rfl
  · have ez := Moved.eq_with mv
    rw [ez]
    refine wpAny_pure (wpAny_pure (fin z.heap z.toks so fun c o lt g => ?_))
    refine mv.heap c o (fun q => ?_) (Heap.get?_push_of_some _ (Heap.get?_push_of_some _ g))
    rcases List.mem_cons.mp q with q | q
    · exact absurd q (Nat.ne_of_lt lt)
    · have := List.mem_singleton.mp q
      rw [sz] at this
      exact absurd this (Nat.ne_of_lt (Nat.lt_succ_of_lt lt))
set_option maxHeartbeats 8000000 in
theorem call_set_text {cs : List Nat} {t : Tok} {Q : Value → Shared → Prop} (calm : A.handled = none) (room : cs.length + 1 < scanBound)
    (fin : ∀ (h2 : Heap) (k : Nat), h2.SetOf (PySem.strKind prog w) s.heap.objs.size (met (uniq cs)) (uniq cs).length →
      (∀ c o, c < s.heap.objs.size → s.heap.get? c = some o → h2.get? c = some o) → Q (.ref s.heap.objs.size) { s with heap := h2, toks := k }) :
    wpAny (model prog w) A (call (.type "set") [.str (S cs) t]) Q E s := by
  obtain ⟨c, tl, mro⟩ := F.called_set.mro
  have f1 := F.called_set.made
  have f2 := F.called_set.sub
  have f3 := F.called_set.notType
  have f4 := F.called_set.canCreate
  have f5 := PySem.F.typeCall_set_1 (.str (S cs) t)
  have f6 := F.called_set.init.lookup
  have f7 := F.called_set.init.bind (.ref s.heap.objs.size)
  refine wpAny_call (codeAny_of_tree (show wpAny _ _ (callAny (.type "set") _) _ _ _ from wpAny_pure ⟨Code.quiet_builtin _ (by decide +kernel), codeAny_builtin F.entry_type_call ?_⟩))
  rw [Around.under_plain (weight_type_call_type "set" [.str (S cs) t] []) rfl]
  repeat (any_goals (first | assumption | wp_step))
  refine codeAny_mono (code_set_new_1 (.str (S cs) t) (E := E) (Q₁ := fun v z => ∃ b : Bool, v = .ref s.heap.objs.size ∧ z = { s with heap := s.heap.push (set0 b) }) fun b => ⟨b, rfl, rfl⟩) fun r z hr => ?_
  match r, hr with
  | .error e, hr => exact hr
  | .ok (.ret v), hr =>
    obtain ⟨b, rfl, rfl⟩ := hr
    have ty : Shared.TypeIs { s with heap := s.heap.push (set0 b) } (.ref s.heap.objs.size) "set" := ⟨_, Heap.get?_push_size _ rfl, rfl⟩
    repeat (any_goals (first | assumption | wp_step))
    refine codeAny_mono (codeAny_call_builtin (R := wants (fun u z => u = .none ∧ ∃ h2 k, z = { s with heap := h2, toks := k } ∧ h2.SetOf (PySem.strKind prog w) s.heap.objs.size (met (uniq cs)) (uniq cs).length ∧
        (∀ c o, c < s.heap.objs.size → s.heap.get? c = some o → h2.get? c = some o)) E) F.called_set.init.plain F.entry_set_init
      (check_set_init_1 ty (init_text (by simpa using calm) room fun h2 k so kp => ⟨rfl, h2, k, rfl, so, kp⟩))) fun r z hr => ?_
    match r, hr with
    | .error e, hr => exact hr
    | .ok (.ret u), hr =>
      obtain ⟨rfl, h2, k, rfl, so, kp⟩ := hr
      repeat (any_goals (first | assumption | wp_step))
      exact fin _ _ so kp
end
section
variable {X : Cx}
def tLenSetTxt (ta : TE) : TE := fun σ H Q => ta σ H fun x H1 => ∃ cs : List Nat, x = .str (S cs) ∧ cs.length ≤ 1000 ∧ Q (.int (uniq cs).length) H1
theorem pe_lenSetTxt {a : Expr} {ta : TE} {p p2 q pos : Pos} (hc : X.calm = true) (hg : Gl X "len") (hm : X.mg "len" = none) (hg2 : Gl X "set") (hm2 : X.mg "set" = none) (ha : PE X a ta)
    (na : starEach [a] X.env = (false, eval a X.env) :: starEach [] X.env := by rfl) : PE X (.Call (.Name "len" p) [.Call (.Name "set" p2) [a] [] q] [] pos) (tLenSetTxt ta) := by
  refine ⟨fun pins s σ H Q I h => ?_⟩
  refine Call_ (ld_blt I hg hm boot_len (callWith_builtin1 (args_cons (Call_ (ld_blt I hg2 hm2 boot_set ?_)) rfl) rfl rfl))
  refine callWith_type1 (args_cons (thn (ha.run pins s σ H _ I h) fun v s1 ⟨x, H1, I1, r1, q1⟩ => args_nil ?_) na) na rfl
  obtain ⟨cs, rfl, hl, q1⟩ := q1
  obtain ⟨t, rfl⟩ := r1
  refine call_set_text (I1.ok.hd hc) (by unfold scanBound; omega) fun h2 k so kp => args_nil ?_
  have hu := uniq_len cs
  obtain ⟨o, es, ep, t, ho, hex, hd, _, _, _, hf, hn⟩ := so
  have I2 : Inv X pins σ H1 { s1 with heap := h2, toks := k } := I1.kept fun b o e => kp b o (Heap.lt_size e) e
  exact call_len_set ho hex hd hf (by rw [hn]; omega) ⟨.int (uniq cs).length, H1, I2.tok _, ⟨_, by rw [hn]⟩, q1⟩
end


theorem ints_at {ns : List Int} {i : Nat} {x : V} (h : (Ints ns)[i]? = some x) : ∃ c, ns[i]? = some c ∧ x = .int c := by
  rw [List.getElem?_map] at h
  obtain ⟨c, hc, rfl⟩ := Option.map_eq_some_iff.mp h
  exact ⟨c, hc, rfl⟩
theorem sgs_at {ns : List Nat} {i : Nat} {x : V} (h : (Sgs ns)[i]? = some x) : ∃ c, ns[i]? = some c ∧ x = sg c := by
  rw [List.getElem?_map] at h
  obtain ⟨c, hc, rfl⟩ := Option.map_eq_some_iff.mp h
  exact ⟨c, hc, rfl⟩
theorem ints_snoc (ns : List Int) (c : Int) : Ints (ns ++ [c]) = Ints ns ++ [.int c] := List.map_append
theorem sgs_snoc (cs : List Nat) (c : Nat) : Sgs (cs ++ [c]) = Sgs cs ++ [sg c] := List.map_append
theorem len_ints (ns : List Int) : (Ints ns).length = ns.length := List.length_map _
theorem len_sg (ns : List Nat) : (Sgs ns).length = ns.length := List.length_map _
/-! ### tests: both answers shown once -/
def tCutT (t : TT) : TT := fun σ H Q => ∃ P1 P2 : Hp → Prop, t σ H (fun b H1 => if b = true then P1 H1 else P2 H1) ∧ (∀ H1, P1 H1 → Q true H1) ∧ (∀ H1, P2 H1 → Q false H1)
theorem pt_cut {X : Cx} {c : Expr} {t : TT} (h : PT X c t) : PT X c (tCutT t) := by
  refine ⟨fun pins s σ H Q I ⟨P1, P2, h1, h2, h3⟩ => ?_⟩
  refine thn (h.run pins s σ H _ I h1) fun b s1 ⟨H1, I1, q⟩ => ?_
  cases b with
  | true => exact ⟨H1, I1, h2 H1 (by simpa using q)⟩
  | false => exact ⟨H1, I1, h3 H1 (by simpa using q)⟩
/-! ### slices -/
theorem cut_from {cs : List Nat} {i : Int} (h : 0 ≤ i) : cutS (S cs) (some i) none = S (cs.drop i.toNat) := by
  rw [C8.cutS_slice]
  exact SX.slice_from h
theorem cut_to {cs : List Nat} {i : Int} (h : 0 ≤ i) : cutS (S cs) none (some i) = S (cs.take i.toNat) := by
  rw [C8.cutS_slice]
  exact SX.slice_to h
theorem cutV_to {xs : List V} {i : Int} (h : 0 ≤ i) : cutV xs none (some i) = xs.take i.toNat := by
  have e : i = ((i.toNat : Nat) : Int) := by omega
  unfold cutV
  rw [HT.sIx_none]
  conv => lhs; rw [e]
  rw [HT.sIx_nat, List.drop_zero, Nat.sub_zero]
  by_cases hl : i.toNat ≤ xs.length
  · rw [Nat.min_eq_left hl]
  · rw [Nat.min_eq_right (by omega), List.take_of_length_le (Nat.le_refl _), List.take_of_length_le (by omega)]
theorem cutV_from {xs : List V} {i : Int} (h : 0 ≤ i) : cutV xs (some i) none = xs.drop i.toNat := by
  have e : i = ((i.toNat : Nat) : Int) := by omega
  unfold cutV
  rw [HT.sIx_none]
  conv => lhs; rw [e]
  rw [HT.sIx_nat]
  by_cases hl : i.toNat ≤ xs.length
  · rw [Nat.min_eq_left hl, List.take_of_length_le (by rw [List.length_drop]; omega)]
  · rw [Nat.min_eq_right (by omega), List.drop_eq_nil_of_le (Nat.le_refl _), List.drop_eq_nil_of_le (by omega), List.take_nil]
/-! ### counting -/
theorem nodup_le : ∀ {l m : List Nat}, l.Nodup → (∀ c ∈ l, c ∈ m) → l.length ≤ m.length
  | [], _, _, _ => Nat.zero_le _
  | x :: l, m, hn, hs => by
    obtain ⟨h1, h2⟩ := List.nodup_cons.mp hn
    have hx : x ∈ m := hs x (by simp)
    have := nodup_le (m := m.erase x) h2 fun c hc => by
      have hne : c ≠ x := fun e => h1 (e ▸ hc)
      exact (List.mem_erase_of_ne hne).mpr (hs c (by simp [hc]))
    rw [List.length_erase_of_mem hx] at this
    have := List.length_pos_of_mem hx
    rw [List.length_cons]
    omega
/-- signs of a list that stand in no other -/
def off2 (l m : List Nat) : List Nat := l.filter fun c => !decide (c ∈ m)
theorem off2_ne {l m : List Nat} (hn : l.Nodup) (h : m.length < l.length) : ∃ c r, off2 l m = c :: r ∧ c ∈ l ∧ c ∉ m := by
  cases e : off2 l m with
  | nil =>
    have := nodup_le hn fun c hc => by
      have h2 : c ∉ off2 l m := by
        rw [e]
        exact List.not_mem_nil
      unfold off2 at h2
      rw [List.mem_filter] at h2
      by_cases hm : c ∈ m
      · exact hm
      · exact absurd ⟨hc, by simp [hm]⟩ h2
    omega
  | cons c r =>
    have hm : c ∈ off2 l m := by
      rw [e]
      exact List.mem_cons_self
    unfold off2 at hm
    rw [List.mem_filter] at hm
    exact ⟨c, r, rfl, hm.1, by simpa using hm.2⟩
theorem off2_snoc (l m : List Nat) (c : Nat) : off2 (l ++ [c]) m = if c ∈ m then off2 l m else off2 l m ++ [c] := by
  unfold off2
  rw [List.filter_append]
  by_cases h : c ∈ m <;> simp [h]
/-! ### rules by the written part's name (for use within comprehensions) -/
section
variable {X : Cx}
def rLenQ (K : PySem.W.Frag) : List V → Hp → VK → Prop := fun xs H Q => ∃ p ys, xs = [.ref p] ∧ (SqL K H p ys ∨ SqT K H p ys) ∧ Q (.int ys.length) H
theorem call_lenQ : CallR X (.builtin "len") (rLenQ X.K) := call_len_seq
def rListQ (K : PySem.W.Frag) : List V → Hp → VK → Prop := fun xs H Q => ∃ p ys, xs = [.ref p] ∧ (SqL K H p ys ∨ SqT K H p ys) ∧ ∀ l, H l = none → Q (.ref l) (upd H l (.lst ys))
theorem call_listQ : CallR X (.type "list") (rListQ X.K) := call_list_of
end


theorem dec_sg (a b : Nat) : decide (V.str ⟨#[a]⟩ = V.str ⟨#[b]⟩) = decide (a = b) := by
  by_cases h : a = b
  · subst h
    simp
  · have h2 : ¬ V.str ⟨#[a]⟩ = V.str ⟨#[b]⟩ := fun z => h (by
      have e := congrArg (fun s : Str => s.cps.toList) (V.str.inj z)
      simpa using e)
    rw [decide_eq_false h, decide_eq_false h2]
theorem dec_int (a b : Int) : decide (V.int a = V.int b) = decide (a = b) := by
  by_cases h : a = b
  · subst h
    simp
  · have h2 : ¬ V.int a = V.int b := fun z => h (V.int.inj z)
    rw [decide_eq_false h, decide_eq_false h2]
theorem dec_str (a b : List Nat) : decide (V.str (S a) = V.str (S b)) = decide (a = b) := by
  by_cases h : a = b
  · subst h
    simp
  · have h2 : ¬ V.str (S a) = V.str (S b) := fun z => h (S_inj (V.str.inj z))
    rw [decide_eq_false h, decide_eq_false h2]
theorem ints_app (a b : List Int) : Ints (a ++ b) = Ints a ++ Ints b := List.map_append
theorem lay_ints (ns : List Int) : PyData.canLay0 (dInts ns) = true ∧ (dInts ns).depth = 1 := by
  obtain ⟨h1, h2⟩ := flat_lay (flat_ints ns)
  exact ⟨by simp [PyData.canLay0, h1], by simp [PyData.depth, h2]⟩
theorem lay_two (a b : List Int) : PyData.canLay0 (.list [dInts a, dInts b]) = true ∧ SeqAt.shaped (.list [dInts a, dInts b]) = true := by
  obtain ⟨h1, h2⟩ := flat_lay (flat_ints a)
  obtain ⟨h3, h4⟩ := flat_lay (flat_ints b)
  constructor
  · simp [PyData.canLay0, PyData.canLayAll0, h1, h3]
  · simp [SeqAt.shaped, PyData.canLay0, PyData.canLayAll0, PyData.depth, PyData.depthAll, h1, h2, h3, h4]
theorem rep_one (x : V) (b : Bool) : (List.replicate (if b = true then (1 : Int) else 0).toNat [x]).flatten = if b = true then [x] else [] := by
  cases b <;> rfl
theorem flat_all_ints (ns : List Int) : (Ints ns).all flatV = true := by
  induction ns with
  | nil => rfl
  | cons n ns ih =>
    show (V.int n :: Ints ns).all flatV = true
    rw [List.all_cons, ih]
    rfl
theorem idx_at {ns : List Int} {m : Int} (hm : m ∈ ns) : (Ints ns)[ns.idxOf m]? = some (.int m) := by
  have hlt : ns.idxOf m < ns.length := List.idxOf_lt_length_of_mem hm
  rw [List.getElem?_map, List.getElem?_eq_getElem hlt, List.getElem_idxOf hlt]
  rfl
theorem eqV_int (m : Int) : eqV (.int m) (.int m) = true := by simp [eqV]
theorem idx_no {ns : List Int} {m : Int} : ∀ (j : Nat) (z : V), j < ns.idxOf m → (Ints ns)[j]? = some z → eqV z (.int m) = false := by
  intro j z hj hz
  obtain ⟨c, hc, rfl⟩ := ints_at hz
  obtain ⟨h1, rfl⟩ := List.getElem?_eq_some_iff.mp hc
  have h3 := List.not_of_lt_findIdx (p := (· == m)) (xs := ns) (i := j) hj
  simpa [eqV] using h3
/-! ### values: all that follows shown once -/
def tCutE (t : TE) : TE := fun σ H Q => ∃ P1 : V → Hp → Prop, t σ H P1 ∧ ∀ v H1, P1 v H1 → Q v H1
theorem pe_cut {X : Cx} {c : Expr} {t : TE} (h : PE X c t) : PE X c (tCutE t) := by
  refine ⟨fun pins s σ H Q I ⟨P1, h1, h2⟩ => ?_⟩
  exact thn (h.run pins s σ H _ I h1) fun v s1 ⟨x, H1, I1, r, q⟩ => ⟨x, H1, I1, r, h2 _ H1 q⟩
theorem range_snoc (f : Nat → Int) (i : Nat) : Ints ((List.range (i + 1)).map f) = Ints ((List.range i).map f) ++ [.int (f i)] := by
  rw [List.range_succ, List.map_append]
  exact List.map_append
def mxL (ns : List Int) : Int := ns.max?.getD 0
theorem mx_unique {ns : List Int} {m : Int} (h : m ∈ ns) (h2 : ∀ y ∈ ns, y ≤ m) : m = mxL ns := by
  have e : ns.max? = some m := List.max?_eq_some_iff.mpr ⟨h, h2⟩
  unfold mxL
  rw [e]
  rfl
theorem mx_mem {ns : List Int} (h : ns ≠ []) : mxL ns ∈ ns ∧ ∀ y ∈ ns, y ≤ mxL ns := by
  cases e : ns.max? with
  | none =>
    rw [List.max?_eq_none_iff] at e
    exact absurd e h
  | some m =>
    have e2 : mxL ns = m := by
      unfold mxL
      rw [e]
      rfl
    rw [e2]
    exact List.max?_eq_some_iff.mp e


/-! ### min of four numbers -/
section
open PySem PySem.Spec PyProof.Rows
variable {prog : Program} {w : World} {A : Around} {E : Value → Shared → Prop} {s : Shared}
theorem argsMin4 (a b c d : Value) : argsOk "min" ⟨[a, b, c, d], []⟩ := by
  unfold argsOk
  kernel_rfl
theorem argBest_step (f : Nat → Int) (k : Nat) : f (argBest (fun i j => decide (f i < f j)) (k + 1)) = min (f (argBest (fun i j => decide (f i < f j)) k)) (f (k + 1)) := by
  rw [argBest]
  generalize argBest (fun i j => decide (f i < f j)) k = m
  by_cases h : f (k + 1) < f m
  · rw [if_pos (decide_eq_true h)]
    omega
  · rw [if_neg (by simpa using h)]
    omega
theorem argBest_min4 (f : Nat → Int) : f (argBest (fun i j => decide (f i < f j)) 3) = min (min (min (f 0) (f 1)) (f 2)) (f 3) := by
  have e3 : f (argBest (fun i j => decide (f i < f j)) 3) = _ := argBest_step f 2
  have e2 : f (argBest (fun i j => decide (f i < f j)) 2) = _ := argBest_step f 1
  have e1 : f (argBest (fun i j => decide (f i < f j)) 1) = _ := argBest_step f 0
  have e0 : f (argBest (fun i j => decide (f i < f j)) 0) = f 0 := rfl
  rw [e3, e2, e1, e0]
/-- min(a, b, c, d) of numbers -/
theorem min_of_four {a b c d : Int} {ta tb tc td : Tok} {Q : Value → Shared → Prop} (hh : A.handled = none)
    (h : ∀ h' tk v, (∃ t, v = .int (min (min (min a b) c) d) t) → (∀ x o, s.heap.get? x = some o → h'.get? x = some o) → Q v { s with heap := h', toks := tk }) :
    wpAny (model prog w) A (call (.builtin "min") [.int a ta, .int b tb, .int c tc, .int d td]) Q E s := by
  generalize hN : (#[(a, ta), (b, tb), (c, tc), (d, td)] : Array (Int × Tok)) = N
  have hI : intItems N = #[Value.int a ta, .int b tb, .int c tc, .int d td] := by
    subst hN
    simp [intItems]
  have hsz4 : (intItems N).size - 1 = 3 := by
    rw [hI]
    rfl
  generalize hnew : s.heap.push { cls := .type "tuple", data := .seq #[Value.int a ta, .int b tb, .int c tc, .int d td] } = H1
  have z1 : H1.objs.size = s.heap.objs.size + 1 := by
    subst hnew
    exact Heap.size_push ..
  have T1 : H1.IsTuple s.heap.objs.size (intItems N) := by
    rw [hI]
    subst hnew
    exact ⟨_, Heap.get?_push_size _ rfl, rfl, 0, rfl⟩
  have K1 : ∀ x o, s.heap.get? x = some o → H1.get? x = some o := fun x o e => by
    subst hnew
    exact Heap.get?_push_of_some _ e
  have hlt : s.heap.objs.size < H1.objs.size := by omega
  refine call_function_tree F.kind_min F.plain_min F.entry_min (argsMin4 _ _ _ _) ?_
  refine wpAny_bind (wpAny_of_eq (a := [none, none]) rfl ?_)
  refine wpAny_bind (wpAny_newObj_type ?_)
  rw [hnew]
  refine wpAny_bind (wpAny_pyIter_tuple T1 ?_)
  have W := Walks.tuple (prog := prog) (w := w) (A := A.in1) hh H1.objs.size s.heap.objs.size (Nat.ne_of_lt hlt) (intItems N)
  refine wpAny_bind (wpAny_newObj_type ?_)
  -- the walk over the new tuple
  generalize hpush : Heap.push _ _ = H2
  have K2 : ∀ x o, H1.get? x = some o → H2.get? x = some o := fun x o e => by
    subst hpush
    exact Heap.get?_push_of_some _ e
  have z2 : H2.objs.size = H1.objs.size + 1 := by
    subst hpush
    exact Heap.size_push ..
  have I2 : H2.IsTupleIter H1.objs.size s.heap.objs.size 0 := by
    subst hpush
    exact ⟨_, Heap.get?_push_size _ rfl, rfl, rfl⟩
  generalize hpush3 : Heap.push H2 _ = H3
  have K3 : ∀ x o, H2.get? x = some o → H3.get? x = some o := fun x o e => by
    subst hpush3
    exact Heap.get?_push_of_some _ e
  have hnm : (toString "min" ++ toString ".loop" : String) = "min.loop" := by decide
  rw [hnm]
  have T2 : H2.IsTuple s.heap.objs.size (intItems N) := T1.at fun o e => K2 _ o e
  have I3 : H3.IsTupleIter H1.objs.size s.heap.objs.size 0 := I2.at fun o e => K3 _ o e
  have T3 : H3.IsTuple s.heap.objs.size (intItems N) := T2.at fun o e => K3 _ o e
  have S3 : H3.get? H2.objs.size = some { cls := .type "list", dict := none, data := .seq #[] 0, slots := #[] } := by
    subst hpush3
    exact Heap.get?_push_size _ rfl
  have hSfp : H2.objs.size ∉ [H1.objs.size, s.heap.objs.size] := by
    simp only [List.mem_cons, List.not_mem_nil, or_false]
    omega
  have hpos : 0 < (intItems N).size := by
    rw [hI]
    exact Nat.zero_lt_succ _
  refine wpAny_pure ⟨plainId_quiet F.plain_min_loop _, ?_⟩
  refine codeAny_min_loop_first (s := { s with heap := H3 }) W _ (CmpOf.ints_lt (numAt N) fun i v hv => intItems_at hv) H2.objs.size hSfp hpos ⟨I3, T3⟩ S3 fun v h' tk hv hk => ?_
  refine h h' tk v ?_ fun x o e => ?_
  · obtain ⟨t, et⟩ := intItems_at hv
    refine ⟨t, ?_⟩
    rw [et, hsz4, argBest_min4 (numAt N)]
    subst hN
    rfl
  · have lx := Heap.lt_size e
    refine hk x o (fun m => ?_) (fun m => ?_) (K3 x o (K2 x o (K1 x o e)))
    · rw [List.mem_singleton] at m
      rw [m] at lx
      exact Nat.lt_irrefl _ (Nat.lt_trans lx hlt)
    · rw [m] at lx
      have l2 : s.heap.objs.size < H2.objs.size := by omega
      exact Nat.lt_irrefl _ (Nat.lt_trans lx l2)
end
section
variable {X : Cx}
theorem call_min4 (hc : X.calm = true) : CallR X (.builtin "min") (fun xs H Q => ∃ a b c d, xs = [.int a, .int b, .int c, .int d] ∧ Q (.int (min (min (min a b) c) d)) H) := by
  intro pins s σ H xs us Q I r h
  obtain ⟨a, b, c, d, rfl, q⟩ := h
  rcases r with _ | ⟨r1, r⟩
  rcases r with _ | ⟨r2, r⟩
  rcases r with _ | ⟨r3, r⟩
  rcases r with _ | ⟨r4, r⟩
  rcases r
  obtain ⟨ta, rfl⟩ := r1
  obtain ⟨tb, rfl⟩ := r2
  obtain ⟨tc, rfl⟩ := r3
  obtain ⟨td, rfl⟩ := r4
  exact min_of_four (I.ok.hd hc) fun h' tk v hv k => ⟨.int _, H, I.kept k, hv, q⟩
end


/-! ### lists of numbers: which is less, the least of several -/
section
open PySem PySem.Spec PyProof.Rows
open PySem.W (DatumOrd listLt minOf lt_datum min_list_datum Holds HoldAll)
theorem listLt_eq : ∀ xs ys : List Int, listLt xs ys = HT.lexLt xs ys
  | [], [] => rfl
  | [], _ :: _ => rfl
  | _ :: _, [] => rfl
  | x :: xs, y :: ys => by
    simp only [listLt, HT.lexLt, listLt_eq xs ys]
    rfl
theorem toD_ints (ns : List Int) : (PySem.W.Datum.toD ns : PyData) = dInts ns := rfl
def rLtLI (K : PySem.W.Frag) : R2 := fun x y H Q => ∃ (a b : Addr) (ns ms : List Int), x = .ref a ∧ y = .ref b ∧ SqL K H a (Ints ns) ∧ SqL K H b (Ints ms) ∧ Q (.bl (HT.lexLt ns ms)) H
theorem op_ltLI {X : Cx} (hu : X.A.units + 64 < cLine) : OpR X (compareOp .Lt) (rLtLI X.K) := by
  intro pins s σ H x y v u Q I rx ry h
  obtain ⟨a, b, ns, ms, rfl, rfl, ha, hb, q⟩ := h
  obtain ⟨as, r1⟩ := Dp.reads I (dInts ns) _ _ (.lst ha (dp_ints ns)) rx
  obtain ⟨bs, r2⟩ := Dp.reads I (dInts ms) _ _ (.lst hb (dp_ints ms)) ry
  refine lt_datum (x := ns) (y := ms) ⟨as, r1⟩ ⟨bs, r2⟩ ?_ ⟨.bl _, H, I, rfl, ?_⟩
  · have : PySem.W.Datum.depth (List Int) = 1 := rfl
    omega
  · show Q (.bl (listLt ns ms)) H
    rw [listLt_eq]
    exact q
/-- the least of lists -/
def lexMin (x : List Int) (xs : List (List Int)) : List Int := xs.foldl (fun a y => if HT.lexLt y a = true then y else a) x
theorem minOf_eq (x : List Int) (xs : List (List Int)) : minOf x xs = lexMin x xs := by
  unfold minOf lexMin
  congr 1
  funext a y
  show (if listLt y a = true then y else a) = _
  rw [listLt_eq]
theorem holds_keep {h h' : Heap} {v : Value} {d : PyData} {as : List Addr} (k : ∀ b o, h.get? b = some o → h'.get? b = some o) (r : Reads h v d as) : Reads h' v d as := PySem.W.reads_keeps k r
def rMinLI (K : PySem.W.Frag) : List V → Hp → VK → Prop := fun vs H Q => ∃ (a : Addr) (ps : List Addr) (x : List Int) (xs : List (List Int)), vs = [.ref a] ∧ SqL K H a (ps.map V.ref) ∧ DpAll K H (ps.map V.ref) ((x :: xs).map dInts) ∧
  ∀ (j : Nat) (p : Addr), ps[j]? = some p → (x :: xs)[j]? = some (lexMin x xs) → Q (.ref p) H
theorem readsAll_pos {h : Heap} : ∀ {vs : List Value} {ds : List PyData} {as : List Addr}, ReadsAll h vs ds as → ∀ (i : Nat) (v : Value), vs[i]? = some v → ∃ d bs, ds[i]? = some d ∧ Reads h v d bs
  | _, _, _, .nil, _, _, hv => by simp at hv
  | _, _, _, .cons r rs, 0, v, hv => by
    simp only [List.getElem?_cons_zero, Option.some.injEq] at hv
    subst hv
    exact ⟨_, _, rfl, r⟩
  | _, _, _, .cons r rs, i + 1, v, hv => by
    obtain ⟨d, bs, e, r2⟩ := readsAll_pos rs i v (by simpa using hv)
    exact ⟨d, bs, by simpa using e, r2⟩
theorem vals_pos : ∀ {xs : List V} {us : List Value}, Vals xs us → ∀ (i : Nat) (u : Value), us[i]? = some u → ∃ x, xs[i]? = some x ∧ RelV x u
  | _, _, .nil, _, _, hv => by simp at hv
  | _, _, .cons r rs, 0, u, hv => by
    simp only [List.getElem?_cons_zero, Option.some.injEq] at hv
    subst hv
    exact ⟨_, rfl, r⟩
  | _, _, .cons r rs, i + 1, u, hv => by
    obtain ⟨x, e, r2⟩ := vals_pos rs i u (by simpa using hv)
    exact ⟨x, by simpa using e, r2⟩
theorem dInts_inj {a b : List Int} (h : dInts a = dInts b) : a = b := by
  have e : PyData.eqv (dInts a) (dInts b) = true := by
    rw [← h]
    exact SeqAt.eqv_refl _ (by simp [PyData.canLay0, (flat_lay (flat_ints a)).1])
  rw [eqv_ints] at e
  exact of_decide_eq_true e
theorem cr_minLI {X : Cx} (hc : X.calm = true) (hu : X.A.units + 64 < cLine) : CallR X (.builtin "min") (rMinLI X.K) := by
  intro pins s σ H vs us Q I r h
  obtain ⟨a, ps, x, xs, rfl, hS, hD, q⟩ := h
  rw [Vals.ref1 r]
  obtain ⟨its, rv, pl, _⟩ := I.list hS
  obtain ⟨as, ra⟩ := Dp.readsAll I _ _ _ hD rv
  refine min_list_datum (xs := xs) (x := x) (I.ok.hd hc) pl.isList ⟨as, ?_⟩ ?_ fun i v h' tk hi hv k => ?_
  · rw [List.toList_toArray]
    exact ra
  · have : PySem.W.Datum.depth (List Int) = 1 := rfl
    omega
  · have hi' : its[i]? = some v := by simpa using hi
    obtain ⟨y, e1, ry⟩ := vals_pos rv i v hi'
    obtain ⟨d, bs, e2, rd⟩ := readsAll_pos ra i v hi'
    rw [List.getElem?_map] at e1 e2
    obtain ⟨p, ep, rfl⟩ := Option.map_eq_some_iff.mp e1
    obtain ⟨m, em, rfl⟩ := Option.map_eq_some_iff.mp e2
    obtain ⟨cs, rc⟩ := hv
    have eq1 : dInts m = dInts (minOf x xs) := SeqAt.Reads.unique _ _ v _ _ (by simp [PyData.canLay0, (flat_lay (flat_ints m)).1]) (holds_keep k rd) rc
    have eq2 := dInts_inj eq1
    rw [minOf_eq] at eq2
    exact ⟨.ref p, H, I.kept k, ry, q i p ep (by rw [em, eq2])⟩
end


/-! ### for c in reversed(text) -/
section
open PySem PySem.Spec PyProof.Rows
theorem norevS : typeLookup (.type "str") "__reversed__" = pure none := by
  rw [typeLookup_type, builtinLookup_eq_fast]
  kernel_rfl
theorem getS : typeLookup (.type "str") "__getitem__" = pure (some (.builtin "str.__getitem__")) := by
  rw [typeLookup_type, builtinLookup_eq_fast]
  kernel_rfl
theorem subSD : isSubtype (.type "str") (.type "dict") = pure false := by
  rw [isSubtype_type]
  kernel_rfl
def rsObj (x : Str) (t : Tok) (i : Int) : Obj := { cls := .type "reversed", data := .fields #[.str x t, rawInt i] }
/-- a walk of a text from behind, its next place i -/
def IsRs (h : Heap) (a : Addr) (x : Str) (i : Int) : Prop := ∃ o t, h.get? a = some o ∧ o.cls = .type "reversed" ∧ o.data = .fields #[.str x t, rawInt i]
theorem IsRs.at {h h' : Heap} {a : Addr} {x : Str} {i : Int} (r : IsRs h a x i) (e : ∀ o, h.get? a = some o → h'.get? a = some o) : IsRs h' a x i :=
  let ⟨o, t, ho, q⟩ := r
  ⟨o, t, e _ ho, q⟩
variable {prog : Program} {w : World} {A : Around} {E : Value → Shared → Prop} {s : Shared}
theorem IsRs.ty {a : Addr} {x : Str} {i : Int} (r : IsRs s.heap a x i) : s.TypeIs (.ref a) "reversed" :=
  let ⟨o, _, ho, hc, _⟩ := r
  ⟨o, ho, hc⟩
theorem code_revS {x : Str} {t : Tok} {Q₁ : Value → Shared → Prop} (hlen : ¬ (x.length : Int) ≥ 2 ^ 63)
    (h : ∀ k, Q₁ (.ref s.heap.objs.size) { s with heap := s.heap.push (rsObj x t ((x.length : Int) - 1)), toks := k }) :
    codeAny (model prog w) A (.call (.builtin "reversed.__new__") ⟨[.type "reversed", .str x t], []⟩) (wants Q₁ E) s := by
  have hT := typeIs_str s x t
  refine codeAny_of_tree ?_
  refine wpAny_bind (wpAny_of_eq (F.newCall_reversed_1 _) (wpAny_pure ⟨plainId_quiet F.plain_reversed_new _, codeAny_builtin F.entry_reversed_new ?_⟩))
  rw [Around.under_plainId F.plain_reversed_new _]
  unfold Builtin.«reversed.__new__»
  refine wpAny_bind (wpAny_of_eq (newClass_reversed _) ?_)
  dsimp only
  refine wpAny_bind (wpAny_of_eq (a := ()) (by first | rfl | kernel_rfl) ?_)
  refine wpAny_bind (wpAny_of_eq (a := ()) (by first | rfl | kernel_rfl) ?_)
  try dsimp only
  refine wpAny_bind (wpAny_specialOf hT norevS ?_)
  try dsimp only
  refine wpAny_bind ?_
  wp_delta
  refine wpAny_bind (wpAny_isInstance (T := "str") (U := "dict") (b := false) hT subSD ?_)
  try dsimp only
  try rw [if_neg Bool.false_ne_true]
  try dsimp only
  refine wpAny_bind (wpAny_specialOf hT getS ?_)
  try dsimp only
  try rw [if_pos (by decide +kernel)]
  refine wpAny_pure ?_
  try dsimp only
  try rw [if_neg (by decide)]
  try dsimp only
  refine wpAny_bind (len_str hlen ?_)
  refine wpAny_bind (wpAny_of_eq (a := some ((x.length : Nat) : Int)) rfl ?_)
  try dsimp only
  refine wpAny_bind ?_
  show wpAny _ _ (newObj (.type "reversed") (.fields #[.str x t, rawInt ((x.length : Int) - 1)])) _ _ _
  exact wpAny_newObj_type (wpAny_pure (h _))
/-- reversed(text) -/
theorem call_revS {x : Str} {t : Tok} {Q : Value → Shared → Prop} (hlen : ¬ (x.length : Int) ≥ 2 ^ 63)
    (h : ∀ k, Q (.ref s.heap.objs.size) { s with heap := s.heap.push (rsObj x t ((x.length : Int) - 1)), toks := k }) : wpAny (model prog w) A (call (.type "reversed") [.str x t]) Q E s := by
  refine callType_codes (Q₁ := fun obj s₁ => s₁.TypeIs obj "reversed" ∧ Q obj s₁) RT.called_rt (F.typeCall_reversed_1 _) F.entry_object_init (code_revS (A := A.in1) hlen fun k => ⟨⟨_, Heap.get?_push_size _ rfl, rfl⟩, h k⟩) fun obj s₁ h₁ => ?_
  exact ⟨h₁.1, F.args_object_init_2 obj _, object_init_meets RT.called_rt.init.lookup RT.called_rt.made (by decide) prog w A.in1 _ s₁ ⟨h₁.1, rfl, h₁.2⟩⟩
/-- the next sign -/
theorem next_rs {it : Addr} {x : Str} {i c : Nat} {Q : Option Value → Shared → Prop} (hit : IsRs s.heap it x (i : Int)) (hc : x.cps[i]? = some c) (hsz : x.length ≤ sizeLine)
    (hQ : ∀ h' u k, IsRs h' it x ((i : Int) - 1) → Heap.SameBut it s.heap h' → Q (some (.str ⟨#[c]⟩ u)) { s with heap := h', toks := k }) : wpAny (model prog w) A (pyNext (.ref it)) Q E s := by
  obtain ⟨o, t, ho, hcl, hd⟩ := id hit
  have hi : i < x.length := (Array.getElem?_eq_some_iff.mp hc).1
  have hT := typeIs_str s x t
  rw [sizeLine_eq] at hsz
  unfold pyNext
  refine wpAny_bind (wpAny_attempt (wpAny_callSpecial?_slot (name := Str.ofString "__next__") hit.ty RT.slot_rt_next (wpAny_call_entry RT.slot_rt_next hit.ty RT.entry_rt_next ?_ (RT.args_rt_next _))))
  unfold Builtin.«reversed.__next__»
  refine wpAny_bind (wpAny_of_eq (a := (Value.ref it, [])) rfl ?_)
  try dsimp only
  refine wpAny_bind (wpAny_field ho hd (x := .str x t) rfl ?_)
  try dsimp only
  refine wpAny_bind (wpAny_field ho hd (x := rawInt (i : Int)) rfl ?_)
  show wpAny _ _ (if (i : Int) < 0 then _ else _) _ _ s
  rw [if_neg (by omega)]
  try dsimp only
  refine wpAny_bind (wpAny_specialOf hT getS ?_)
  try dsimp only
  try rw [if_neg (by decide)]
  try dsimp only
  refine wpAny_bind (wpAny_mkInt ?_)
  refine wpAny_bind (wpAny_attempt ?_)
  refine PyProof.Rows.getItem_str (c := c) (by
    have e1 : decide ((i : Int) < -(2 ^ 63 : Int)) = false := decide_eq_false (by omega)
    have e2 : decide ((i : Int) ≥ 2 ^ 63) = false := decide_eq_false (by omega)
    rw [e1, e2, Bool.or_false]) (by rw [seqIndex_of (by omega) (by omega)]; exact hc) ?_
  try dsimp only
  refine wpAny_bind (wpAny_field ho hd (x := rawInt (i : Int)) rfl ?_)
  try dsimp only
  refine wpAny_bind (wpAny_setField ho hd (by simp) ?_)
  refine wpAny_pure ⟨_, rfl, wpAny_pure (hQ _ _ _ ?_ (Heap.SameBut.update ..))⟩
  exact ⟨_, t, Heap.get?_update_self _ ho (Obj.isFreed_of_fields (Obj.data_mapFields hd _)), (Obj.cls_mapFields ..).trans hcl, by
    rw [Obj.data_mapFields hd]
    simp⟩
theorem end_rs {it : Addr} {x : Str} {Q : Option Value → Shared → Prop} (hh : A.handled = none) (hit : IsRs s.heap it x (-1))
    (hQ : ∀ h', Heap.ExtBut it s.heap h' → Q none { s with heap := h' }) : wpAny (model prog w) A (pyNext (.ref it)) Q E s := by
  obtain ⟨o, t, ho, hcl, hd⟩ := id hit
  unfold pyNext
  refine wpAny_bind (wpAny_attempt (wpAny_callSpecial?_slot (name := Str.ofString "__next__") hit.ty RT.slot_rt_next (wpAny_call_entry RT.slot_rt_next hit.ty RT.entry_rt_next ?_ (RT.args_rt_next _))))
  unfold Builtin.«reversed.__next__»
  refine wpAny_bind (wpAny_of_eq (a := (Value.ref it, [])) rfl ?_)
  try dsimp only
  refine wpAny_bind (wpAny_field ho hd (x := .str x t) rfl ?_)
  try dsimp only
  refine wpAny_bind (wpAny_field ho hd (x := rawInt (-1)) rfl ?_)
  show wpAny _ _ (if (-1 : Int) < 0 then _ else _) _ _ s
  rw [if_pos (by decide)]
  try dsimp only
  refine wpAny_bind (wpAny_rule ?_)
  refine wpAny_bind ?_
  wp_delta
  refine wpAny_bind (wpAny_setField ho hd (by simp) ?_)
  generalize hmf : Obj.mapFields (·.setIfInBounds 1 (rawInt (-1))) = mf
  have ho2 : (s.heap.update it mf).get? it = some (mf o) := by
    subst hmf
    exact Heap.get?_update_self _ ho (Obj.isFreed_of_fields (Obj.data_mapFields hd _))
  have hd2 : (mf o).data = .fields ((#[Value.str x t, rawInt (-1)] : Array Value).setIfInBounds 1 (rawInt (-1))) := by
    subst hmf
    exact Obj.data_mapFields hd _
  refine wpAny_setField (s := { s with heap := s.heap.update it mf }) ho2 hd2 (by simp) ?_
  try dsimp only
  refine wpAny_bind ?_
  refine wpAny_bind ?_
  simp only [newExc, newTuple]
  refine wpAny_bind (wpAny_newObj_type ?_ (by size_fits))
  refine wpAny_bind (m := firstArgMember _ _) (wpAny_of_eq (a := Value.none) (by first | rfl | (simp only [firstArgMember]; rfl)) ?_)
  refine wpAny_newObj_type ?_ (by size_fits)
  simp only [raiseNew]
  refine wpAny_bind (wpAny_handled ?_)
  rw [show A.in1.handled = none from hh]
  refine wpAny_bind (wpAny_pure (wpAny_throw ?_))
  refine wpAny_bind (wpAny_isInstance (T := "StopIteration") (b := true) ⟨_, Heap.get?_push_size _ rfl, rfl⟩ isSubtype_stop ?_)
  refine wpAny_pure (hQ _ ?_)
  refine ((?_ : Heap.ExtBut it s.heap _).push _).push _
  exact fun b ob hb e => (Heap.get?_update_other _ _ (Ne.symm hb)).trans ((Heap.get?_update_other _ _ (Ne.symm hb)).trans e)
theorem iter_rs {it : Addr} {x : Str} {i : Int} {Q : Value → Shared → Prop} (hit : IsRs s.heap it x i) (h : Q (.ref it) s) : wpAny (model prog w) A (pyIter (.ref it)) Q E s := by
  refine wpAny_pyIter_slot hit.ty RT.slot_rt_iter (wpAny_call_entry RT.slot_rt_iter hit.ty RT.entry_rt_iter ?_ (RT.args_rt_iter _))
  show wpAny _ _ (ret (.ref it)) _ _ s
  exact wpAny_pure ⟨_, rfl, "reversed", _, hit.ty, RT.slot_rt_next.lookup, h⟩
end
section
open PySem PySem.Spec PyProof.Rows
/-- the signs of a text, from the last one on -/
def ItrS (x : Str) : It := ⟨fun i _ => i < x.length, fun i H v H' => H' = H ∧ ∃ c, x.cps[x.length - 1 - i]? = some c ∧ v = .str ⟨#[c]⟩, fun i _ => x.length ≤ i⟩
theorem walk_revS {x : Str} : Walk (ItrS x) x.length (fun _ => True) (fun i H v H' => H' = H ∧ ∃ c, x.cps[x.length - 1 - i]? = some c ∧ v = .str ⟨#[c]⟩) :=
  ⟨fun _ _ hi _ => hi, fun _ _ => Nat.le_refl _, fun _ _ _ _ _ _ y => y⟩
theorem turn_rs {P : Program} {w : World} {K : PySem.W.Frag} {tg : Expr} (it : Addr) (x : Str) (hz : x.length ≤ sizeLine) : Turn P w K tg (ItrS x) [it] it (fun i h => i ≤ x.length ∧ IsRs h it x ((x.length : Int) - 1 - (i : Nat))) where
  mem := by simp
  obj := fun i h st b hb => by
    rw [List.mem_singleton.mp hb]
    obtain ⟨_, o, t, e, c, d⟩ := st
    exact ⟨o, e, fun v z => by rw [d] at z; cases z⟩
  keep := fun i h h' st k => ⟨st.1, st.2.at fun o e => k it (by simp) o e⟩
  item := by
    intro X hP hw hK hc i pins s σ H E I hf st hg
    subst hP hw hK
    obtain ⟨f0, f1, f2, f3, f4, f5⟩ := hf it (by simp)
    obtain ⟨_, hit⟩ := st
    have hg' : i < x.length := hg
    have e1 : (x.length : Int) - 1 - ((i : Nat) : Int) = ((x.length - 1 - i : Nat) : Int) := by omega
    rw [e1] at hit
    have hlt : x.length - 1 - i < x.cps.size := by
      show x.length - 1 - i < x.length
      omega
    refine next_rs hit (c := x.cps[x.length - 1 - i]) (Array.getElem?_eq_getElem hlt) hz fun h' u k st' sb => ?_
    have e2 : ((x.length - 1 - i : Nat) : Int) - 1 = (x.length : Int) - 1 - ((i + 1 : Nat) : Int) := by omega
    rw [e2] at st'
    have I1 : Inv X pins σ H { s with heap := h', toks := k } := I.turned (t' := k) (fun b o hb e => (sb.2 b hb).trans e) f0 f1 f3 f4 f5
    obtain ⟨o, t, e, c, d⟩ := id st'
    exact ⟨_, rfl, go_of (s := { s with heap := h', toks := k }) e c d (by decide) ⟨.str ⟨#[x.cps[x.length - 1 - i]]⟩, H, I1, ⟨u, rfl⟩, ⟨rfl, _, Array.getElem?_eq_getElem hlt, rfl⟩, ⟨hg', st'⟩, fun b hb => (hf b hb).1⟩⟩
  done := by
    intro X hP hw hK hc i pins s σ H E I hf st hg
    subst hP hw hK
    obtain ⟨f0, f1, f2, f3, f4, f5⟩ := hf it (by simp)
    obtain ⟨hin, hit⟩ := st
    have hge : x.length ≤ i := hg
    have e1 : (x.length : Int) - 1 - ((i : Nat) : Int) = -1 := by omega
    rw [e1] at hit
    exact end_rs (I.ok.hd hc) hit fun h' eb => ⟨rfl, I.turned (t' := s.toks) (fun b o hb e => eb b o hb e) f0 f1 f3 f4 f5⟩
  self := fun A i s Q E st h => iter_rs st.2 h
def iRevS (te : TE) : TI := fun σ H R => te σ H fun v H1 => ∃ x, v = .str x ∧ x.length ≤ sizeLine ∧ R (ItrS x) H1
theorem pi_revS {X : Cx} {tg e : Expr} {te : TE} {p pos : Pos} (hg : Gl X "reversed") (hm : X.mg "reversed" = none) (he : PE X e te) (hs : starEach [e] X.env = (false, eval e X.env) :: starEach [] X.env := by rfl) : PI X tg (.Call (.Name "reversed" p) [e] [] pos) (iRevS te) := by
  refine ⟨fun pins s σ H R I h => ?_⟩
  refine Call_ (ld_blt I hg hm PyProof.Rows.boot_reversed (PyProof.Rows.callWith_type1 (args_cons (thn (he.run pins s σ H _ I h) fun u s1 ⟨v, H1, I1, r1, q1⟩ => args_nil ?_) hs) hs rfl))
  obtain ⟨x, ev, hz, q⟩ := q1
  subst ev
  obtain ⟨t, rfl⟩ := r1
  have hn := line63
  refine call_revS (by omega) fun k => iter_rs (x := x) (i := (x.length : Int) - 1) ⟨_, t, Heap.get?_push_size _ rfl, rfl, rfl⟩ ?_
  refine pi_one (tk := k) I1 _ (turn_rs _ x hz) ⟨Nat.zero_le _, ?_⟩ q
  have e1 : (x.length : Int) - 1 - ((0 : Nat) : Int) = (x.length : Int) - 1 := by omega
  rw [e1]
  exact ⟨_, t, Heap.get?_push_size _ rfl, rfl, rfl⟩
end


/-! ### {(k, l): v for x in .. for y in ..}: a dict whose keys are tuples -/
section
open PySem PySem.Spec PyProof.Rows
/-- two clauses, no test -/
abbrev dcE (kx vx t0 i0 t1 i1 : Expr) (scope : Scope) (pos : Pos) : Expr := .DictComp kx vx [⟨t0, i0, [], 0⟩, ⟨t1, i1, [], 0⟩] scope pos
theorem dcOuter (kx vx t0 i0 t1 i1 : Expr) (scope : Scope) (pos : Pos) (it acc : Value) (env : Env) :
    compTurn (dcE kx vx t0 i0 t1 i1 scope pos) 0 it acc env = (do
      standAt i0.pos
      match ← pyNext it with
      | none => pure (.done .next)
      | some v =>
        letOwnedTupleGo t0 it v
        assign t0 env v
        let mut yes := true
        for c in ([] : List Expr) do
          if yes then yes ← isTrue c env (eval c env)
        if yes then
          let src ← eval i1 env
          standAt i1.pos
          let src ← foldedSetIterable i1 env src
          let _ ← runOwn (.compStart (dcE kx vx t0 i0 t1 i1 scope pos) 1 (← holding [src] (pyIter src)) acc env) env
        again (.compLoop (dcE kx vx t0 i0 t1 i1 scope pos) 0 it acc env)) := by rfl
theorem dcInner (kx vx t0 i0 t1 i1 : Expr) (scope : Scope) (pos : Pos) (it : Value) (D : Addr) (env : Env) :
    compTurn (dcE kx vx t0 i0 t1 i1 scope pos) 1 it (.ref D) env = (do
      standAt i1.pos
      match ← pyNext it with
      | none => pure (.done .next)
      | some v =>
        letOwnedTupleGo t1 it v
        assign t1 env v
        let mut yes := true
        for c in ([] : List Expr) do
          if yes then yes ← isTrue c env (eval c env)
        if yes then
          (do
            let a ← eval kx env
            let b ← holding [a] (eval vx env)
            standAt { kx.pos with endLine := vx.pos.endLine, endCol := vx.pos.endCol }
            holding [a, b] (dictSet D a b))
        again (.compLoop (dcE kx vx t0 i0 t1 i1 scope pos) 1 it (.ref D) env)) := by rfl
variable {prog : Program} {w : World} {A : Around} {R : Result → Shared → Prop} {s : Shared} {kx vx t0 i0 t1 i1 : Expr} {scope : Scope} {pos : Pos} {it acc : Value} {D : Addr} {env : Env}
/-- what is raised is noted where the block stands -/
abbrev nb (prog : Program) (w : World) (A : Around) (env : Env) (R : Result → Shared → Prop) : Value → Shared → Prop := notedBy (model prog w) A env fun e s' => R (.error e) s'
theorem dcOuter_loop (hs : ∀ x, foldedSetIterable i1 env x = pure x) (I : Nat → Shared → Prop)
    (turn : ∀ n s, I n s → wpAny (model prog w) A (pyNext it) (fun r s₁ => match r with
      | none => R (.ok .next) s₁
      | some v => wpAny (model prog w) A (letOwnedTupleGo t0 it v) (fun _ s₂ => wpAny (model prog w) A (assign t0 env v) (fun _ s₃ =>
          wpAny (model prog w) A (eval i1 env) (fun x s₄ => wpAny (model prog w) A (pyIter x) (fun it1 s₅ =>
            codeAny (model prog w) A (.compStart (dcE kx vx t0 i0 t1 i1 scope pos) 1 it1 acc env) (fun r s' => match r with
              | .ok _ => ∃ m, m < n ∧ I m s'
              | .error _ => False) s₅) (nb prog w A env R) s₄) (nb prog w A env R) s₃) (nb prog w A env R) s₂) (nb prog w A env R) s₁) (nb prog w A env R) s)
    (n : Nat) (h : I n s) : codeAny (model prog w) A (.compLoop (dcE kx vx t0 i0 t1 i1 scope pos) 0 it acc env) R s := by
  refine codeAny_loop rfl I (fun n s hI => ?_) n h
  show wpAny _ A ((compTurn (dcE kx vx t0 i0 t1 i1 scope pos) 0 it acc env).onRaise (fun x => do noteFrame x env; theTreesLotGoes x)) _ _ s
  refine wpAny_noted ?_
  rw [dcOuter]
  refine wpAny_bind (wpAny_standAt (wpAny_bind (wpAny_mono (turn n s hI) (fun r s₁ h₁ => ?_) fun _ _ z => z)))
  cases r with
  | none => exact wpAny_pure h₁
  | some v =>
    refine wpAny_bind (wpAny_mono h₁ (fun _ s₂ h₂ => ?_) fun _ _ z => z)
    refine wpAny_bind (wpAny_mono h₂ (fun _ s₃ h₃ => wpAny_bind (wpAny_tests_nil ?_)) fun _ _ z => z)
    refine wpAny_bind (wpAny_mono h₃ (fun x s₄ h₄ => ?_) fun _ _ z => z)
    refine wpAny_bind (wpAny_standAt (wpAny_bind (wpAny_of_eq (hs x) (wpAny_bind (wpAny_holding (wpAny_mono h₄ (fun it1 s₅ h₅ => ?_) fun _ _ z => z))))))
    refine wpAny_bind (wpAny_runOwn ?_)
    rw [Around.mark_none]
    refine codeAny_mono h₅ fun r s' hr => ?_
    cases r with
    | error e => exact hr.elim
    | ok f =>
      first
        | exact wpAny_pure ⟨rfl, hr⟩
        | exact wpAny_bind (wpAny_pure (wpAny_pure ⟨rfl, hr⟩))
theorem dcInner_loop (I : Nat → Shared → Prop)
    (turn : ∀ n s, I n s → wpAny (model prog w) A (pyNext it) (fun r s₁ => match r with
      | none => R (.ok .next) s₁
      | some v => wpAny (model prog w) A (letOwnedTupleGo t1 it v) (fun _ s₂ => wpAny (model prog w) A (assign t1 env v) (fun _ s₃ =>
          wpAny (model prog w) A (eval kx env) (fun a s₄ => wpAny (model prog w) A (eval vx env) (fun b s₅ =>
            wpAny (model prog w) A (dictSet D a b) (fun _ s₆ => ∃ m, m < n ∧ I m s₆) (nb prog w A env R) s₅) (nb prog w A env R) s₄) (nb prog w A env R) s₃) (nb prog w A env R) s₂) (nb prog w A env R) s₁) (nb prog w A env R) s)
    (n : Nat) (h : I n s) : codeAny (model prog w) A (.compLoop (dcE kx vx t0 i0 t1 i1 scope pos) 1 it (.ref D) env) R s := by
  refine codeAny_loop rfl I (fun n s hI => ?_) n h
  show wpAny _ A ((compTurn (dcE kx vx t0 i0 t1 i1 scope pos) 1 it (.ref D) env).onRaise (fun x => do noteFrame x env; theTreesLotGoes x)) _ _ s
  refine wpAny_noted ?_
  rw [dcInner]
  refine wpAny_bind (wpAny_standAt (wpAny_bind (wpAny_mono (turn n s hI) (fun r s₁ h₁ => ?_) fun _ _ z => z)))
  cases r with
  | none => exact wpAny_pure h₁
  | some v =>
    refine wpAny_bind (wpAny_mono h₁ (fun _ s₂ h₂ => ?_) fun _ _ z => z)
    refine wpAny_bind (wpAny_mono h₂ (fun _ s₃ h₃ => wpAny_bind (wpAny_tests_nil ?_)) fun _ _ z => z)
    exact wpAny_bind (wpAny_bind (wpAny_mono h₃ (fun a s₄ h₄ => wpAny_bind (wpAny_holding (wpAny_mono h₄ (fun b s₅ h₅ => wpAny_bind (wpAny_standAt (wpAny_holding (wpAny_mono h₅ (fun _ s₆ h₆ => wpAny_pure ⟨rfl, h₆⟩) fun _ _ z => z)))) fun _ _ z => z))) fun _ _ z => z))
theorem dcStart1 (h0 : codeAny (model prog w) A (.compLoop (dcE kx vx t0 i0 t1 i1 scope pos) 1 it acc env) R s)
    (h : wpAny (model prog w) A (pyIter it) (fun it' s' => codeAny (model prog w) A (.compLoop (dcE kx vx t0 i0 t1 i1 scope pos) 1 it' acc env) R s') (nb prog w A env R) s) :
    codeAny (model prog w) A (.compStart (dcE kx vx t0 i0 t1 i1 scope pos) 1 it acc env) R s := by
  refine codeAny_of_tree ?_
  show wpAny _ _ ((compStart (dcE kx vx t0 i0 t1 i1 scope pos) 1 it acc env).onRaise (fun x => do noteFrame x env; standAt theWindowsPlace)) _ _ s
  refine wpAny_notedAt ?_
  unfold compStart
  show wpAny _ _ (ask >>= _) _ _ s
  refine wpAny_bind (wpAny_askSetting (wpAny_ite ?_))
  split
  · first
      | exact wpAny_bind (wpAny_pure (wpAny_pure ⟨rfl, h0⟩))
      | exact wpAny_pure ⟨rfl, h0⟩
  · first
      | exact wpAny_bind (wpAny_rule (wpAny_bind (wpAny_standAt (wpAny_bind (wpAny_mono h (fun it' s' h' => wpAny_pure ⟨rfl, h'⟩) fun _ _ x => x)))))
      | (refine wpAny_bind (wpAny_rule ?_)
         exact wpAny_bind (wpAny_standAt (wpAny_bind (wpAny_mono h (fun it' s' h' => wpAny_pure ⟨rfl, h'⟩) fun _ _ x => x))))
end
section
open PySem PySem.Spec PyProof.Rows
/-- d[t] = v as a comprehension stores it, t a tuple -/
theorem put_tup {X : Cx} {pins : List (Addr × Obj)} {σ : L2.St} {H : Hp} {s : Shared} {E : Value → Shared → Prop} {D b : Addr} {kvs : List (List Key × V)} {k : List Key} {v : V} {r : Value} {Q : Unit → Shared → Prop} (hu : X.A.units < cLine) (I : Inv X pins σ H s) (hD : H D = some (.dT kvs)) (hz : kvs.length < sizeLine)
    (eb : H b = some (.tup (k.map kV))) (rv : RelV v r) (h : ∀ s', Inv X pins σ (upd H D (.dT (putK kvs k v))) s' → Q () s') : wpAny (model X.prog X.w) X.A (dictSet D (.ref b) r) Q E s := by
  obtain ⟨_, hd, xs, rel, dd⟩ := dt_of I.hok hD
  have l1 : xs.length ≤ sizeLine := by
    rw [← Paired.length rel]
    exact Nat.le_of_lt hz
  have l2 : (putK kvs k v).length ≤ sizeLine := by
    have := length_putK kvs k v
    omega
  refine wpAny_dictSet_heap (knd := tupleKind (mixKind X.prog X.w)) (hsz := l1) hu (key_of I.hok eb) dd fun h' dd' hs => h _ ?_
  obtain ⟨q, es, ep, hq, h2, h3, h4, _, h5⟩ := dd'
  refine d_write I (by rw [hD]; exact True.intro) hs ⟨q, hq⟩ ⟨l2, hd, _, (rel.put k eb rv).keeps fun c ys ec => ?_, q, es, ep, hq, h2, h3, h4, h5⟩
  rw [upd_ne (ne_of ec hD fun z => nomatch z)]
  exact ec
variable {X : Cx}
/-- {key: val for x in one for y in two}: D the new dict; vs: the block's names, vs1: those of the second target -/
def tDc2 (wi : TI) (g : TG) (wi1 : TI) (g1 : TG) (tk tv : TE) (vs vs1 : List Nat) : TE := fun σ H Q => wi σ H fun J H1 => ∀ D, H1 D = none → ∃ W : Nat → Nat → Hp → Prop, (∃ m, W 0 m (upd H1 D (.dT []))) ∧ ∀ i m H, W i m H →
  (J.stop i H ∧ Q (.ref D) H) ∨ (J.go i H ∧ ∃ Nx : Hp → Prop, (∀ H', Nx H' → ∃ m', m' < m ∧ W (i + 1) m' H') ∧ ∀ x H', J.yld i H x H' → g x (wipe σ vs) H' fun σ2 H2 => wipe σ2 vs = wipe σ vs ∧
    wi1 σ2 H2 fun J1 H4 => ∃ W1 : Nat → Nat → Hp → Prop, (∃ m, W1 0 m H4) ∧ ∀ j k H, W1 j k H →
      (J1.stop j H ∧ Nx H) ∨ (J1.go j H ∧ ∃ Nx1 : Hp → Prop, (∀ H', Nx1 H' → ∃ k', k' < k ∧ W1 (j + 1) k' H') ∧ ∀ x H', J1.yld j H x H' → g1 x (wipe σ2 vs1) H' fun σ3 H5 => wipe σ3 vs1 = wipe σ2 vs1 ∧
        tk σ3 H5 fun y H6 => tv σ3 H6 fun z H7 => ∃ (b : Addr) (kvs : List (List Key × V)) (key : List Key), y = .ref b ∧ H7 b = some (.tup (key.map kV)) ∧ H7 D = some (.dT kvs) ∧ kvs.length < sizeLine ∧ Nx1 (upd H7 D (.dT (putK kvs key z)))))
theorem dc2_core {pins : List (Addr × Obj)} {s : Shared} {σ : L2.St} {H : Hp} {Q : VK} {kx vx t0 i0 t1 i1 : Expr} {scope : Scope} {own : List (Str × Nat)} {vs1 : List Nat} {pos pos' : Pos} {wi wi1 : TI} {g g1 : TG} {tk tv : TE} {use : Option (Value → Sem Unit)} {Qf : Value → Shared → Prop}
    (hu : X.A.units < cLine) (hc : X.calm = true) (hN : X.N.Nodup) (I : Inv X pins σ H s) (hi : PI X t0 i0 wi) (ok : BlkOk X.N X.env.scope scope own) (hv : ∀ i ∈ vs1, i ∈ own.map (·.2))
    (hg : ∀ (s : Shared) (H : Hp) (C : Addr) (cl : List (Str × Addr)) (fp : List Addr), PG (X.blk s H scope (compEnvC scope cl C X.env) fp) t0 g)
    (hk : ∀ (s : Shared) (H : Hp) (C : Addr) (cl : List (Str × Addr)) (fp : List Addr), PE (X.blk s H scope (compEnvC scope cl C X.env) fp) kx tk)
    (he : ∀ (s : Shared) (H : Hp) (C : Addr) (cl : List (Str × Addr)) (fp : List Addr), PE (X.blk s H scope (compEnvC scope cl C X.env) fp) vx tv) (hs : ∀ x, foldedSetIterable i0 X.env x = pure x)
    (hi1 : ∀ (s : Shared) (H : Hp) (C : Addr) (cl : List (Str × Addr)) (fp : List Addr), PI (X.blk s H scope (compEnvC scope cl C X.env) fp) t1 i1 wi1)
    (hg1 : ∀ (s : Shared) (H : Hp) (C : Addr) (cl : List (Str × Addr)) (fp : List Addr), PG (X.blk s H scope (compEnvC scope cl C X.env) fp) t1 g1)
    (hs1 : ∀ env x, foldedSetIterable i1 env x = pure x)
    (h : tDc2 wi g wi1 g1 tk tv (own.map (·.2)) vs1 σ H Q)
    (hRR : ∀ D C s' m H', Inv X pins σ H' s' → Q (.ref D) H' → s'.heap.Ns C m → FpOk X pins H' C → compPost (model X.prog X.w) X.A X.xe use Qf (.ref D) C (.ok .next) s') :
    wpAny (model X.prog X.w) X.A (comprehension (dcE kx vx t0 i0 t1 i1 scope pos) scope X.env pos' newDict false (eval i0 X.env) use) Qf X.xe s := by
  have cellThere : ∀ y ∈ scope.names, y.2 = .free → ∃ c, X.env.cells.lookup y.1 = some c := fun y hy e => by
    rcases ok.free y hy e with k | k
    · exact I.ok.has _ (.inl k)
    · exact I.ok.has _ (.inr k)
  refine wpAny_comprehension_free (use := use) rfl hs (closure_ok cellThere) ok.kind (fun y hy e => by rw [ok.uniq y hy, e]) (thn (hi.run pins s σ H _ I h) fun xv sa hx => thn hx fun itv sb hb => ?_)
  obtain ⟨it, fp, tn, J, Hb, e, Ib, T, stb, fb, q⟩ := hb
  subst e
  refine wpAny_newObj_type (newEnv_comp ?_)
  generalize hD : sb.heap.objs.size = D
  have fresh : Hb D = none := Ib.hok.fresh (Nat.le_of_eq hD)
  obtain ⟨W, ⟨m0, w0⟩, turn⟩ := q D fresh
  generalize hsc : ({ sb with heap := sb.heap.push { cls := .type "dict", data := .dict #[] } } : Shared) = sc
  have hsch : sc.heap = sb.heap.push { cls := .type "dict", data := .dict #[] } := by rw [← hsc]
  generalize hHc : upd Hb D (.dT []) = Hc at w0
  have Ic : Inv X pins σ Hc sc := by
    rw [← hsc, ← hHc]
    refine Ib.laid (t' := sb.toks) (fun b o e => Heap.get?_push_of_some _ e) (Nat.le_of_eq hD) ?_
    rw [← hD]
    exact dt_empty sb.heap Ib.big
  have fpc : ∀ b ∈ fp, FpOk X pins Hc b ∧ b < sc.heap.objs.size := fun b hb => by
    obtain ⟨o, e, _⟩ := T.obj _ _ stb b hb
    have lt := Heap.lt_size e
    refine ⟨⟨?_, (fb b hb).2⟩, by rw [hsch, Heap.size_push]; exact Nat.lt_succ_of_lt lt⟩
    rw [← hHc, upd_ne (by rw [← hD]; exact Nat.ne_of_lt lt)]
    exact (fb b hb).1
  have stc : tn 0 sc.heap := T.keep _ _ _ stb fun b _ o e => by
    rw [hsch]
    exact Heap.get?_push_of_some _ e
  have Id := block_start Ic ok hN fpc
  generalize hcl : cellsFrom (sc.heap.objs.size + 1) scope.names (cloFrom X.env.cells scope.names []) = cl at Id
  have pg := hg sc Hc sc.heap.objs.size cl fp
  have pk := hk sc Hc sc.heap.objs.size cl fp
  have pe := he sc Hc sc.heap.objs.size cl fp
  have pi1 := hi1 sc Hc sc.heap.objs.size cl fp
  have pg1 := hg1 sc Hc sc.heap.objs.size cl fp
  show codeAny _ _ (.compStart (dcE kx vx t0 i0 t1 i1 scope pos) 0 (.ref it) (.ref D) (compEnvC scope cl sc.heap.objs.size X.env)) (compPost (model X.prog X.w) X.A X.xe use Qf (.ref D) sc.heap.objs.size) { sc with heap := pushCells (sc.heap.push { cls := .type "dict", data := .dict #[] }) scope.names }
  have none0 : ∀ b ∈ fp, Hc b = none := fun b hb => (fpc b hb).1.1
  generalize hce : compEnvC scope cl sc.heap.objs.size X.env = ce at Id pg pk pe pi1 pg1 ⊢
  have ceL : ce.locals = sc.heap.objs.size := by
    subst hce
    rfl
  generalize hsd : ({ sc with heap := pushCells (sc.heap.push { cls := .type "dict", data := .dict #[] }) scope.names } : Shared) = sd at Id ⊢
  have std : tn 0 sd.heap := T.keep _ _ _ stc fun b _ o e => by
    rw [← hsd]
    exact pushCells_keeps _ _ _ _ (Heap.get?_push_of_some _ e)
  have fpB : ∀ {σ' : L2.St} {H' : Hp} {s' : Shared}, Inv (X.blk sc Hc scope ce fp) [] σ' H' s' → (∀ b ∈ fp, H' b = none) → ∀ b ∈ fp, FpOk (X.blk sc Hc scope ce fp) [] H' b := fun {σ' H' s'} I' hn b hb =>
    ⟨hn b hb, (I'.ok.exf b hb).1, I'.ok.exfs b hb, .inl hb, fun x c e => (I'.ok.exf b hb).2 x c e, fun p hp => absurd (show p ∈ ([] : List (Addr × Obj)) ++ [] from hp) (by simp)⟩
  -- where a turn of the first clause begins
  generalize hAt : (fun (n : Nat) (s' : Shared) => ∃ i H', Inv (X.blk sc Hc scope ce fp) [] (wipe σ (own.map (·.2))) H' s' ∧ tn i s'.heap ∧ (∀ b ∈ fp, H' b = none) ∧ W i n H') = At
  have goal0 : codeAny (model X.prog X.w) X.A (.compLoop (dcE kx vx t0 i0 t1 i1 scope pos) 0 (.ref it) (.ref D) ce) (compPost (model X.prog X.w) X.A X.xe use Qf (.ref D) sc.heap.objs.size) sd := by
    refine dcOuter_loop (hs1 ce) At ?_ m0 (by rw [← hAt]; exact ⟨0, Hc, Id, std, none0, w0⟩)
    rintro n s5 hs5
    rw [← hAt] at hs5
    obtain ⟨i, H5, I5, st5, n5, w5⟩ := hs5
    rcases turn i n H5 w5 with ⟨stop, qq⟩ | ⟨go, Nx, hNx, step⟩
    · refine thnF (T.done (X.blk sc Hc scope ce fp) rfl rfl rfl hc i [] s5 _ H5 (fun _ _ => False) I5 (fpB I5 n5) st5 stop) fun r s6 ⟨hr, I6⟩ => ?_
      subst hr
      have Iback : Inv X pins σ H5 s6 := Ic.call' (ch := fp) I6.os I6.base I6.hok I6.bare fun b hb => ⟨(fpc b hb).1.2.2.2.1, (fpc b hb).1.2.1, (fpc b hb).1.2.2.2.2.1, (fpc b hb).1.2.2.2.2.2⟩
      have noneC : H5 sc.heap.objs.size = none := by
        rw [← ceL]
        exact I6.free
      obtain ⟨m, hn, _⟩ := I6.loc
      have hn : s6.heap.Ns ce.locals m := hn
      rw [ceL] at hn
      exact hRR D sc.heap.objs.size s6 m H5 Iback qq hn (Ic.fpOk (Nat.le_refl _) noneC)
    · refine thnF (T.item (X.blk sc Hc scope ce fp) rfl rfl rfl hc i [] s5 _ H5 (fun _ _ => False) I5 (fpB I5 n5) st5 go) fun r s6 ⟨u, hr, h6⟩ => ?_
      subst hr
      refine thnF h6 fun _ s7 ⟨x, H7, I7, r7, y7, st7, n7⟩ => ?_
      have I7p := I7.pinned (fpB I7 n7) (T.obj _ _ st7)
      refine thnF (pg.run _ s7 _ H7 x u _ I7p r7 (step x H7 y7)) fun _ s8 ⟨σ8, H8, I8, hw8, q8⟩ => ?_
      have keep8 : ∀ (j : Nat) v, (wipe σ (own.map (·.2)))[j]? = some (some v) → (wipe σ8 vs1)[j]? = some (some v) := fun j v e => by
        rw [← hw8] at e
        obtain ⟨e1, e2⟩ := wipe_some e
        rw [wipe_out fun z => e2 (hv j z)]
        exact e1
      have len8 : (wipe σ (own.map (·.2))).length = (wipe σ8 vs1).length := by
        rw [← hw8, wipe_length, wipe_length]
      -- from the second clause's end to the next turn of the first
      have nextTurn : ∀ {s' : Shared} {H' : Hp}, Inv (X.blk sc Hc scope ce fp) ([] ++ pinsAt fp s7.heap) (wipe σ8 vs1) H' s' → Nx H' → ∃ m, m < n ∧ At m s' := fun {s' H'} I' nx => by
        obtain ⟨m', hm, w'⟩ := hNx H' nx
        have pinned : ∀ b ∈ fp, ∀ o, s7.heap.get? b = some o → s'.heap.get? b = some o ∧ H' b = none := fun b hb o e =>
          let z := I'.pin (b, o) (List.mem_append_right _ (List.mem_append_right _ (mem_pinsAt hb e)))
          ⟨z.1, z.2.1⟩
        rw [← hAt]
        refine ⟨m', hm, i + 1, H', (I'.unpinned (pins := [])).weak len8 keep8, T.keep _ _ _ st7 fun b hb o e => (pinned b hb o e).1, fun b hb => ?_, w'⟩
        obtain ⟨o, e, _⟩ := T.obj _ _ st7 b hb
        exact (pinned b hb o e).2
      refine thnF (pi1.run _ s8 σ8 H8 _ I8 q8) fun xv s10 hx => thnF hx fun itv s11 h11 => ?_
      obtain ⟨it1, fp1, tn1, J1, H11, e1, I11, T1, st11, f11, W1, ⟨m1, w1⟩, turn1⟩ := h11
      subst e1
      have fpB1 : ∀ {H' : Hp}, (∀ b ∈ fp1, H' b = none) → ∀ b ∈ fp1, FpOk (X.blk sc Hc scope ce fp) ([] ++ pinsAt fp s7.heap) H' b := fun hn b hb => ⟨hn b hb, (f11 b hb).2⟩
      generalize hAt1 : (fun (k : Nat) (s' : Shared) => ∃ j H', Inv (X.blk sc Hc scope ce fp) ([] ++ pinsAt fp s7.heap) (wipe σ8 vs1) H' s' ∧ tn1 j s'.heap ∧ (∀ b ∈ fp1, H' b = none) ∧ W1 j k H') = At1
      have goal1 : codeAny (model X.prog X.w) X.A (.compLoop (dcE kx vx t0 i0 t1 i1 scope pos) 1 (.ref it1) (.ref D) ce) (fun r s' => match r with
          | .ok _ => ∃ m, m < n ∧ At m s'
          | .error _ => False) s11 := by
        refine dcInner_loop At1 ?_ m1 (by rw [← hAt1]; exact ⟨0, H11, I11.weak (wipe_length _ _) (fun j v e => (wipe_some e).1), st11, fun b hb => (f11 b hb).1, w1⟩)
        rintro k s12 hs12
        rw [← hAt1] at hs12
        obtain ⟨j, H12, I12, st12, n12, w12⟩ := hs12
        rcases turn1 j k H12 w12 with ⟨stop1, nx1⟩ | ⟨go1, Nx1, hNx1, step1⟩
        · refine thnF (T1.done (X.blk sc Hc scope ce fp) rfl rfl rfl hc j _ s12 (wipe σ8 vs1) H12 (fun _ _ => False) I12 (fpB1 n12) st12 stop1) fun r s13 ⟨hr, I13⟩ => ?_
          subst hr
          exact nextTurn I13 nx1
        · refine thnF (T1.item (X.blk sc Hc scope ce fp) rfl rfl rfl hc j _ s12 (wipe σ8 vs1) H12 (fun _ _ => False) I12 (fpB1 n12) st12 go1) fun r s13 ⟨u1, hr, h13⟩ => ?_
          subst hr
          refine thnF h13 fun _ s14 ⟨x1, H14, I14, r14, y14, st14, n14⟩ => ?_
          have I14p := I14.pinned (fpB1 n14) (T1.obj _ _ st14)
          refine thnF (pg1.run _ s14 (wipe σ8 vs1) H14 x1 u1 _ I14p r14 (step1 x1 H14 y14)) fun _ s15 ⟨σ15, H15, I15, hw15, q15⟩ => ?_
          have nextTurn1 : ∀ {s' : Shared} {H' : Hp}, Inv (X.blk sc Hc scope ce fp) (([] ++ pinsAt fp s7.heap) ++ pinsAt fp1 s14.heap) σ15 H' s' → Nx1 H' → ∃ m, m < k ∧ At1 m s' := fun {s' H'} I' nx => by
            obtain ⟨m', hm, w'⟩ := hNx1 H' nx
            have pinned : ∀ b ∈ fp1, ∀ o, s14.heap.get? b = some o → s'.heap.get? b = some o ∧ H' b = none := fun b hb o e =>
              let z := I'.pin (b, o) (List.mem_append_right _ (List.mem_append_right _ (mem_pinsAt hb e)))
              ⟨z.1, z.2.1⟩
            rw [← hAt1]
            refine ⟨m', hm, j + 1, H', I'.unpinned.weak (by rw [← hw15, wipe_length]) (fun j v e => by rw [← hw15] at e; exact (wipe_some e).1), T1.keep _ _ _ st14 fun b hb o e => (pinned b hb o e).1, fun b hb => ?_, w'⟩
            obtain ⟨o, e, _⟩ := T1.obj _ _ st14 b hb
            exact (pinned b hb o e).2
          refine thnF (pk.run _ s15 σ15 H15 _ I15 q15) fun za s16 ⟨ya, H16, I16, r16, q16⟩ => ?_
          refine thnF (pe.run _ s16 σ15 H16 _ I16 q16) fun zb s17 ⟨yb, H17, I17, r17, b, kvs, key, ek, eb, hD17, hz17, nx⟩ => ?_
          subst ek
          obtain rfl : za = Value.ref b := r16
          exact put_tup (X := X.blk sc Hc scope ce fp) hu I17 hD17 hz17 eb r17 fun s18 I18 => nextTurn1 I18 nx
      exact dcStart1 goal1 (T1.self X.A 0 _ _ _ st11 goal1)
  exact codeAny_compStart_dict goal0 (T.self X.A 0 _ _ _ std goal0)
theorem swD_true {kx vx : Expr} {gs : List Comprehension} {scope : Scope} {pos py : Pos} {y : Str} {l : Nat} {env : Env} (hk : env.scope.kind = .function) (hy : env.scope.names.lookup y = some .local) (hl : (py.line == pos.line) = true)
    (ha : (scope.names.any fun (n, k) => n == y && (k == .local || k == .cell)) = false) : swapsWith (.DictComp kx vx gs scope pos) (some (.Name y py)) l env = pure true := by
  have e1 : env.kindOf y = some .local := hy
  have e2 : env.blockKind = .function := by
    unfold Env.blockKind
    rw [hk]
    rfl
  unfold swapsWith
  simp only [e1, e2, ha, Expr.pos, hl]
  rfl
/-- name = {..} on one line, the name a local -/
theorem ps_setDc2 {i : Nat} {y : Str} {py : Pos} {kx vx t0 i0 t1 i1 : Expr} {scope : Scope} {own : List (Str × Nat)} {vs1 : List Nat} {pos spos : Pos} {wi wi1 : TI} {g g1 : TG} {tk tv : TE} (hu : X.A.units < cLine) (hc : X.calm = true) (hN : X.N.Nodup) (hy : X.N[i]? = some y) (hyl : X.env.scope.names.lookup y = some .local)
    (hsw : swapsWith (dcE kx vx t0 i0 t1 i1 scope pos) (some (.Name y py)) spos.line X.env = pure true) (hi : PI X t0 i0 wi) (ok : BlkOk X.N X.env.scope scope own) (hv : ∀ i ∈ vs1, i ∈ own.map (·.2))
    (hg : ∀ (s : Shared) (H : Hp) (C : Addr) (cl : List (Str × Addr)) (fp : List Addr), PG (X.blk s H scope (compEnvC scope cl C X.env) fp) t0 g)
    (hi1 : ∀ (s : Shared) (H : Hp) (C : Addr) (cl : List (Str × Addr)) (fp : List Addr), PI (X.blk s H scope (compEnvC scope cl C X.env) fp) t1 i1 wi1)
    (hg1 : ∀ (s : Shared) (H : Hp) (C : Addr) (cl : List (Str × Addr)) (fp : List Addr), PG (X.blk s H scope (compEnvC scope cl C X.env) fp) t1 g1)
    (hk : ∀ (s : Shared) (H : Hp) (C : Addr) (cl : List (Str × Addr)) (fp : List Addr), PE (X.blk s H scope (compEnvC scope cl C X.env) fp) kx tk)
    (he : ∀ (s : Shared) (H : Hp) (C : Addr) (cl : List (Str × Addr)) (fp : List Addr), PE (X.blk s H scope (compEnvC scope cl C X.env) fp) vx tv)
    (hs : ∀ x, foldedSetIterable i0 X.env x = pure x := by intro _; rfl) (hs1 : ∀ env x, foldedSetIterable i1 env x = pure x := by intro _ _; rfl) :
    PS X (.Assign [.Name y py] (dcE kx vx t0 i0 t1 i1 scope pos) spos) (tAsg (tDc2 wi g wi1 g1 tk tv (own.map (·.2)) vs1) (gName i)) := by
  refine ⟨fun pins s σ H D I h => ?_⟩
  rw [exec_Assign_Name_used _ _ _ _ hsw]
  refine wpAny_bind (wpAny_standAt (wpAny_bind ?_))
  show wpAny _ X.A (do let _ ← comprehension (dcE kx vx t0 i0 t1 i1 scope pos) scope X.env (firstIterPos [⟨t0, i0, [], 0⟩, ⟨t1, i1, [], 0⟩] pos) newDict false (eval i0 X.env) (some (assign (.Name y py) X.env))) _ _ s
  have h : tDc2 wi g wi1 g1 tk tv (own.map (·.2)) vs1 σ H (fun x H1 => gName i x σ H1 D.nx) := h
  refine wpAny_bind (thn (dc2_core (Qf := fun _ s' => SP X pins D .next s') hu hc hN I hi ok hv hg hk he hs hi1 hg1 hs1 h fun L C s' m H' I' q hn f => ?_) fun _ s' hq => wpAny_pure (wpAny_pure hq))
  show wpAny _ _ (assign (.Name y py) X.env (.ref L)) _ _ _
  refine wpAny_assign_Name (store_ok2 (v := V.ref L) I' hN hy (.inl hyl) rfl (fun s2 I2 ⟨a, sb, ha⟩ => ?_) (.inr hyl))
  obtain ⟨f0, f1, f2, f3, f4, f5⟩ := f
  have neq : C ≠ a := by
    rcases ha with z | z
    · rw [z]
      exact f1
    · exact fun e => f4 y a z e.symm
  refine ⟨m, hn.sameBut sb neq, fun h3 sb3 => ?_⟩
  exact ⟨_, H', I2.turned (t' := s2.toks) (fun b o hb e => (sb3.2 b hb).trans e) f0 f1 f3 f4 f5, q⟩
end


/-! ### {(a, b): v}: a dict with one key, a tuple -/
section
open PySem PySem.Spec PyProof.Rows
variable {X : Cx}
def tDisp1 (tk tv : TE) : TE := fun σ H Q => ∀ p, H p = none → tk σ (upd H p (.dT [])) fun x H1 => tv σ H1 fun y H2 => ∃ (b : Addr) (k : List Key), x = .ref b ∧ H2 b = some (.tup (k.map kV)) ∧ H2 p = some (.dT []) ∧ Q (.ref p) (upd H2 p (.dT [(k, y)]))
theorem pe_disp1 {kx vx : Expr} {pos : Pos} {tk tv : TE} (hu : X.A.units < cLine) (hk : PE X kx tk) (hv : PE X vx tv) : PE X (.Dict [some kx] [vx] pos) (tDisp1 tk tv) := by
  refine ⟨fun pins s σ H Q I q => ?_⟩
  have hn := I.hok.fresh (Nat.le_refl s.heap.objs.size)
  have I1 := I.laid (a := s.heap.objs.size) (o := .dT []) (h' := s.heap.push { cls := .type "dict", data := .dict #[] }) (t' := s.toks) (fun _ _ q => Heap.get?_push_of_some _ q) (Nat.le_refl _) (dt_empty s.heap I.big)
  rw [arm_eval_Dict, zip_pairTrees [some kx] [vx] X.env pos rfl rfl, dictDisplay_pairs _ (by simp [pairTrees]) (by simp [pairTrees])]
  refine wpAny_bind (wpAny_standAt (wpAny_bind (wpAny_subDictH (knd := tupleKind (mixKind X.prog X.w)) (Q := fun d s' => wpAny (model X.prog X.w) X.A (pure (Value.ref d)) _ _ s') hu (by simp [pairTrees]) ?_)))
  refine evalPairs_cons (thn (hk.run pins _ σ _ _ I1 (q _ hn)) fun kv s2 ⟨x, H2, I2, r2, q2⟩ => ?_)
  refine wpAny_bind (thn (hv.run pins s2 σ H2 _ I2 q2) fun vv s3 ⟨y, H3, I3, r3, b, k, ex, eb, ep, q3⟩ => ?_)
  subst ex
  obtain rfl : kv = Value.ref b := r2
  refine wpAny_bind (wpAny_standAt (wpAny_pure (evalPairs_nil ?_)))
  obtain ⟨_, hd, xs, rel, dd⟩ := dt_of I3.hok ep
  cases rel
  refine ⟨[(k, b, vv)], ⟨rfl, rfl, key_of I3.hok eb, trivial⟩, dd, fun h' tk dd' hs => wpAny_pure ⟨.ref s.heap.objs.size, _, ?_, rfl, q3⟩⟩
  obtain ⟨o, es, ep', hq, h2, h3, h4, _, h5⟩ := dd'
  have rel2 : KT H3 (putK [] k y) (storedH [] k b vv) := KT.put .nil k eb r3
  refine d_write I3 (by rw [ep]; exact True.intro) hs ⟨o, hq⟩ ⟨by show 1 ≤ sizeLine; decide, hd, _, rel2.keeps fun c ys ec => ?_, o, es, ep', hq, h2, h3, h4, h5⟩
  rw [upd_ne (ne_of ec ep fun z => nomatch z)]
  exact ec
end


/-! ### where a sign stands in a text -/
section
open PySem PySem.Builtin PySem.Builtin.Str PySem.StrLaws
theorem at_sign_iff (l : List Nat) (c i : Nat) : At (S l) (S [c]) (S l).length i ↔ l[i]? = some c := subAt_one (S l) c i
theorem idx_first {l : List Nat} {c i : Nat} (h : l[i]? = some c) (hn : ∀ k, k < i → ¬ l[k]? = some c) : l.idxOf c = i := by
  obtain ⟨hi, hv⟩ := List.getElem?_eq_some_iff.mp h
  have hm : c ∈ l := hv ▸ List.getElem_mem hi
  have hlt := List.idxOf_lt_length_of_mem hm
  have e1 : l[l.idxOf c]? = some c := by rw [List.getElem?_eq_getElem hlt, List.getElem_idxOf hlt]
  have h1 : ¬ l.idxOf c < i := fun z => hn _ z e1
  have h2 : ¬ i < l.idxOf c := fun z => by
    have := List.not_of_lt_findIdx (p := (· == c)) (xs := l) (i := i) z
    simp [hv] at this
  omega
theorem occ_sign {l : List Nat} {c : Nat} (h : c ∈ l) : ∃ rest, occurrences (S l) (S [c]) 0 (S l).length 1 = l.idxOf c :: rest := by
  rcases occ_head (S l) (S [c]) 1 (Nat.le_refl _) with ⟨_, hn⟩ | ⟨i, r, e, ha, hn⟩
  · have hlt := List.idxOf_lt_length_of_mem h
    exact absurd ((at_sign_iff l c _).mpr (by rw [List.getElem?_eq_getElem hlt, List.getElem_idxOf hlt])) (hn (l.idxOf c))
  · have := idx_first ((at_sign_iff l c i).mp ha) fun k hk => fun z => hn k hk ((at_sign_iff l c k).mpr z)
    exact ⟨r, by rw [e, this]⟩
theorem occ_none_sign {l : List Nat} {c : Nat} (h : c ∉ l) : occurrences (S l) (S [c]) 0 (S l).length 1 = [] := by
  rcases occ_head (S l) (S [c]) 1 (Nat.le_refl _) with ⟨e, _⟩ | ⟨i, r, _, ha, _⟩
  · exact e
  · exact absurd (List.mem_of_getElem? ((at_sign_iff l c i).mp ha)) h
theorem find_sign (l : List Nat) (c : Nat) : Txt.find (S l) (S [c]) = if c ∈ l then ((l.idxOf c : Nat) : Int) else -1 := by
  unfold Txt.find
  by_cases h : c ∈ l
  · obtain ⟨r, e⟩ := occ_sign h
    rw [if_pos h, e]
  · rw [if_neg h, occ_none_sign h]
end


/-! ### for k, c in enumerate(text) -/
section
open PySem PySem.Spec PyProof.Rows
/-- the signs of a text with their places, each in a new pair -/
def IteS (x : Str) : It :=
  ⟨fun i _ => i < x.length, fun i H v H' => ∃ T c, v = .ref T ∧ H T = none ∧ H' = upd H T (.tup [.int (i : Nat), .str ⟨#[c]⟩]) ∧ x.cps[i]? = some c, fun i _ => x.length ≤ i⟩
theorem turn_enS {P : Program} {w : World} {K : PySem.W.Frag} {elts : List Expr} {kk : Nat} {tpos : Pos} (x : Str) (t : Tok) (e it : Addr) :
    Turn P w K (.Tuple elts kk tpos) (IteS x) [e, it] e (fun i h => (∃ old, IsEnum h e it ((i : Nat) : Int) old) ∧ h.IsStrIter it (strIterType x) x t i ∧ e ≠ it ∧ i ≤ x.length) where
  mem := by simp
  obj := fun i h st b hb => by
    obtain ⟨⟨old, he⟩, ⟨o, ho, hc, hd⟩, _⟩ := st
    have e' : b = e ∨ b = it := by simpa using hb
    rcases e' with z | z
    · rw [z]; exact ⟨_, he, fun v q => nomatch q⟩
    · rw [z]; exact ⟨o, ho, fun v q => by rw [hd] at q; cases q⟩
  keep := fun i h h' st k => by
    obtain ⟨⟨old, he⟩, ⟨o, ho, r⟩, hne, hle⟩ := st
    exact ⟨⟨old, k e (by simp) _ he⟩, ⟨o, k it (by simp) _ ho, r⟩, hne, hle⟩
  item := by
    intro X hP hw hK hc i pins s σ H E I hf st hg
    subst hP hw hK
    obtain ⟨⟨old, he⟩, hit, hne, hle⟩ := st
    have hlt : i < x.length := hg
    have hel : e < s.heap.objs.size := Heap.lt_size he
    have hil : it < s.heap.objs.size := by obtain ⟨_, q, _⟩ := hit; exact Heap.lt_size q
    refine wpAny_pyNext_enum_itemD (Draws.text (A := X.A.in1) (I.ok.hd hc) it x t) he hit hlt hne (by simpa using hne) fun v h' tk hPx ho hit' hT hsz hk => ?_
    obtain ⟨c, u, hcx, rfl⟩ := hPx
    refine ⟨_, rfl, wpAny_letOwnedTupleGo_enum (s := { s with heap := h', toks := tk + 1 }) ho fun h'' he' sb => ?_⟩
    have hT2 : h''.get? s.heap.objs.size = some { cls := .type "tuple", data := .seq #[.int i tk, .str ⟨#[c]⟩ u] } := (sb.2 _ (Nat.ne_of_gt hel)).trans hT
    have new : ObjOk X.prog X.w (upd H s.heap.objs.size (.tup [.int (i : Nat), .str ⟨#[c]⟩])) h'' s.heap.objs.size (.tup [.int (i : Nat), .str ⟨#[c]⟩]) :=
      ⟨by show 2 ≤ sizeLine; decide, [.int i tk, .str ⟨#[c]⟩ u], .cons ⟨_, rfl⟩ (.cons ⟨_, rfl⟩ .nil), ⟨_, hT2, rfl, _, rfl⟩⟩
    have I1 : Inv X pins σ (upd H s.heap.objs.size (.tup [.int (i : Nat), .str ⟨#[c]⟩])) { s with heap := h'', toks := tk + 1 } :=
      I.turnedNew (ch := [e, it]) (fun b ob hb q => (sb.2 b (fun z => hb (by simp [z]))).trans (hk b ob (fun z => hb (by simp [z])) (fun z => hb (by simp [z])) q)) hf (Nat.le_refl _) new
    refine ⟨.ref s.heap.objs.size, _, I1, rfl, ⟨_, c, rfl, I.hok.fresh (Nat.le_refl _), rfl, hcx⟩, ⟨⟨.str ⟨#[c]⟩ u, ?_⟩, ?_, hne, hlt⟩, fun b hb => ?_⟩
    · have e1 : ((i + 1 : Nat) : Int) = (i : Int) + 1 := by omega
      rw [e1]; exact he'
    · obtain ⟨o, q, r⟩ := hit'
      exact ⟨o, (sb.2 it (Ne.symm hne)).trans q, r⟩
    · have hb' : b < s.heap.objs.size := by
        have e' : b = e ∨ b = it := by simpa using hb
        rcases e' with z | z
        · rw [z]; exact hel
        · rw [z]; exact hil
      rw [upd_ne (Nat.ne_of_lt hb')]
      exact (hf b hb).1
  done := by
    intro X hP hw hK hc i pins s σ H E I hf st hg
    subst hP hw hK
    obtain ⟨⟨old, he⟩, hit, hne, hle⟩ := st
    obtain ⟨f0, f1, f2, f3, f4, f5⟩ := hf it (by simp)
    have hn : i = x.length := Nat.le_antisymm hle hg
    subst hn
    exact wpAny_pyNext_enum_endD (Draws.text (A := X.A.in1) (I.ok.hd hc) it x t) he hit fun h' eb => ⟨rfl, I.turned (t' := s.toks) (fun b o hb q => eb b o hb q) f0 f1 f3 f4 f5⟩
  self := fun A i s Q E st h => let ⟨⟨_, he⟩, _⟩ := st; wpAny_pyIter_enum he h
def iEnS (ta : TA) : TI := fun σ H R => ta σ H fun vs H1 => ∃ x, vs = [.str x] ∧ R (IteS x) H1
theorem pi_enS {X : Cx} {e : Expr} {ta : TA} {p pos tpos : Pos} {elts : List Expr} {kk : Nat} (hg : Gl X "enumerate") (hm : X.mg "enumerate" = none) (ha : PA X [e] ta) (hs : starEach [e] X.env = [(false, eval e X.env)] := by rfl) :
    PI X (.Tuple elts kk tpos) (.Call (.Name "enumerate" p) [e] [] pos) (iEnS ta) := by
  refine ⟨fun pins s σ H R I h => ?_⟩
  refine Call_ (ld_blt I hg hm boot_enumerate (PyProof.Rows.callWith_type1 (thn (ha.run pos pins s σ H _ I h) fun us s1 ⟨vs, H1, I1, r1, q1⟩ => ?_) hs rfl))
  obtain ⟨x, ex, q⟩ := q1
  subst ex
  cases r1 with
  | cons r rr =>
    cases rr
    obtain ⟨t, rfl⟩ := r
    refine call_enumerate_str fun h' he hit hsz hk => wpAny_pyIter_enum he ?_
    have I2 : Inv X pins σ H1 { s1 with heap := h' } := I1.kept (t' := s1.toks) hk
    refine ⟨s1.heap.objs.size + 1, [s1.heap.objs.size + 1, s1.heap.objs.size], _, _, H1, rfl, I2, turn_enS x t (s1.heap.objs.size + 1) s1.heap.objs.size, ⟨⟨.none, he⟩, hit, Nat.succ_ne_self _, Nat.zero_le _⟩, fun b hb => ?_, q⟩
    have e' : b = s1.heap.objs.size + 1 ∨ b = s1.heap.objs.size := by simpa using hb
    have hle : s1.heap.objs.size ≤ b := by
      rcases e' with z | z
      · rw [z]; exact Nat.le_add_right _ _
      · rw [z]; exact Nat.le_refl _
    exact I1.fpOk hle (I1.hok.fresh hle)
theorem walk_enS {x : Str} : Walk (IteS x) x.length (fun _ => True) (YPair (fun i => some (.int (i : Nat))) (fun i => x.cps[i]?.map fun c => .str ⟨#[c]⟩)) := by
  refine ⟨fun i _ hi q => hi, fun _ q => Nat.le_refl _, fun i H v H' _ q y => ?_⟩
  obtain ⟨T, c, h1, h2, h3, h4⟩ := y
  exact ⟨T, .int (i : Nat), .str ⟨#[c]⟩, h1, h2, h3, rfl, by simp [h4]⟩
end
theorem hu0_of {A : Around} {k : Nat} (hr : Room k A) : A.units < cLine := by
  have := hr.units
  omega


/-! ### own errors with fields -/
section
open PySem PySem.Spec PyProof.Rows PySem.W
/-- C.m of a class of the program, C the class itself -/
theorem method_own {prog : Program} {w : World} {A : Around} {E : Value → Shared → Prop} {s : Shared} {K : Frag} {C : Addr} {name : Str} {v : Value} {pl : Sem Bool} {Q : Value × List Value → Shared → Prop} (X : K.In s.heap) (ht : typeIn K (.ref C) = some (.type "type")) (ho : nsIn K cStatics "thirdparty.any" = some none)
    (e : findCls K (.ref C) (.type "type") name = some (.val v)) (hh : handedIn v = true) (h : Q (v, []) { s with toks := s.toks + 1 }) : wpAny (model prog w) A (getMethod (.ref C) name pl) Q E s := by
  have L0 : Looks (model prog w) s.heap (typeOf (.ref C)) (.type "type") := looks_typeIn X ht
  have hg : findIn K (.type "type") "__getattribute__" = some (some (.builtin "type.__getattribute__")) := type_tga
  unfold getMethod specialOf
  refine wpAny_bind (wpAny_bind (L0.here ((looks_findIn X hg).here ?_)))
  dsimp only
  rw [if_pos canon_tga]
  refine wpAny_bind (wpAny_mono (Q := fun v => Q (v, [])) (E := E) ?_ (fun _ _ z => wpAny_pure z) fun _ _ z => z)
  refine cls_open X (looks_opaque X ho) L0 hg (looks_hook X (r := none) (by rfl)) (by show subIn K _ _ = _; rfl) e
    (wpAny_pure (by show wpAny _ _ (handedOut v) _ _ _; rw [handedOut_of hh]; exact wpAny_pure h))
end
section
open PySem PySem.Spec PyProof.Rows
variable {X : Cx} {e : Expr} {es : List Expr} {ta : TA} {p1 p2 pos : Pos}
/-- T.__init__(self, ..), T an own class over ValueError without an own __init__ -/
theorem pe_teinit {CT : Addr} {x : Str} {pl : Sem Bool} (hg : Gl X x) (hm : X.mg x = some (.ref CT)) (ht : PySem.W.typeIn X.K (.ref CT) = some (.type "type")) (ho : PySem.W.nsIn X.K cStatics "thirdparty.any" = some none)
    (vV : PySem.W.findCls X.K (.ref CT) (.type "type") "__init__" = some (.val (.builtin "ValueError.__init__"))) (ha : PA X (e :: es) ta) (hdb : (x == ("__debug__" : Str)) = false := by decide)
    (hc : eval (.Call (.Attribute (.Name x p1) "__init__" p2) (e :: es) [] pos) X.env = (do
      let ov ← eval (.Name x p1) X.env
      standAt p2.atName
      let (f, first) ← holding [ov] (getMethod ov "__init__" pl)
      callWith pos f first (backTo pos (starEach (e :: es) X.env)) (backToKw pos (keywordEach [] X.env))) := by rfl)
    (he : starEach (e :: es) X.env = (false, eval e X.env) :: starEach es X.env := by rfl) (hpl : (backTo pos (starEach es X.env)).any (·.1) = false := by rfl) :
    PE X (.Call (.Attribute (.Name x p1) "__init__" p2) (e :: es) [] pos) (tVeI X.K ta) := by
  refine ⟨fun pins s σ H Q I h => ?_⟩
  refine PySem.W.methodCall_KW (ld_glob I hg hm ?_ hdb) hc
  refine method_own I.kIn ht ho vV (by decide +kernel) ?_
  show wpAny _ _ (callWith pos (Value.builtin "ValueError.__init__") [] (backTo pos (starEach (e :: es) X.env)) []) _ _ _
  refine PyProof.Rows.callWith_method1 (thn (ha.run pos pins _ σ H _ (I.tok _) h) fun us s1 ⟨vs, H1, I1, r1, a, C, ws, ev, hl, T, ea, q⟩ => ?_) he hpl
  subst ev
  cases r1 with
  | @cons _ u0 _ ur ra rw' =>
    obtain rfl : u0 = Value.ref a := ra
    have hlen : ur.length ≤ sizeLine := by
      rw [← Paired.length rw', sizeLine_eq]
      omega
    exact oinit_ok T I1 ea hlen fun s' J => ⟨.non, H1, J, rfl, q⟩
/-- isinstance(e, c), e the exception that the suite holds, of whichever class -/
def rIsG (K : PySem.W.Frag) (cls : Value) (d : Option Addr) (a : Addr) : List V → Hp → VK → Prop := fun xs H Q => ∃ (D : Addr) (c : V) (cv : Value) (b : Bool), xs = [.ref a, c] ∧ cls = .ref D ∧ ExcC K D ∧ (d = none ∨ ∃ dd fs, d = some dd ∧ H dd = some (.xd fs)) ∧ (∀ u, RelV c u → u = cv) ∧ PySem.W.kitOne K (.ref D) cv = some b ∧ Q (.bl b) H
theorem call_isG {a : Addr} {oe : Obj} {cls : Value} {d : Option Addr} {pn : List (Addr × Obj)} (hz : Zc cls d oe) (hf : ∃ vs, oe.data = .fields vs) : CallR (X.suite a ((a, oe) :: pn)) (.builtin "isinstance") (rIsG X.K cls d a) := by
  intro pins s σ H xs us Q I r h
  obtain ⟨D, c, cv, b, rfl, rfl, C, hd, hcv, e, q⟩ := h
  cases r with
  | cons rx rr =>
    cases rr with
    | cons rt rr =>
      cases rr
      cases rx
      have ec := hcv _ rt
      subst ec
      obtain ⟨hget, _⟩ := I.pin (a, oe) (List.mem_append.mpr (.inl List.mem_cons_self))
      obtain ⟨vs, hv⟩ := hf
      have hcl : (PySem.W.clsIn X.K D).isSome = true := by
        obtain ⟨cd, hc, _⟩ := PySem.W.any_some C.hd
        rw [hc]
        rfl
      have J : ∃ od, PySem.W.InstAt s.heap a oe D od := by
        rcases hd with rfl | ⟨dd, fs, rfl, ea⟩
        · obtain ⟨oc, od, oda, osl⟩ := oe
          obtain ⟨h1, h2⟩ := hz
          dsimp only at h1 h2 hv
          subst h1 h2 hv
          exact ⟨none, hget, rfl, rfl, trivial⟩
        · have hx : ObjOk X.prog X.w H s.heap dd (.xd fs) := I.hok dd _ ea
          obtain ⟨mA, hns, hr⟩ := hx
          obtain ⟨od, ho, hl⟩ := lookIn_ns hns
          exact ⟨some od, hget, hz.1, by unfold PySem.W.notCls; rw [hv] <;> rfl, by rw [hz.2]; exact ho⟩
      obtain ⟨od, J⟩ := J
      exact PySem.W.kia_one (PySem.W.kitx_exc hcl C.hg C.hk C.hs C.ha C.hn C.ht C.hm) I.kIn J e (fun z => nomatch z) fun tk => ⟨.bl b, H, I.kept (t' := tk) fun _ _ z => z, rfl, q⟩
/-- e.f, e the exception that the suite holds, of whichever class -/
def tXg (K : PySem.W.Frag) (a : Addr) (cls : Value) (d : Option Addr) (f : Str) (te : TE) : TE := fun σ H Q => te σ H fun x H1 => x = .ref a ∧ ∃ C, cls = .ref C ∧ XfC K C ∧ PySem.W.findIn K (.ref C) f = some none ∧ ∃ (dd : Addr) (fs : List (Str × V)) (v : V), d = some dd ∧ H1 dd = some (.xd fs) ∧ fs.lookup f = some v ∧ Q v H1
theorem pe_xg {a : Addr} {oe : Obj} {cls : Value} {d : Option Addr} {pn : List (Addr × Obj)} {te : TE} {n : Str}
    (hz : Zc cls d oe) (hf : ∃ vs, oe.data = .fields vs) (he : PE (X.suite a ((a, oe) :: pn)) e te) (hb : attributeBase e n X.env (eval e X.env) = eval e X.env := by rfl) :
    PE (X.suite a ((a, oe) :: pn)) (.Attribute e n pos) (tXg X.K a cls d n te) := by
  refine ⟨fun pins s σ H Q I h => ?_⟩
  refine attr_of hb (thn (he.run pins s σ H _ I h) fun u s1 hh => ?_)
  obtain ⟨x, H1, I1, rx, ex, C, ec, T, hno, dd, fs, v, ed, ea, l, q⟩ := hh
  subst ex
  obtain rfl : u = Value.ref a := rx
  subst ec
  subst ed
  obtain ⟨ha, _⟩ := I1.pin (a, oe) (List.mem_append_left _ List.mem_cons_self)
  obtain ⟨vs, hd⟩ := hf
  have hx : ObjOk X.prog X.w H1 s1.heap dd (.xd fs) := I1.hok dd _ ea
  obtain ⟨mA, hns, hr⟩ := hx
  obtain ⟨od, ho, hl⟩ := lookIn_ns hns
  obtain ⟨u, hu, ru⟩ := RelO.some_of (v := v) (o := mA n) (by rw [← l]; exact hr n)
  have J : PySem.W.InstAt s1.heap a oe C (some od) := ⟨ha, hz.1, by unfold PySem.W.notCls; rw [hd] <;> rfl, by rw [hz.2]; exact ho⟩
  exact HandSPX.exc_get I1.kIn J T.ga T.gg T.exC (PySem.W.findObj_own T.hdC hno rfl (by rw [hl, hu])) (handed_of ru) ⟨v, H1, I1.tok _, ru, q⟩
end


/-! ### own error classes with one field -/
section
open PySem PySem.Spec PyProof.Rows PySem.W
/-- the j-th statement of a class's body -/
def inCls (st : Stmt) (j : Nat) : Stmt := match st with
  | .ClassDef (body := b) .. => b.getD j (.Pass ⟨0, 0, 0, 0⟩)
  | s => s
theorem kit_mk {K : Frag} {t : Value} {D : Addr} {b : Bool} (hne : (t == Value.ref D) = false) (h1 : isClsIn K D = true) (h2 : typeIn K (.ref D) = some (.type "type")) (h3 : subIn K t (.ref D) = some b) : kitOne K t (.ref D) = some b := by
  unfold kitOne
  rw [hne]
  have e : ((clsIn K D).isSome && typeIn K (.ref D) == some (.type "type")) = true := by
    have h1' : (clsIn K D).isSome = true := h1
    rw [h1', h2]
    rfl
  show kitCls K t (.ref D) = some b
  show (if ((clsIn K D).isSome && typeIn K (.ref D) == some (.type "type")) = true then subIn K t (.ref D) else none) = some b
  rw [if_pos e]
  exact h3
theorem kit_self {K : Frag} {t : Value} : kitOne K t t = some true := by
  unfold kitOne
  rw [if_pos (by simp)]
theorem kit_blt {K : Frag} {C : Addr} {T : String} {b : Bool} (hm : kitMeta T = true) (h3 : subIn K (.ref C) (.type T) = some b) : kitOne K (.ref C) (.type T) = some b := by
  unfold kitOne
  rw [if_neg (by simp)]
  show (if kitMeta T = true then subIn K (.ref C) (.type T) else none) = some b
  rw [if_pos hm]
  exact h3
end
/-- an own class over ValueError, the ground of the others -/
structure TCls (K : PySem.W.Frag) (mg : Str → Option Value) (x : Str) where
  C : Addr
  g : mg x = some (.ref C)
  ty : PySem.W.typeIn K (.ref C) = some (.type "type")
  ns : PySem.W.nsIn K cStatics "thirdparty.any" = some none
  fi : PySem.W.findCls K (.ref C) (.type "type") "__init__" = some (.val (.builtin "ValueError.__init__"))
/-- an own class over that, with a field -/
structure XCls (K : PySem.W.Frag) (mg : Str → Option Value) (x f qual : Str) (st : Stmt) (CT : Addr) where
  C : Addr
  fI : Addr
  fd : FuncData
  g : mg x = some (.ref C)
  ox : OexC K C
  ec : ExcC K C
  nf : PySem.W.findIn K (.ref C) f = some none
  iC : PySem.W.findIn K (.ref C) "__init__" = some (some (.ref fI))
  tI : PySem.W.typeIn K (.ref fI) = some (.type "function")
  F : Fun K "__init__" qual st fI fd
  b : Binds K fd ["self", f] []
  ex : PySem.W.exmOne K (.ref C) (.ref CT) = some true
theorem XCls.xf {K : PySem.W.Frag} {mg : Str → Option Value} {x f qual : Str} {st : Stmt} {CT : Addr} (T : XCls K mg x f qual st CT) : XfC K T.C := ⟨T.ec.hg, T.ec.hk, T.ec.hs, T.ec.hd⟩
/-- what such an error bears -/
def FldV (v : V) : Prop := (∃ y : Str, v = .str y ∧ y.length ≤ 1000) ∨ ∃ i : Int, v = .int i ∧ 0 ≤ i ∧ i < 100000
theorem FldV.nat {i : Nat} (h : i < 100000) : FldV (.int (i : Nat)) := .inr ⟨_, rfl, by omega, by omega⟩
theorem num_len5 {i : Int} (h0 : 0 ≤ i) (h1 : i < 100000) : (Str.ofString (toString i)).length ≤ 5 := by
  obtain ⟨n, rfl⟩ : ∃ n : Nat, i = (n : Nat) := ⟨i.toNat, by omega⟩
  have e : (Str.ofString (toString ((n : Nat) : Int))).length = (TL.numL n).length := by
    rw [← TL.tl_num n]
    show _ = (Str.ofString (toString ((n : Nat) : Int))).cps.toList.length
    simp [Str.length]
  rw [e]
  exact TL.numL_len (n := n) (k := 5) (by decide) (by omega)
/-- {x}, x an error's field -/
theorem fmt_fld {v : V} {H : Hp} {Q : Str → Prop} (h : FldV v) (q : ∀ y : Str, y.length ≤ 1000 → Q y) : ((∃ y : Str, v = .str y ∧ y.length ≤ sizeLine ∧ Q y) ∨ ∃ i : Int, v = .int i ∧ i.natAbs.log2 < 1920 ∧ Q (toString i)) := by
  rcases h with ⟨y, e, hl⟩ | ⟨i, e, h0, h1⟩
  · exact .inl ⟨y, e, by rw [sizeLine_eq]; omega, q y hl⟩
  · refine .inr ⟨i, e, ?_, q _ ?_⟩
    · have := Nat.log2_le_self i.natAbs
      have h2 : i.natAbs < 100000 := by omega
      have h3 : i.natAbs.log2 < 17 := by
        by_cases hz : i.natAbs = 0
        · rw [hz]
          decide
        · exact (Nat.log2_lt hz).mpr (by omega)
      omega
    · have := num_len5 h0 h1
      omega
/-- the promise of such an __init__ -/
def spXI (C : Addr) (f : Str) : Sp := fun vs H Q _ => ∃ (a : Addr) (v : V), vs = [.ref a, v] ∧ FldV v ∧ H a = some (exo a C none) ∧
  ∀ dx, H dx = none → dx ≠ a → Q .non (upd (upd H dx (exd dx [(f, v)])) a (exo a C (some dx)))
theorem oex_rd {C : Addr} {f : Str} {v : V} {H : Hp} {Q : XK} (hv : FldV v) (q : ∀ d H', Same H H' → H d = none → H' d = some (.xd [(f, v)]) → Q (.ref C) (some d) H') :
    [v].length ≤ 1000 ∧ ∀ a, H a = none → spXI C f (.ref a :: ([v] ++ [])) (upd H a (exo a C none))
      (fun v H2 => v = .non ∧ ∃ (d : Addr) (fs : List (Str × V)), H2 a = some (exo a C (some d)) ∧ H2 d = some (exd d fs) ∧ H d = none ∧ Q (.ref C) (some d) (upd (del H2 a) d (.xd fs))) (fun _ _ _ => False) := by
  refine ⟨by show 1 ≤ 1000; omega, fun a ha => ⟨a, v, rfl, hv, upd_same, fun dx hd ne => ?_⟩⟩
  have hd0 : H dx = none := by
    rw [upd_ne ne] at hd
    exact hd
  refine ⟨rfl, dx, [(f, v)], upd_same, by rw [upd_ne ne, upd_same], hd0, q _ _ (fun b o e => ?_) hd0 upd_same⟩
  have n1 : b ≠ dx := ne_of_none e hd0
  have n2 : b ≠ a := ne_of_none e ha
  rw [upd_ne n1, del_ne n2, upd_ne n2, upd_ne n1, upd_ne n2]
  exact e
section
variable {P : Program} {w : World} {K : PySem.W.Frag} {mg : Str → Option Value} {base : Heap}
/-- T.__init__(self, f"a{x}b"); self.f = x -/
theorem xi_rd {C : Addr} {f a b : Str} {vs : List V} {H : Hp} {Q : VK} {E : XK} (hx : OexC K C) (hn : PySem.W.findIn K (.ref C) f = some none) (ha : a.length ≤ 1000) (hb : b.length ≤ 1000) (h : spXI C f vs H Q E) :
    tSeq (tDrop (tVeI K (tCons (tVar 0) (tCons (fun σ H Q => tJs [tC (.str a), tFmt (tVar 1), tC (.str b)] Str.empty σ H fun out H1 => Q (.str out) H1) tNil)))) (tOst K f (tVar 0) (tVar 1)) { nx := fun _ H' => Q .non H', rt := Q } (start ["self", f] vs) H := by
  obtain ⟨p, v, rfl, hv, ep, q⟩ := h
  have z0 : (Str.empty ++ a).length = a.length := by
    rw [Str.length_append]
    show 0 + _ = _
    omega
  refine ⟨_, rfl, a, rfl, by rw [z0, sizeLine_eq]; omega, _, rfl, ?_⟩
  have key : ∀ y : Str, y.length ≤ 1000 → ((Str.empty ++ a ++ y).length ≤ sizeLine ∧ (Str.empty ++ a ++ y ++ b).length ≤ sizeLine) := fun y hy => by
    constructor
    · rw [Str.length_append, z0, sizeLine_eq]
      omega
    · rw [Str.length_append, Str.length_append, z0, sizeLine_eq]
      omega
  refine fmt_fld (H := H) hv fun y hy => ?_
  obtain ⟨k1, k2⟩ := key y hy
  exact ⟨y, rfl, k1, b, rfl, k2, p, C, [_], rfl, by show 1 ≤ 1000; omega, hx, ep, _, rfl, _, rfl, p, C, rfl, hx, hn, .inl ⟨ep, fun dx h1 h2 => q dx h1 h2⟩⟩
end


/-! ### text * number, 0 or 1 -/
section
variable {X : Cx}
theorem mul_ok01 {x : Str} {n : Int} (h : n = 0 ∨ n = 1) : MulOk x n := by
  rcases h with rfl | rfl
  · exact ⟨by decide, fun z => absurd (by decide) z, fun z => absurd (by decide) z⟩
  · exact ⟨by decide, fun _ z => by simp at z, fun _ z => by simp at z⟩
theorem mul_01 {cs : List Nat} {n : Int} (h : n = 0 ∨ n = 1) : Txt.mul (S cs) n = S (if n = 1 then cs else []) := by
  rcases h with rfl | rfl
  · rfl
  · show (if (1 : Int) < 1 then _ else _) = _
    rw [if_neg (by decide), if_pos (by simp), if_pos rfl]
theorem op_mulS : OpR X (binaryOp .Mult) (fun x y H Q => ∃ (cs : List Nat) (n : Int), x = .str (S cs) ∧ y = .int n ∧ (n = 0 ∨ n = 1) ∧ Q (.str (S (if n = 1 then cs else []))) H) := by
  intro pins s σ H x y v u Q I rx ry h
  obtain ⟨cs, n, rfl, rfl, hz, q⟩ := h
  obtain ⟨t, rfl⟩ := rx
  obtain ⟨t', rfl⟩ := ry
  refine SB.mul (mul_ok01 hz) fun t2 tk => ?_
  rw [mul_01 hz]
  exact ⟨.str (S (if n = 1 then cs else [])), H, I.tok _, ⟨_, rfl⟩, q⟩
end


/-! ### what is spoilt -/
def comm (one two : List Nat) (c : Int) : Bool := decide (one.getD c.toNat 0 = two.getD c.toNat 0)
/-- signs read otherwise, begun in the other state -/
def spo (one two : List Nat) : List Int → Nat
  | [] => 0
  | c :: r => if (one.length : Int) ≤ c then 0 else (if comm one two c = true then 0 else 1) + spo one two r
theorem spo_len (one two : List Nat) : ∀ l : List Int, spo one two l ≤ l.length
  | [] => Nat.le_refl _
  | c :: r => by
    have := spo_len one two r
    simp only [spo, List.length_cons]
    split
    · omega
    · split <;> omega
/-- no shift among them -/
def noSh (n : Nat) (l : List Int) : Prop := ∀ c ∈ l, c < (n : Int)
theorem noSh.snoc {n : Nat} {l : List Int} {c : Int} (h : noSh n l) (hc : c < (n : Int)) : noSh n (l ++ [c]) := fun x hx => (List.mem_append.mp hx).elim (h x) fun hx => by
  rw [List.mem_singleton.mp hx]
  exact hc
theorem spo_app {one two : List Nat} : ∀ {l : List Int} (r : List Int), noSh one.length l → spo one two (l ++ r) = spo one two l + spo one two r
  | [], r, _ => by simp [spo]
  | c :: l, r, h => by
    have h1 := h c (by simp)
    have ih := spo_app (one := one) (two := two) (l := l) r fun x hx => h x (by simp [hx])
    have hn : ¬ (one.length : Int) ≤ c := by omega
    simp only [List.cons_append, spo, if_neg hn, ih]
    omega
theorem spo_shift {one two : List Nat} {c : Int} (r : List Int) (h : (one.length : Int) ≤ c) : spo one two (c :: r) = 0 := by
  simp only [spo, if_pos h]
/-- places below i that differ -/
def difN (l w : List Nat) : Nat → Nat
  | 0 => 0
  | i + 1 => difN l w i + (if l.getD i 0 = w.getD i 0 then 0 else 1)
theorem difN_self (l : List Nat) : ∀ i, difN l l i = 0
  | 0 => rfl
  | i + 1 => by simp [difN, difN_self l i]
theorem difN_cons (a b : Nat) (x y : List Nat) : ∀ m, difN (a :: x) (b :: y) (m + 1) = (if a = b then 0 else 1) + difN x y m
  | 0 => by simp [difN]
  | m + 1 => by
    rw [difN, difN_cons a b x y m, difN]
    simp only [List.getD_cons_succ]
    omega
theorem difN_app (p x y : List Nat) (m : Nat) : difN (p ++ x) (p ++ y) (p.length + m) = difN x y m := by
  induction p with
  | nil => simp
  | cons a p ih =>
    have e : (a :: p).length + m = (p.length + m) + 1 := by
      rw [List.length_cons]
      omega
    rw [e, List.cons_append, List.cons_append, difN_cons, ih]
    simp
theorem difN_pos {l w : List Nat} : ∀ {n : Nat}, 0 < difN l w n → l ≠ w := by
  rintro n h rfl
  rw [difN_self] at h
  omega
theorem difN_eq {l w : List Nat} (hl : l.length = w.length) : ∀ {n : Nat}, n = w.length → difN l w n = 0 → l = w := by
  intro n hn h
  have key : ∀ i, difN l w i = 0 → ∀ j, j < i → l.getD j 0 = w.getD j 0 := by
    intro i
    induction i with
    | zero => intro _ j hj; omega
    | succ i ih =>
      intro h j hj
      rw [difN] at h
      by_cases hji : j = i
      · subst hji
        by_cases e : l.getD j 0 = w.getD j 0
        · exact e
        · rw [if_neg e] at h
          omega
      · exact ih (by omega) j (by omega)
  refine List.ext_getElem hl fun j h1 h2 => ?_
  have := key n h j (by omega)
  rw [List.getD_eq_getElem?_getD, List.getD_eq_getElem?_getD, List.getElem?_eq_getElem h1, List.getElem?_eq_getElem h2] at this
  exact this
theorem sgn_eq {one two : List Nat} {a b c : Int} (ha : Bit a) (hb : Bit b) (hab : a ≠ b) : (sgn one two a c = sgn one two b c) ↔ comm one two c = true := by
  unfold comm sgn
  rcases ha with rfl | rfl <;> rcases hb with rfl | rfl
  · exact absurd rfl hab
  · simp
  · simp only [decide_eq_true_eq]
    exact eq_comm
  · exact absurd rfl hab
theorem rdT_len_eq (one two : List Nat) (a b : Int) : ∀ l : List Int, (rdT one two a l).length = (rdT one two b l).length
  | [] => rfl
  | c :: r => by
    simp only [rdT]
    split
    · rw [List.length_cons, List.length_cons, rdT_len_eq one two a b r]
    · rfl
theorem difN_rd {one two : List Nat} {a b : Int} (ha : Bit a) (hb : Bit b) (hab : a ≠ b) : ∀ l : List Int, difN (rdT one two a l) (rdT one two b l) (rdT one two b l).length = spo one two l
  | [] => rfl
  | c :: r => by
    have ih := difN_rd (one := one) (two := two) ha hb hab r
    by_cases h : c < (one.length : Int)
    · have hn : ¬ (one.length : Int) ≤ c := by omega
      simp only [rdT, spo, if_pos h, if_neg hn, List.length_cons]
      rw [difN_cons, ih]
      by_cases e : comm one two c = true
      · rw [if_pos e, if_pos ((sgn_eq ha hb hab).mpr e)]
      · rw [if_neg e, if_neg fun z => e ((sgn_eq ha hb hab).mp z)]
    · have hn : (one.length : Int) ≤ c := by omega
      simp only [rdT, spo, if_neg h, if_pos hn, difN_self]
/-- how many signs the loss of a code spoils: the state ahead, the code, what is behind -/
def los1 (one two : List Nat) (s c : Int) (r : List Int) : Int := if (one.length : Int) ≤ c then (if c - one.length = s then 0 else (spo one two r : Int)) else 0
def los (one two : List Nat) (st : Int) (tp : List Int) (j : Nat) : Int := los1 one two (rdS one st (tp.take j)) (tp.getD j 0) (tp.drop (j + 1))
def losL (one two : List Nat) (st : Int) (tp : List Int) : List Int := (List.range tp.length).map (los one two st tp)
/-- the text of what is left -/
theorem lost_at {one two : List Nat} {st : Int} {tp : List Int} (hs : Bit st) (hc : Codes one.length tp) {j : Nat} (hj : j < tp.length) (hsh : (one.length : Int) ≤ tp.getD j 0) :
    (rdT one two st (tp.take j ++ tp.drop (j + 1))).length = (rdT one two st tp).length ∧
    (difN (rdT one two st (tp.take j ++ tp.drop (j + 1))) (rdT one two st tp) (rdT one two st tp).length : Int) = los one two st tp j := by
  have e : tp = tp.take j ++ (tp.getD j 0 :: tp.drop (j + 1)) := by
    rw [List.getD_eq_getElem?_getD, List.getElem?_eq_getElem hj, Option.getD_some, List.getElem_cons_drop, List.take_append_drop]
  have hcj : Codes one.length [tp.getD j 0] := fun x hx => by
    rw [List.mem_singleton.mp hx, List.getD_eq_getElem?_getD, List.getElem?_eq_getElem hj]
    exact hc _ (List.getElem_mem hj)
  have hb1 : Bit (rdS one st (tp.take j)) := rdS_bit hs (hc.take j)
  have h0 := hcj _ (List.mem_singleton.mpr rfl)
  have hb2 : Bit (tp.getD j 0 - one.length) := by
    unfold Bit
    omega
  have hn : ¬ tp.getD j 0 < (one.length : Int) := by omega
  unfold los los1
  rw [if_pos hsh]
  generalize tp.getD j 0 = c at *
  generalize tp.take j = l at *
  generalize tp.drop (j + 1) = r at *
  subst e
  rw [rdT_append, rdT_append]
  simp only [rdT, if_neg hn]
  refine ⟨?_, ?_⟩
  · rw [List.length_append, List.length_append, rdT_len_eq one two _ (c - one.length) r]
  · rw [List.length_append, difN_app]
    by_cases h : c - one.length = rdS one st l
    · rw [if_pos h, h, difN_self]
      rfl
    · rw [if_neg h, difN_rd hb1 hb2 (Ne.symm h)]
theorem los_sign {one two : List Nat} {st : Int} {tp : List Int} {j : Nat} (h : ¬ (one.length : Int) ≤ tp.getD j 0) : los one two st tp j = 0 := by
  unfold los los1
  rw [if_neg h]
theorem los_nonneg (one two : List Nat) (st : Int) (tp : List Int) (j : Nat) : 0 ≤ los one two st tp j := by
  unfold los los1
  split
  · split <;> omega
  · omega


/-! ### trimmed -/
/-- the codes of signs, each with the state that it is read in -/
def need (one : List Nat) : Int → List Int → List (Int × Int)
  | _, [] => []
  | st, c :: r => if c < (one.length : Int) then (c, st) :: need one st r else need one (c - one.length) r
/-- whether a shift stands ahead of a code -/
def wants (one two : List Nat) (sh : Int) (x : Int × Int) : Bool := !decide (x.2 = sh) && !comm one two x.1
/-- shifts only where one is needed -/
def trm (one two : List Nat) : Int → List (Int × Int) → List Int
  | _, [] => []
  | sh, x :: r => if wants one two sh x = true then (one.length + x.2) :: x.1 :: trm one two x.2 r else x.1 :: trm one two sh r
def trmS (one two : List Nat) : Int → List (Int × Int) → Int
  | sh, [] => sh
  | sh, x :: r => if wants one two sh x = true then trmS one two x.2 r else trmS one two sh r
def trim (one two : List Nat) (st : Int) (tp : List Int) : List Int := trm one two st (need one st tp)
theorem need_snoc (one : List Nat) (c : Int) : ∀ (st : Int) (l : List Int), need one st (l ++ [c]) = need one st l ++ (if c < (one.length : Int) then [(c, rdS one st l)] else [])
  | st, [] => by
    simp only [List.nil_append, need, rdS]
  | st, d :: l => by
    simp only [List.cons_append, need, rdS]
    split
    · rw [need_snoc one c st l]
      rfl
    · rw [need_snoc one c _ l]
theorem trm_snoc (one two : List Nat) (x : Int × Int) : ∀ (sh : Int) (l : List (Int × Int)), trm one two sh (l ++ [x]) = trm one two sh l ++ (if wants one two (trmS one two sh l) x = true then [one.length + x.2, x.1] else [x.1])
  | sh, [] => by
    simp only [List.nil_append, trm, trmS]
    rfl
  | sh, y :: l => by
    simp only [List.cons_append, trm, trmS]
    split
    · rw [trm_snoc one two x _ l]
      rfl
    · rw [trm_snoc one two x _ l]
      rfl
theorem trmS_snoc (one two : List Nat) (x : Int × Int) : ∀ (sh : Int) (l : List (Int × Int)), trmS one two sh (l ++ [x]) = if wants one two (trmS one two sh l) x = true then x.2 else trmS one two sh l
  | sh, [] => by
    simp only [List.nil_append, trmS]
    rfl
  | sh, y :: l => by
    simp only [List.cons_append, trmS]
    split <;> exact trmS_snoc one two x _ l
/-- codes of signs, in states -/
def Needs (n : Nat) (l : List (Int × Int)) : Prop := ∀ x ∈ l, 0 ≤ x.1 ∧ x.1 < (n : Int) ∧ Bit x.2
theorem need_ok {one : List Nat} : ∀ {st : Int} {l : List Int}, Bit st → Codes one.length l → Needs one.length (need one st l)
  | _, [], _, _ => by simp [need, Needs]
  | st, c :: l, hb, hc => by
    have h1 := hc c (by simp)
    have h2 : Codes one.length l := fun c m => hc c (by simp [m])
    simp only [need]
    split
    · intro x hx
      rcases List.mem_cons.mp hx with rfl | hx
      · exact ⟨h1.1, by assumption, hb⟩
      · exact need_ok hb h2 x hx
    · refine need_ok ?_ h2
      unfold Bit
      omega
theorem wants_not {one two : List Nat} {sh : Int} {x : Int × Int} (h : ¬ wants one two sh x = true) : x.2 = sh ∨ comm one two x.1 = true := by
  unfold wants at h
  by_cases e : x.2 = sh
  · exact .inl e
  · right
    simpa [e] using h
theorem wants_yes {one two : List Nat} {sh : Int} {x : Int × Int} (h : wants one two sh x = true) : x.2 ≠ sh ∧ comm one two x.1 = false := by
  unfold wants at h
  simpa using h
theorem rd_need (one two : List Nat) : ∀ (st : Int) (l : List Int), rdT one two st l = (need one st l).map fun x => sgn one two x.2 x.1
  | _, [] => rfl
  | st, c :: l => by
    simp only [rdT, need]
    split
    · rw [List.map_cons, rd_need one two st l]
    · exact rd_need one two _ l
theorem rd_trm {one two : List Nat} : ∀ {sh : Int} {l : List (Int × Int)}, Bit sh → Needs one.length l → rdT one two sh (trm one two sh l) = l.map fun x => sgn one two x.2 x.1
  | _, [], _, _ => rfl
  | sh, x :: l, hb, hn => by
    have h1 := hn x (by simp)
    have h2 : Needs one.length l := fun y m => hn y (by simp [m])
    by_cases hw : wants one two sh x = true
    · simp only [trm, if_pos hw]
      have e : ¬ (one.length : Int) + x.2 < one.length := by
        have := h1.2.2
        unfold Bit at this
        omega
      have e2 : (one.length : Int) + x.2 - one.length = x.2 := by omega
      simp only [rdT, if_neg e, e2, if_pos h1.2.1, List.map_cons, rd_trm h1.2.2 h2]
    · simp only [trm, if_neg hw, rdT, if_pos h1.2.1, List.map_cons, rd_trm hb h2]
      congr 1
      rcases wants_not hw with e | e
      · rw [e]
      · by_cases e2 : x.2 = sh
        · rw [e2]
        · exact ((sgn_eq h1.2.2 hb e2).mpr e).symm
theorem trim_read {one two : List Nat} {st : Int} {tp : List Int} (hb : Bit st) (hc : Codes one.length tp) : rdT one two st (trim one two st tp) = rdT one two st tp := by
  unfold trim
  rw [rd_trm hb (need_ok hb hc), rd_need]
theorem trm_len {one two : List Nat} : ∀ {st sh : Int} {l : List Int}, (trm one two sh (need one st l)).length ≤ l.length + (if sh = st then 0 else 1)
  | st, sh, [] => by simp [need, trm]
  | st, sh, c :: l => by
    by_cases h : c < (one.length : Int)
    · simp only [need, if_pos h]
      by_cases hw : wants one two sh (c, st) = true
      · have e := (wants_yes hw).1
        have ih := trm_len (one := one) (two := two) (st := st) (sh := st) (l := l)
        simp only [trm, if_pos hw, List.length_cons]
        rw [if_pos rfl] at ih
        rw [if_neg fun z => e z.symm]
        omega
      · have ih := trm_len (one := one) (two := two) (st := st) (sh := sh) (l := l)
        simp only [trm, if_neg hw, List.length_cons]
        omega
    · have ih := trm_len (one := one) (two := two) (st := c - one.length) (sh := sh) (l := l)
      simp only [need, if_neg h, List.length_cons]
      have : (if sh = c - (one.length : Int) then 0 else 1) ≤ 1 := by split <;> omega
      omega
theorem trim_len {one two : List Nat} {st : Int} {tp : List Int} : (trim one two st tp).length ≤ tp.length := by
  have := trm_len (one := one) (two := two) (st := st) (sh := st) (l := tp)
  rw [if_pos rfl] at this
  exact this
/-- the codes of signs -/
def signsOf (n : Nat) (l : List Int) : List Int := l.filter fun c => decide (c < (n : Int))
theorem signs_need (one : List Nat) : ∀ (st : Int) (l : List Int), signsOf one.length l = (need one st l).map (·.1)
  | _, [] => rfl
  | st, c :: l => by
    unfold signsOf
    by_cases h : c < (one.length : Int)
    · simp only [need, if_pos h, List.map_cons]
      rw [List.filter_cons_of_pos (by simpa using h)]
      congr 1
      exact signs_need one st l
    · simp only [need, if_neg h]
      rw [List.filter_cons_of_neg (by simpa using h)]
      exact signs_need one _ l
theorem signs_trm {one two : List Nat} : ∀ {sh : Int} {l : List (Int × Int)}, Needs one.length l → signsOf one.length (trm one two sh l) = l.map (·.1)
  | _, [], _ => rfl
  | sh, x :: l, hn => by
    have h1 := hn x (by simp)
    have h2 : Needs one.length l := fun y m => hn y (by simp [m])
    have e : ¬ (one.length : Int) + x.2 < one.length := by
      have := h1.2.2
      unfold Bit at this
      omega
    by_cases hw : wants one two sh x = true
    · have ih := signs_trm (two := two) (sh := x.2) h2
      unfold signsOf at ih ⊢
      simp only [trm, if_pos hw, List.map_cons]
      rw [List.filter_cons_of_neg (by simpa using e), List.filter_cons_of_pos (by simpa using h1.2.1), ih]
    · have ih := signs_trm (two := two) (sh := sh) h2
      unfold signsOf at ih ⊢
      simp only [trm, if_neg hw, List.map_cons]
      rw [List.filter_cons_of_pos (by simpa using h1.2.1), ih]
theorem trim_signs {one two : List Nat} {st : Int} {tp : List Int} (hb : Bit st) (hc : Codes one.length tp) : signsOf one.length (trim one two st tp) = signsOf one.length tp := by
  unfold trim
  rw [signs_trm (need_ok hb hc), ← signs_need]
theorem trm_codes {one two : List Nat} : ∀ {sh : Int} {l : List (Int × Int)}, Needs one.length l → Codes one.length (trm one two sh l)
  | _, [], _ => by simp [trm, Codes]
  | sh, x :: l, hn => by
    have h1 := hn x (by simp)
    have h2 : Needs one.length l := fun y m => hn y (by simp [m])
    have hb := h1.2.2
    unfold Bit at hb
    by_cases hw : wants one two sh x = true
    · simp only [trm, if_pos hw]
      intro c hc
      rcases List.mem_cons.mp hc with rfl | hc
      · omega
      · rcases List.mem_cons.mp hc with rfl | hc
        · omega
        · exact trm_codes h2 c hc
    · simp only [trm, if_neg hw]
      intro c hc
      rcases List.mem_cons.mp hc with rfl | hc
      · omega
      · exact trm_codes h2 c hc
theorem trim_codes {one two : List Nat} {st : Int} {tp : List Int} (hb : Bit st) (hc : Codes one.length tp) : Codes one.length (trim one two st tp) := trm_codes (need_ok hb hc)
/-- each shift changes the state, ahead of a code that is read otherwise there -/
def Tight (one two : List Nat) : Int → List Int → Prop
  | _, [] => True
  | sh, c :: r => if c < (one.length : Int) then Tight one two sh r else c - one.length ≠ sh ∧ (∃ d q, r = d :: q ∧ d < (one.length : Int) ∧ comm one two d = false) ∧ Tight one two (c - one.length) r
theorem tight_trm {one two : List Nat} : ∀ {sh : Int} {l : List (Int × Int)}, Needs one.length l → Tight one two sh (trm one two sh l)
  | _, [], _ => by simp [trm, Tight]
  | sh, x :: l, hn => by
    have h1 := hn x (by simp)
    have h2 : Needs one.length l := fun y m => hn y (by simp [m])
    have e : ¬ (one.length : Int) + x.2 < one.length := by
      have := h1.2.2
      unfold Bit at this
      omega
    have e2 : (one.length : Int) + x.2 - one.length = x.2 := by omega
    by_cases hw : wants one two sh x = true
    · simp only [trm, if_pos hw]
      obtain ⟨w1, w2⟩ := wants_yes hw
      have ih := tight_trm (one := one) (two := two) (sh := x.2) h2
      simp only [Tight, if_neg e, e2, if_pos h1.2.1]
      exact ⟨w1, ⟨_, _, rfl, h1.2.1, w2⟩, ih⟩
    · simp only [trm, if_neg hw, Tight, if_pos h1.2.1]
      exact tight_trm h2
theorem tight_again {one two : List Nat} : ∀ {sh : Int} {l : List Int}, Tight one two sh l → trm one two sh (need one sh l) = l
  | _, [], _ => rfl
  | sh, c :: l, h => by
    simp only [Tight] at h
    by_cases hc : c < (one.length : Int)
    · rw [if_pos hc] at h
      have hw : ¬ wants one two sh (c, sh) = true := by simp [wants]
      simp only [need, if_pos hc, trm, if_neg hw, tight_again h]
    · rw [if_neg hc] at h
      obtain ⟨h1, ⟨d, q, rfl, hd, hk⟩, h3⟩ := h
      have ih := tight_again h3
      have hw0 : ¬ wants one two (c - one.length) (d, c - one.length) = true := by simp [wants]
      simp only [need, if_pos hd, trm, if_neg hw0] at ih
      have hw : wants one two sh (d, c - one.length) = true := by
        unfold wants
        simp [h1, hk]
      simp only [need, if_neg hc, if_pos hd, trm, if_pos hw, ih]
      congr 1
      omega
theorem trim_again {one two : List Nat} {st : Int} {tp : List Int} (hb : Bit st) (hc : Codes one.length tp) : trim one two st (trim one two st tp) = trim one two st tp :=
  tight_again (tight_trm (need_ok hb hc))
theorem tight_at {one two : List Nat} : ∀ {j : Nat} {sh : Int} {l : List Int}, Tight one two sh l → j < l.length → (one.length : Int) ≤ l.getD j 0 → 0 < los one two sh l j
  | _, _, [], _, hj, _ => by simp at hj
  | 0, sh, c :: l, h, _, hs => by
    have hn : ¬ c < (one.length : Int) := by simpa using hs
    simp only [Tight, if_neg hn] at h
    obtain ⟨h1, ⟨d, q, rfl, hd, hk⟩, _⟩ := h
    have hd' : ¬ (one.length : Int) ≤ d := by omega
    have hs' : (one.length : Int) ≤ c := by omega
    simp only [los, los1, List.take_zero, rdS, List.getD_cons_zero, if_pos hs', if_neg h1, List.drop_one, List.tail_cons, Nat.zero_add, spo, if_neg hd', hk]
    simp
    omega
  | j + 1, sh, c :: l, h, hj, hs => by
    have hj' : j < l.length := by simpa using hj
    have hs' : (one.length : Int) ≤ l.getD j 0 := by simpa using hs
    simp only [Tight] at h
    by_cases hc : c < (one.length : Int)
    · rw [if_pos hc] at h
      have ih := tight_at h hj' hs'
      simpa [los, rdS, hc] using ih
    · rw [if_neg hc] at h
      have ih := tight_at h.2.2 hj' hs'
      simpa [los, rdS, hc] using ih
/-- without a shift it is read otherwise -/
theorem trim_less {one two : List Nat} {st : Int} {tp : List Int} (hb : Bit st) (hc : Codes one.length tp) {j : Nat} (hj : j < (trim one two st tp).length) (hs : (one.length : Int) ≤ (trim one two st tp).getD j 0) :
    rdT one two st ((trim one two st tp).take j ++ (trim one two st tp).drop (j + 1)) ≠ rdT one two st tp := by
  have h1 := tight_at (tight_trm (two := two) (need_ok hb hc)) hj hs
  obtain ⟨_, h2⟩ := lost_at (two := two) hb (trim_codes hb hc) hj hs
  rw [← trim_read (two := two) hb hc]
  exact difN_pos (n := (rdT one two st (trim one two st tp)).length) (by
    have h3 : los one two st (trim one two st tp) j = los one two st (trm one two st (need one st tp)) j := rfl
    omega)


/-! ### joined and cut -/
/-- whether codes behind others are read otherwise than alone -/
def iro (one two : List Nat) (a b : List Int) : Bool := decide (rdS one 0 a = 1) && decide (0 < (spo one two b : Int))
def joinL (one two : List Nat) (a b : List Int) : List Int := a ++ (if iro one two a b = true then [(one.length : Int)] else []) ++ b
def cutR (one two : List Nat) (tp : List Int) (k : Nat) : List Int := (if iro one two (tp.take k) (tp.drop k) = true then [(one.length : Int) + 1] else []) ++ tp.drop k
theorem rd_alike {one two : List Nat} {a b : Int} (ha : Bit a) (hb : Bit b) {l : List Int} : rdT one two a l = rdT one two b l ↔ (a = b ∨ spo one two l = 0) := by
  by_cases hab : a = b
  · subst hab
    simp
  · have h := difN_rd (one := one) (two := two) ha hb hab l
    constructor
    · intro e
      right
      rw [e, difN_self] at h
      exact h.symm
    · rintro (e | e)
      · exact absurd e hab
      · exact difN_eq (rdT_len_eq one two a b l) rfl (by rw [h, e])
theorem iro_iff {one two : List Nat} {a b : List Int} (ha : Codes one.length a) : iro one two a b = true ↔ rdT one two (rdS one 0 a) b ≠ rdT one two 0 b := by
  have hb : Bit (rdS one 0 a) := rdS_bit (.inl rfl) ha
  have h := rd_alike (one := one) (two := two) (l := b) hb (.inl rfl)
  unfold iro
  rw [Bool.and_eq_true, decide_eq_true_eq, decide_eq_true_eq]
  constructor
  · rintro ⟨h1, h2⟩ e
    rcases h.mp e with e | e
    · omega
    · omega
  · intro hn
    have h3 : ¬ (rdS one 0 a = 0 ∨ spo one two b = 0) := fun e => hn (h.mpr e)
    have h4 : rdS one 0 a ≠ 0 := fun e => h3 (.inl e)
    have h5 : spo one two b ≠ 0 := fun e => h3 (.inr e)
    unfold Bit at hb
    omega
theorem join_read {one two : List Nat} {a b : List Int} (ha : Codes one.length a) : rdT one two 0 (joinL one two a b) = rdT one two 0 a ++ rdT one two 0 b := by
  unfold joinL
  by_cases h : iro one two a b = true
  · rw [if_pos h, List.append_assoc, rdT_append]
    have e : ¬ (one.length : Int) < one.length := by omega
    simp only [List.cons_append, List.nil_append, rdT, if_neg e, Int.sub_self]
  · rw [if_neg h, List.append_nil, rdT_append]
    congr 1
    by_cases e : rdT one two (rdS one 0 a) b = rdT one two 0 b
    · exact e
    · exact absurd ((iro_iff ha).mpr e) h
theorem cut_read {one two : List Nat} {tp : List Int} {k : Nat} (ht : Codes one.length tp) : rdT one two 0 (tp.take k) ++ rdT one two 0 (cutR one two tp k) = rdT one two 0 tp := by
  have e0 : rdT one two 0 tp = rdT one two 0 (tp.take k) ++ rdT one two (rdS one 0 (tp.take k)) (tp.drop k) := by
    rw [← rdT_append, List.take_append_drop]
  rw [e0]
  congr 1
  unfold cutR
  by_cases h : iro one two (tp.take k) (tp.drop k) = true
  · rw [if_pos h]
    have e : ¬ (one.length : Int) + 1 < one.length := by omega
    have e1 : rdS one 0 (tp.take k) = 1 := by
      unfold iro at h
      rw [Bool.and_eq_true, decide_eq_true_eq] at h
      exact h.1
    have e2 : (one.length : Int) + 1 - one.length = 1 := by omega
    simp only [List.cons_append, List.nil_append, rdT, if_neg e, e2, e1]
  · rw [if_neg h, List.nil_append]
    by_cases e : rdT one two (rdS one 0 (tp.take k)) (tp.drop k) = rdT one two 0 (tp.drop k)
    · exact e.symm
    · exact absurd ((iro_iff (ht.take k)).mpr e) h
theorem cut_codes {one two : List Nat} {tp : List Int} {k : Nat} (ht : Codes one.length tp) : Codes one.length (cutR one two tp k) := by
  unfold cutR
  refine Codes.append (fun c hc => ?_) (ht.drop k)
  split at hc
  · rw [List.mem_singleton.mp hc]
    omega
  · simp at hc
theorem join_codes {one two : List Nat} {a b : List Int} (ha : Codes one.length a) (hb : Codes one.length b) : Codes one.length (joinL one two a b) := by
  unfold joinL
  refine Codes.append (Codes.append ha fun c hc => ?_) hb
  split at hc
  · rw [List.mem_singleton.mp hc]
    omega
  · simp at hc
theorem join_len (one two : List Nat) (a b : List Int) : (joinL one two a b).length ≤ a.length + b.length + 1 := by
  unfold joinL
  rw [List.length_append, List.length_append]
  split
  · rw [List.length_singleton]
    omega
  · rw [List.length_nil]
    omega
theorem cut_len (one two : List Nat) (tp : List Int) (k : Nat) : (cutR one two tp k).length ≤ tp.length + 1 := by
  unfold cutR
  rw [List.length_append, List.length_drop]
  split
  · rw [List.length_singleton]
    omega
  · rw [List.length_nil]
    omega
theorem back_len {one two : List Nat} {tp : List Int} {k : Nat} (hk : k ≤ tp.length) : (joinL one two (tp.take k) (cutR one two tp k)).length ≤ tp.length + 1 := by
  by_cases h : iro one two (tp.take k) (tp.drop k) = true
  · have e : cutR one two tp k = ((one.length : Int) + 1) :: tp.drop k := by
      unfold cutR
      rw [if_pos h]
      rfl
    have e2 : iro one two (tp.take k) (cutR one two tp k) = false := by
      unfold iro
      rw [e, spo_shift _ (by omega)]
      simp
    have e3 : ¬ iro one two (tp.take k) (cutR one two tp k) = true := by rw [e2]; simp
    unfold joinL
    rw [if_neg e3, e]
    simp
    omega
  · have e : cutR one two tp k = tp.drop k := by
      unfold cutR
      rw [if_neg h]
      rfl
    have := join_len one two (tp.take k) (tp.drop k)
    rw [e]
    rw [List.length_take, List.length_drop] at this
    omega
theorem back_read {one two : List Nat} {tp : List Int} {k : Nat} (ht : Codes one.length tp) : rdT one two 0 (joinL one two (tp.take k) (cutR one two tp k)) = rdT one two 0 tp := by
  rw [join_read (ht.take k), cut_read ht]


/-! ### tapes of a text -/
def pickS (one two : List Nat) (st : Int) : List Nat := if st = 0 then one else two
/-- the code of a sign in a state, or -1 -/
def cdS (one two : List Nat) (st : Int) (s : Nat) : Int := if s ∈ pickS one two st then (((pickS one two st).idxOf s : Nat) : Int) else -1
/-- the code that reads as a sign, and what is left behind it -/
def sst (one two : List Nat) (st left : Int) (s : Nat) : Option (Int × Int) :=
  if cdS one two st s < 0 then none
  else if left = -1 ∨ comm one two (cdS one two st s) = true then some (cdS one two st s, left)
  else if left = 0 then none else some (cdS one two st s, left - 1)
def kept (most st k : Int) : Int := if k = st then -1 else most
/-- a tape of a text, no shift behind the last sign, no lost shift spoils more -/
inductive Run (one two : List Nat) (most : Int) : Int → Int → List Nat → List Int → Prop
  | nil {st left : Int} : Run one two most st left [] []
  | sign {st left : Int} {s : Nat} {ss : List Nat} {c l : Int} {r : List Int} : sst one two st left s = some (c, l) → Run one two most st l ss r → Run one two most st left (s :: ss) (c :: r)
  | shift {st left : Int} {s : Nat} {ss : List Nat} {k : Int} {r : List Int} : Bit k → Run one two most k (kept most st k) (s :: ss) r → Run one two most st left (s :: ss) (((one.length : Int) + k) :: r)
/-- the signs stand in some set -/
def Stands (one two : List Nat) (tx : List Nat) : Prop := ∀ s ∈ tx, s ∈ one ∨ s ∈ two
def onc (one two : List Nat) (F : Int → Int → Int) (s : Nat) (st left : Int) : Int :=
  match sst one two st left s with
  | none => 1000000
  | some x => 1 + F st x.2
def min4 (a b c d : Int) : Int := min (min (min a b) c) d
/-- the least length -/
def Lf (one two : List Nat) (most : Int) : List Nat → Int → Int → Int
  | [], _, _ => 0
  | s :: ss, st, left => min4 (onc one two (Lf one two most ss) s st left) (1 + onc one two (Lf one two most ss) s st (-1)) (1 + onc one two (Lf one two most ss) s (1 - st) most) (2 + onc one two (Lf one two most ss) s (1 - st) (-1))
theorem pick_eq {one two : List Nat} (hs : Sets one two) (st : Int) : (pickS one two st).length = one.length ∧ (pickS one two st).Nodup := by
  unfold pickS
  split
  · exact ⟨rfl, hs.nd1⟩
  · exact ⟨hs.same, hs.nd2⟩
theorem cdS_range {one two : List Nat} (hs : Sets one two) {st : Int} {s : Nat} (h : ¬ cdS one two st s < 0) : 0 ≤ cdS one two st s ∧ cdS one two st s < one.length ∧ s ∈ pickS one two st := by
  unfold cdS at h ⊢
  by_cases hm : s ∈ pickS one two st
  · have h1 := List.idxOf_lt_length_of_mem hm
    rw [(pick_eq hs st).1] at h1
    rw [if_pos hm] at h ⊢
    exact ⟨by omega, by omega, hm⟩
  · rw [if_neg hm] at h
    omega
theorem sst_some {one two : List Nat} {st left c l : Int} {s : Nat} (h : sst one two st left s = some (c, l)) :
    ¬ cdS one two st s < 0 ∧ c = cdS one two st s ∧ ((left = -1 ∨ comm one two c = true) ∧ l = left ∨ ¬ (left = -1 ∨ comm one two c = true) ∧ left ≠ 0 ∧ l = left - 1) := by
  unfold sst at h
  split at h
  · cases h
  · rename_i h1
    split at h
    · rename_i h2
      cases h
      exact ⟨h1, rfl, .inl ⟨h2, rfl⟩⟩
    · rename_i h2
      split at h
      · cases h
      · rename_i h3
        cases h
        exact ⟨h1, rfl, .inr ⟨h2, h3, rfl⟩⟩
theorem sst_range {one two : List Nat} (hs : Sets one two) {st left c l most : Int} {s : Nat} (h : sst one two st left s = some (c, l)) (hl : -1 ≤ left ∧ left ≤ most) : 0 ≤ c ∧ c < one.length ∧ -1 ≤ l ∧ l ≤ most ∧ l ≤ left := by
  obtain ⟨h1, rfl, h3⟩ := sst_some h
  obtain ⟨h4, h5, _⟩ := cdS_range hs h1
  omega
theorem sst_free {one two : List Nat} {st left c l : Int} {s : Nat} (h : sst one two st left s = some (c, l)) : sst one two st (-1) s = some (c, -1) := by
  obtain ⟨h1, rfl, _⟩ := sst_some h
  unfold sst
  rw [if_neg h1, if_pos (.inl rfl)]
theorem sst_stands {one two : List Nat} {st : Int} (hb : Bit st) {s : Nat} (h : s ∈ one ∨ s ∈ two) : (∃ c, sst one two st (-1) s = some (c, -1)) ∨ ∃ c, sst one two (1 - st) (-1) s = some (c, -1) := by
  have key : ∀ k, s ∈ pickS one two k → ∃ c, sst one two k (-1) s = some (c, -1) := by
    intro k hk
    have h1 : ¬ cdS one two k s < 0 := by
      unfold cdS
      rw [if_pos hk]
      omega
    refine ⟨cdS one two k s, ?_⟩
    unfold sst
    rw [if_neg h1, if_pos (.inl rfl)]
  rcases hb with rfl | rfl
  · rcases h with h | h
    · exact .inl (key 0 h)
    · exact .inr (key (1 - 0) h)
  · rcases h with h | h
    · exact .inr (key (1 - 1) h)
    · exact .inl (key 1 h)
theorem min4_le {a b c d : Int} : min4 a b c d ≤ a ∧ min4 a b c d ≤ b ∧ min4 a b c d ≤ c ∧ min4 a b c d ≤ d := by
  unfold min4
  omega
theorem min4_cases {a b c d : Int} : min4 a b c d = a ∨ min4 a b c d = b ∨ min4 a b c d = c ∨ min4 a b c d = d := by
  unfold min4
  omega
theorem le_min4 {a b c d x : Int} (h1 : x ≤ a) (h2 : x ≤ b) (h3 : x ≤ c) (h4 : x ≤ d) : x ≤ min4 a b c d := by
  unfold min4
  omega
theorem onc_some {one two : List Nat} {F : Int → Int → Int} {s : Nat} {st left c l : Int} (h : sst one two st left s = some (c, l)) : onc one two F s st left = 1 + F st l := by
  unfold onc
  rw [h]
theorem onc_none {one two : List Nat} {F : Int → Int → Int} {s : Nat} {st left : Int} (h : sst one two st left s = none) : onc one two F s st left = 1000000 := by
  unfold onc
  rw [h]
theorem Stands.tail {one two : List Nat} {s : Nat} {ss : List Nat} (h : Stands one two (s :: ss)) : Stands one two ss := fun x hx => h x (by simp [hx])
theorem Lf_nonneg (one two : List Nat) (most : Int) : ∀ (tx : List Nat) (st left : Int), 0 ≤ Lf one two most tx st left
  | [], _, _ => by simp [Lf]
  | s :: ss, st, left => by
    have key : ∀ k l, 0 ≤ onc one two (Lf one two most ss) s k l := by
      intro k l
      cases h : sst one two k l s with
      | none => rw [onc_none h]; decide
      | some x =>
        obtain ⟨c, l'⟩ := x
        rw [onc_some h]
        have := Lf_nonneg one two most ss k l'
        omega
    have h1 := key st left
    have h2 := key st (-1)
    have h3 := key (1 - st) most
    have h4 := key (1 - st) (-1)
    simp only [Lf]
    exact le_min4 h1 (by omega) (by omega) (by omega)
theorem bit_other {st : Int} (h : Bit st) : Bit (1 - st) := by
  unfold Bit at *
  omega
theorem Lf_bound {one two : List Nat} {most : Int} : ∀ {tx : List Nat} {st left : Int}, Bit st → Stands one two tx → Lf one two most tx st left ≤ 3 * tx.length
  | [], _, _, _, _ => by simp [Lf]
  | s :: ss, st, left, hb, hst => by
    have hm := @min4_le (onc one two (Lf one two most ss) s st left) (1 + onc one two (Lf one two most ss) s st (-1)) (1 + onc one two (Lf one two most ss) s (1 - st) most) (2 + onc one two (Lf one two most ss) s (1 - st) (-1))
    simp only [Lf, List.length_cons]
    rcases sst_stands hb (hst s (by simp)) with ⟨c, h⟩ | ⟨c, h⟩
    · have := Lf_bound (one := one) (two := two) (most := most) (tx := ss) (left := -1) hb hst.tail
      rw [onc_some h] at hm ⊢
      omega
    · have := Lf_bound (one := one) (two := two) (most := most) (tx := ss) (left := -1) (bit_other hb) hst.tail
      rw [onc_some h] at hm ⊢
      omega
theorem Lf_pos {one two : List Nat} {most : Int} {s : Nat} {ss : List Nat} {st left : Int} : 1 ≤ Lf one two most (s :: ss) st left := by
  have key : ∀ k l, 1 ≤ onc one two (Lf one two most ss) s k l := by
    intro k l
    cases h : sst one two k l s with
    | none => rw [onc_none h]; decide
    | some x =>
      obtain ⟨c, l'⟩ := x
      rw [onc_some h]
      have := Lf_nonneg one two most ss k l'
      omega
  have h1 := key st left
  have h2 := key st (-1)
  have h3 := key (1 - st) most
  have h4 := key (1 - st) (-1)
  simp only [Lf]
  exact le_min4 h1 (by omega) (by omega) (by omega)
theorem onc_free {one two : List Nat} {F : Int → Int → Int} {s : Nat} {st left : Int} (hF : ∀ l, F st (-1) ≤ F st l) (hB : F st (-1) ≤ 900000) : onc one two F s st (-1) ≤ onc one two F s st left := by
  cases h : sst one two st left s with
  | some x =>
    obtain ⟨c, l⟩ := x
    rw [onc_some h, onc_some (sst_free h)]
    have := hF l
    omega
  | none =>
    rw [onc_none h]
    cases h2 : sst one two st (-1) s with
    | none => rw [onc_none h2]; omega
    | some x =>
      obtain ⟨c, l⟩ := x
      rw [onc_some h2]
      obtain ⟨_, _, h3⟩ := sst_some h2
      have : l = -1 := by omega
      subst this
      omega
theorem Lf_free {one two : List Nat} {most : Int} : ∀ {tx : List Nat} {st : Int} (left : Int), Bit st → Stands one two tx → tx.length ≤ 1000 → Lf one two most tx st (-1) ≤ Lf one two most tx st left
  | [], _, _, _, _, _ => by simp [Lf]
  | s :: ss, st, left, hb, hst, hl => by
    rw [List.length_cons] at hl
    have h1 := onc_free (one := one) (two := two) (F := Lf one two most ss) (s := s) (st := st) (left := left) (fun l => Lf_free l hb hst.tail (by omega)) (by
      have := Lf_bound (one := one) (two := two) (most := most) (tx := ss) (left := -1) hb hst.tail
      omega)
    have hm := @min4_le (onc one two (Lf one two most ss) s st (-1)) (1 + onc one two (Lf one two most ss) s st (-1)) (1 + onc one two (Lf one two most ss) s (1 - st) most) (2 + onc one two (Lf one two most ss) s (1 - st) (-1))
    simp only [Lf]
    exact le_min4 (by omega) (by omega) (by omega) (by omega)
theorem onc_free' {one two : List Nat} {most : Int} {s : Nat} {ss : List Nat} {st : Int} (left : Int) (hb : Bit st) (hst : Stands one two ss) (hl : ss.length ≤ 1000) :
    onc one two (Lf one two most ss) s st (-1) ≤ onc one two (Lf one two most ss) s st left :=
  onc_free (fun l => Lf_free l hb hst hl) (by
    have := Lf_bound (one := one) (two := two) (most := most) (tx := ss) (left := -1) hb hst
    omega)
theorem Lf_sign {one two : List Nat} {most : Int} {s : Nat} {ss : List Nat} {st left c l : Int} (h : sst one two st left s = some (c, l)) : Lf one two most (s :: ss) st left ≤ 1 + Lf one two most ss st l := by
  have hm := @min4_le (onc one two (Lf one two most ss) s st left) (1 + onc one two (Lf one two most ss) s st (-1)) (1 + onc one two (Lf one two most ss) s (1 - st) most) (2 + onc one two (Lf one two most ss) s (1 - st) (-1))
  simp only [Lf]
  rw [onc_some h] at hm ⊢
  exact hm.1
theorem Lf_shift {one two : List Nat} {most : Int} {s : Nat} {ss : List Nat} {st left k : Int} (hb : Bit st) (hk : Bit k) (hst : Stands one two ss) (hl : ss.length ≤ 1000) : Lf one two most (s :: ss) st left ≤ 1 + Lf one two most (s :: ss) k (kept most st k) := by
  have hm := @min4_le (onc one two (Lf one two most ss) s st left) (1 + onc one two (Lf one two most ss) s st (-1)) (1 + onc one two (Lf one two most ss) s (1 - st) most) (2 + onc one two (Lf one two most ss) s (1 - st) (-1))
  by_cases e : k = st
  · subst e
    have hx : kept most k k = -1 := by simp [kept]
    rw [hx]
    simp only [Lf]
    have := le_min4 (x := Lf one two most (s :: ss) k left - 1) (a := onc one two (Lf one two most ss) s k (-1)) (b := 1 + onc one two (Lf one two most ss) s k (-1)) (c := 1 + onc one two (Lf one two most ss) s (1 - k) most) (d := 2 + onc one two (Lf one two most ss) s (1 - k) (-1)) (by simp only [Lf]; omega) (by simp only [Lf]; omega) (by simp only [Lf]; omega) (by simp only [Lf]; omega)
    simp only [Lf] at this
    omega
  · have ek : k = 1 - st := by
      unfold Bit at hb hk
      omega
    have hx : kept most st k = most := by simp [kept, e]
    have ek2 : 1 - k = st := by omega
    rw [hx]
    have hf := onc_free' (one := one) (two := two) (most := most) (s := s) (ss := ss) (st := st) most hb hst hl
    have := le_min4 (x := Lf one two most (s :: ss) st left - 1) (a := onc one two (Lf one two most ss) s k most) (b := 1 + onc one two (Lf one two most ss) s k (-1)) (c := 1 + onc one two (Lf one two most ss) s (1 - k) most) (d := 2 + onc one two (Lf one two most ss) s (1 - k) (-1)) (by simp only [Lf]; rw [ek]; omega) (by simp only [Lf]; rw [ek]; omega) (by simp only [Lf]; rw [ek2]; omega) (by simp only [Lf]; rw [ek2]; omega)
    simp only [Lf] at this ⊢
    omega
/-- some step keeps to the least length -/
theorem Lf_attain {one two : List Nat} {most : Int} {s : Nat} {ss : List Nat} {st left : Int} (hb : Bit st) (hst : Stands one two (s :: ss)) (hl : ss.length ≤ 1000) :
    (∃ c l, sst one two st left s = some (c, l) ∧ Lf one two most (s :: ss) st left = 1 + Lf one two most ss st l) ∨ ∃ k, Bit k ∧ Lf one two most (s :: ss) st left = 1 + Lf one two most (s :: ss) k (kept most st k) := by
  have hbd := Lf_bound (one := one) (two := two) (most := most) (tx := s :: ss) (left := left) hb hst
  rw [List.length_cons] at hbd
  have hs0 := Lf_shift (one := one) (two := two) (most := most) (s := s) (left := left) hb hb hst.tail hl
  have hs1 := Lf_shift (one := one) (two := two) (most := most) (s := s) (left := left) hb (bit_other hb) hst.tail hl
  have hx0 : kept most st st = -1 := by simp [kept]
  have hx1 : kept most st (1 - st) = most := by
    unfold kept
    rw [if_neg (by unfold Bit at hb; omega)]
  rw [hx0] at hs0
  rw [hx1] at hs1
  have hm := @min4_cases (onc one two (Lf one two most ss) s st left) (1 + onc one two (Lf one two most ss) s st (-1)) (1 + onc one two (Lf one two most ss) s (1 - st) most) (2 + onc one two (Lf one two most ss) s (1 - st) (-1))
  have hL : Lf one two most (s :: ss) st left = min4 (onc one two (Lf one two most ss) s st left) (1 + onc one two (Lf one two most ss) s st (-1)) (1 + onc one two (Lf one two most ss) s (1 - st) most) (2 + onc one two (Lf one two most ss) s (1 - st) (-1)) := by simp only [Lf]
  rw [← hL] at hm
  rcases hm with e | e | e | e
  · left
    cases h : sst one two st left s with
    | none =>
      rw [onc_none h] at e
      omega
    | some x =>
      obtain ⟨c, l⟩ := x
      rw [onc_some h] at e
      exact ⟨c, l, rfl, e⟩
  · right
    refine ⟨st, hb, ?_⟩
    rw [hx0]
    have h2 := @min4_le (onc one two (Lf one two most ss) s st (-1)) (1 + onc one two (Lf one two most ss) s st (-1)) (1 + onc one two (Lf one two most ss) s (1 - st) most) (2 + onc one two (Lf one two most ss) s (1 - st) (-1))
    have h3 : Lf one two most (s :: ss) st (-1) ≤ onc one two (Lf one two most ss) s st (-1) := by
      simp only [Lf]
      exact h2.1
    omega
  · right
    refine ⟨1 - st, bit_other hb, ?_⟩
    rw [hx1]
    have h2 := @min4_le (onc one two (Lf one two most ss) s (1 - st) most) (1 + onc one two (Lf one two most ss) s (1 - st) (-1)) (1 + onc one two (Lf one two most ss) s (1 - (1 - st)) most) (2 + onc one two (Lf one two most ss) s (1 - (1 - st)) (-1))
    have h3 : Lf one two most (s :: ss) (1 - st) most ≤ onc one two (Lf one two most ss) s (1 - st) most := by
      simp only [Lf]
      exact h2.1
    omega
  · right
    refine ⟨1 - st, bit_other hb, ?_⟩
    rw [hx1]
    have h2 := @min4_le (onc one two (Lf one two most ss) s (1 - st) most) (1 + onc one two (Lf one two most ss) s (1 - st) (-1)) (1 + onc one two (Lf one two most ss) s (1 - (1 - st)) most) (2 + onc one two (Lf one two most ss) s (1 - (1 - st)) (-1))
    have h3 : Lf one two most (s :: ss) (1 - st) most ≤ 1 + onc one two (Lf one two most ss) s (1 - st) (-1) := by
      simp only [Lf]
      exact h2.2.1
    omega
/-- no tape is shorter -/
theorem Run.lower {one two : List Nat} {most : Int} {st left : Int} {tx : List Nat} {t : List Int} (r : Run one two most st left tx t) (hb : Bit st) (hst : Stands one two tx) (hl : tx.length ≤ 1000) : Lf one two most tx st left ≤ t.length := by
  induction r with
  | nil => simp [Lf]
  | @sign st left s ss c l r h r' ih =>
    rw [List.length_cons] at hl
    have h1 := ih hb hst.tail (by omega)
    have h2 := Lf_sign (most := most) (ss := ss) h
    rw [List.length_cons]
    exact Int.le_trans h2 (by omega)
  | @shift st left s ss k r hk r' ih =>
    have h1 := ih hk hst hl
    rw [List.length_cons] at hl
    have h2 := Lf_shift (most := most) (s := s) (left := left) hb hk hst.tail (by omega)
    rw [List.length_cons]
    exact Int.le_trans h2 (by omega)
/-- there is one of the least length -/
theorem run_exists {one two : List Nat} {most : Int} : ∀ (n : Nat) {tx : List Nat} {st left : Int}, Bit st → Stands one two tx → tx.length ≤ 1000 → Lf one two most tx st left = n → ∃ t, Run one two most st left tx t ∧ t.length = n
  | 0, [], _, _, _, _, _, _ => ⟨[], .nil, rfl⟩
  | n + 1, [], _, _, _, _, _, e => by
    simp [Lf] at e
    omega
  | 0, s :: ss, st, left, _, _, _, e => by
    have := Lf_pos (one := one) (two := two) (most := most) (s := s) (ss := ss) (st := st) (left := left)
    omega
  | n + 1, s :: ss, st, left, hb, hst, hl, e => by
    have hl' := hl
    rw [List.length_cons] at hl'
    rcases Lf_attain (most := most) (left := left) hb hst (by omega) with ⟨c, l, h1, h2⟩ | ⟨k, h1, h2⟩
    · obtain ⟨t, h3, h4⟩ := run_exists n (most := most) (tx := ss) (st := st) (left := l) hb hst.tail (by omega) (by omega)
      exact ⟨c :: t, .sign h1 h3, by simp [h4]⟩
    · obtain ⟨t, h3, h4⟩ := run_exists n (most := most) (tx := s :: ss) (st := k) (left := kept most st k) h1 hst hl (by omega)
      exact ⟨_ :: t, .shift h1 h3, by simp [h4]⟩
/-! ### the least list of the shortest -/
theorem lex_irrefl : ∀ l : List Int, HT.lexLt l l = false
  | [] => rfl
  | x :: l => by simp [HT.lexLt, lex_irrefl l]
theorem lex_antisymm : ∀ {l m : List Int}, l.length = m.length → HT.lexLt l m = false → HT.lexLt m l = false → l = m
  | [], [], _, _, _ => rfl
  | [], _ :: _, h, _, _ => by simp at h
  | _ :: _, [], h, _, _ => by simp at h
  | x :: l, y :: m, h, h1, h2 => by
    by_cases e : x = y
    · subst e
      simp only [HT.lexLt, if_pos rfl] at h1 h2
      rw [lex_antisymm (by simpa using h) h1 h2]
    · have e2 : ¬ y = x := fun z => e z.symm
      simp only [HT.lexLt, if_neg e, if_neg e2, decide_eq_false_iff_not] at h1 h2
      omega
/-- shortest, and the least list of several -/
def Best (one two : List Nat) (most st left : Int) (tx : List Nat) (R : List Int) : Prop :=
  Run one two most st left tx R ∧ ∀ t, Run one two most st left tx t → R.length < t.length ∨ (R.length = t.length ∧ HT.lexLt t R = false)
theorem Best.unique {one two : List Nat} {most st left : Int} {tx : List Nat} {R R' : List Int} (h : Best one two most st left tx R) (h' : Best one two most st left tx R') : R = R' := by
  have h1 := h.2 R' h'.1
  have h2 := h'.2 R h.1
  have e : R.length = R'.length := by omega
  exact lex_antisymm e (by rcases h2 with h2 | h2; omega; exact h2.2) (by rcases h1 with h1 | h1; omega; exact h1.2)
theorem Best.len {one two : List Nat} {most st left : Int} {tx : List Nat} {R : List Int} (h : Best one two most st left tx R) (hb : Bit st) (hst : Stands one two tx) (hl : tx.length ≤ 1000) : (R.length : Int) = Lf one two most tx st left := by
  have h1 := h.1.lower hb hst hl
  have h0 := Lf_nonneg one two most tx st left
  obtain ⟨t, h2, h3⟩ := run_exists (Lf one two most tx st left).toNat (most := most) (left := left) hb hst hl (by omega)
  have h4 := h.2 t h2
  omega
theorem best_nil {one two : List Nat} {most st left : Int} : Best one two most st left [] [] := by
  refine ⟨.nil, fun t h => ?_⟩
  cases h
  exact .inr ⟨rfl, rfl⟩
theorem best_sign {one two : List Nat} (hs : Sets one two) {most st left c l : Int} {s : Nat} {ss : List Nat} {R : List Int} (hb : Bit st) (hst : Stands one two (s :: ss)) (hl : (s :: ss).length ≤ 1000) (hlf : -1 ≤ left ∧ left ≤ most)
    (h : sst one two st left s = some (c, l)) (e : Lf one two most (s :: ss) st left = 1 + Lf one two most ss st l) (hR : Best one two most st l ss R) : Best one two most st left (s :: ss) (c :: R) := by
  have hl' := hl
  rw [List.length_cons] at hl'
  have hlen := hR.len hb hst.tail (by omega)
  have hc := sst_range hs h hlf
  refine ⟨.sign h hR.1, fun t ht => ?_⟩
  have hlow := ht.lower hb hst hl
  rw [List.length_cons]
  by_cases hlt : R.length + 1 < t.length
  · exact .inl hlt
  · right
    refine ⟨by omega, ?_⟩
    cases ht with
    | sign h2 r2 =>
      rw [h] at h2
      cases h2
      have := hR.2 _ r2
      rw [List.length_cons] at hlt
      have h3 : R.length = _ ∧ _ := this.resolve_left (by omega)
      simp only [HT.lexLt, if_pos rfl]
      exact h3.2
    | @shift _ _ _ _ k r hk r2 =>
      have hk' := hk
      unfold Bit at hk'
      have h4 : ¬ (one.length : Int) + k = c := fun z => by omega
      simp only [HT.lexLt, if_neg h4, decide_eq_false_iff_not]
      omega
theorem best_shift {one two : List Nat} (hs : Sets one two) {most st left k : Int} {s : Nat} {ss : List Nat} {R : List Int} (hb : Bit st) (hk : Bit k) (hst : Stands one two (s :: ss)) (hl : (s :: ss).length ≤ 1000)
    (hno : ∀ c l, sst one two st left s = some (c, l) → Lf one two most (s :: ss) st left ≠ 1 + Lf one two most ss st l)
    (hno2 : ∀ k', Bit k' → k' < k → Lf one two most (s :: ss) st left ≠ 1 + Lf one two most (s :: ss) k' (kept most st k'))
    (e : Lf one two most (s :: ss) st left = 1 + Lf one two most (s :: ss) k (kept most st k)) (hR : Best one two most k (kept most st k) (s :: ss) R) : Best one two most st left (s :: ss) (((one.length : Int) + k) :: R) := by
  have hl' := hl
  rw [List.length_cons] at hl'
  have hlen := hR.len hk hst hl
  refine ⟨.shift hk hR.1, fun t ht => ?_⟩
  have hlow := ht.lower hb hst hl
  rw [List.length_cons]
  by_cases hlt : R.length + 1 < t.length
  · exact .inl hlt
  · right
    refine ⟨by omega, ?_⟩
    cases ht with
    | sign h2 r2 =>
      have h3 := r2.lower hb hst.tail (by omega)
      have h4 := Lf_sign (most := most) (ss := ss) h2
      have h5 := hno _ _ h2
      rw [List.length_cons] at hlt hlow
      omega
    | @shift _ _ _ _ k2 r hk2 r2 =>
      rw [List.length_cons] at hlt hlow
      have h3 := r2.lower hk2 hst hl
      have h4 := Lf_shift (most := most) (s := s) (left := left) hb hk2 hst.tail (by omega)
      by_cases e2 : k2 = k
      · subst e2
        have h5 := (hR.2 _ r2).resolve_left (by omega)
        simp only [HT.lexLt, if_pos rfl]
        exact h5.2
      · have h6 : ¬ k2 < k := fun z => by
          have := hno2 k2 hk2 z
          omega
        have h7 : ¬ (one.length : Int) + k2 = (one.length : Int) + k := by omega
        simp only [HT.lexLt, if_neg h7, decide_eq_false_iff_not]
        omega


/-! ### what a tape of a text is, by reading it -/
/-- no shift behind the last sign -/
def noTrail (n : Nat) : List Int → Prop
  | [] => True
  | [c] => c < (n : Int)
  | _ :: d :: r => noTrail n (d :: r)
theorem noTrail.tail {n : Nat} {c : Int} {r : List Int} (h : noTrail n (c :: r)) : noTrail n r := by
  cases r with
  | nil => exact trivial
  | cons d r => exact h
theorem noTrail.read {one two : List Nat} : ∀ {r : List Int} {k : Int}, noTrail one.length r → r ≠ [] → rdT one two k r ≠ []
  | [], _, _, h => absurd rfl h
  | [c], k, h, _ => by
    have h' : c < (one.length : Int) := h
    simp [rdT, h']
  | c :: d :: r, k, h, _ => by
    by_cases hc : c < (one.length : Int)
    · simp [rdT, hc]
    · have ih := noTrail.read (two := two) (r := d :: r) (k := c - one.length) h (by simp)
      rw [rdT, if_neg hc]
      exact ih
theorem noTrail.end {one : List Nat} {c : Int} {r : List Int} (h : noTrail one.length (c :: r)) (hc : ¬ c < (one.length : Int)) : r ≠ [] := by
  rintro rfl
  exact hc h
theorem cdS_sgn {one two : List Nat} {st : Int} {s : Nat} (h : ¬ cdS one two st s < 0) : sgn one two st (cdS one two st s) = s := by
  unfold cdS at h ⊢
  by_cases hm : s ∈ pickS one two st
  · rw [if_pos hm]
    unfold sgn pickS at *
    rw [Int.toNat_natCast, List.getD_eq_getElem?_getD, List.getElem?_eq_getElem (List.idxOf_lt_length_of_mem hm), Option.getD_some, List.getElem_idxOf]
  · rw [if_neg hm] at h
    omega
theorem cdS_code {one two : List Nat} (hs : Sets one two) {st c : Int} (h0 : 0 ≤ c) (h1 : c < (one.length : Int)) : cdS one two st (sgn one two st c) = c := by
  obtain ⟨h2, h3⟩ := pick_eq hs st
  have hlt : c.toNat < (pickS one two st).length := by omega
  have e : sgn one two st c = (pickS one two st)[c.toNat] := by
    unfold sgn pickS at *
    rw [List.getD_eq_getElem?_getD, List.getElem?_eq_getElem hlt]
    rfl
  unfold cdS
  rw [e, if_pos (List.getElem_mem hlt), h3.idxOf_getElem]
  omega
theorem Run.read {one two : List Nat} (hs : Sets one two) {most st left : Int} {tx : List Nat} {t : List Int} (r : Run one two most st left tx t) : Codes one.length t ∧ rdT one two st t = tx ∧ noTrail one.length t := by
  induction r with
  | nil => exact ⟨by simp [Codes], rfl, trivial⟩
  | @sign st left s ss c l r h r' ih =>
    obtain ⟨h1, rfl, _⟩ := sst_some h
    obtain ⟨h2, h3, _⟩ := cdS_range hs h1
    refine ⟨fun x hx => ?_, ?_, ?_⟩
    · rcases List.mem_cons.mp hx with rfl | hx
      · omega
      · exact ih.1 x hx
    · rw [rdT, if_pos h3, cdS_sgn h1, ih.2.1]
    · cases r with
      | nil => exact h3
      | cons d r => exact ih.2.2
  | @shift st left s ss k r hk r' ih =>
    have hk' := hk
    unfold Bit at hk'
    have hn : ¬ (one.length : Int) + k < one.length := by omega
    have e : (one.length : Int) + k - one.length = k := by omega
    refine ⟨fun x hx => ?_, ?_, ?_⟩
    · rcases List.mem_cons.mp hx with rfl | hx
      · omega
      · exact ih.1 x hx
    · rw [rdT, if_neg hn, e, ih.2.1]
    · cases r with
      | nil =>
        have := ih.2.1
        simp [rdT] at this
      | cons d r => exact ih.2.2
theorem los_zero (one two : List Nat) (st c : Int) (r : List Int) : los one two st (c :: r) 0 = los1 one two st c r := rfl
theorem los_succ (one two : List Nat) (st c : Int) (r : List Int) (j : Nat) : los one two st (c :: r) (j + 1) = los one two (if c < (one.length : Int) then st else c - one.length) r j := by
  unfold los
  by_cases hc : c < (one.length : Int)
  · simp [rdS, hc]
  · simp [rdS, hc]
/-- no lost code spoils more than so many -/
def Guard (one two : List Nat) (most st : Int) (t : List Int) : Prop := ∀ j, j < t.length → los one two st t j ≤ most
theorem guard_cons {one two : List Nat} {most st c : Int} {r : List Int} (hm : 0 ≤ most) : Guard one two most st (c :: r) ↔ los1 one two st c r ≤ most ∧ Guard one two most (if c < (one.length : Int) then st else c - one.length) r := by
  constructor
  · intro h
    refine ⟨h 0 (by simp), fun j hj => ?_⟩
    have := h (j + 1) (by simpa using hj)
    rw [los_succ] at this
    exact this
  · rintro ⟨h1, h2⟩ j hj
    cases j with
    | zero => exact h1
    | succ j =>
      rw [los_succ]
      exact h2 j (by simpa using hj)
theorem Run.guard {one two : List Nat} (hs : Sets one two) {most st left : Int} {tx : List Nat} {t : List Int} (r : Run one two most st left tx t) (hm : 0 ≤ most) (hl : -1 ≤ left) : Guard one two most st t ∧ (left ≠ -1 → (spo one two t : Int) ≤ left) := by
  induction r with
  | nil => exact ⟨fun j hj => by simp at hj, fun h => by simp [spo]; omega⟩
  | @sign st left s ss c l r h r' ih =>
    have hc := sst_some h
    have hrg := sst_range hs (most := max left most) h (by omega)
    have ih' := ih (by omega)
    have hn : c < (one.length : Int) := hrg.2.1
    have hn' : ¬ (one.length : Int) ≤ c := by omega
    refine ⟨(guard_cons hm).mpr ⟨?_, ?_⟩, fun hne => ?_⟩
    · unfold los1
      rw [if_neg hn']
      exact hm
    · rw [if_pos hn]
      exact ih'.1
    · rcases hc.2.2 with ⟨h1, h2⟩ | ⟨h1, h2, h3⟩
      · have h4 : comm one two c = true := h1.resolve_left hne
        rw [spo, if_neg hn', if_pos h4]
        have := ih'.2 (by omega)
        omega
      · have h4 : ¬ comm one two c = true := fun z => h1 (.inr z)
        rw [spo, if_neg hn', if_neg h4]
        have := ih'.2 (by omega)
        omega
  | @shift st left s ss k r hk r' ih =>
    have hk' := hk
    unfold Bit at hk'
    have hn : ¬ (one.length : Int) + k < one.length := by omega
    have hn' : (one.length : Int) ≤ (one.length : Int) + k := by omega
    have e : (one.length : Int) + k - one.length = k := by omega
    have ih' := ih (by unfold kept; split <;> omega)
    refine ⟨(guard_cons hm).mpr ⟨?_, ?_⟩, fun hne => ?_⟩
    · unfold los1
      rw [if_pos hn', e]
      by_cases hks : k = st
      · rw [if_pos hks]
        exact hm
      · rw [if_neg hks]
        have h1 := ih'.2
        have h2 : kept most st k = most := by simp [kept, hks]
        rw [h2] at h1
        exact h1 (by omega)
    · rw [if_neg hn, e]
      exact ih'.1
    · rw [spo_shift _ hn']
      omega
theorem run_of {one two : List Nat} (hs : Sets one two) {most : Int} (hm : 0 ≤ most) : ∀ {t : List Int} {st left : Int} {tx : List Nat}, Bit st → -1 ≤ left → Codes one.length t → rdT one two st t = tx → noTrail one.length t → Guard one two most st t → (left ≠ -1 → (spo one two t : Int) ≤ left) → Run one two most st left tx t
  | [], st, left, tx, _, _, _, e, _, _, _ => by
    simp only [rdT] at e
    subst e
    exact .nil
  | c :: r, st, left, tx, hb, hl, hc, e, ht, hg, hsp => by
    have h1 := hc c (by simp)
    have h2 : Codes one.length r := fun x hx => hc x (by simp [hx])
    obtain ⟨hg1, hg2⟩ := (guard_cons hm).mp hg
    by_cases hn : c < (one.length : Int)
    · have hn' : ¬ (one.length : Int) ≤ c := by omega
      rw [if_pos hn] at hg2
      simp only [rdT, if_pos hn] at e
      subst e
      have hcd := cdS_code hs (st := st) h1.1 hn
      have hneg : ¬ cdS one two st (sgn one two st c) < 0 := by rw [hcd]; omega
      simp only [spo, if_neg hn'] at hsp
      by_cases hfr : left = -1 ∨ comm one two c = true
      · refine .sign (l := left) ?_ (run_of hs hm hb hl h2 rfl ht.tail hg2 fun hne => ?_)
        · unfold sst
          rw [if_neg hneg, hcd, if_pos hfr]
        · have := hsp hne
          rw [if_pos (hfr.resolve_left hne)] at this
          omega
      · have hne : left ≠ -1 := fun z => hfr (.inl z)
        have hk : ¬ comm one two c = true := fun z => hfr (.inr z)
        have h3 := hsp hne
        rw [if_neg hk] at h3
        have hz : left ≠ 0 := by omega
        refine .sign (l := left - 1) ?_ (run_of hs hm hb (by omega) h2 rfl ht.tail hg2 fun _ => by omega)
        unfold sst
        rw [if_neg hneg, hcd, if_neg hfr, if_neg hz]
    · have hn' : (one.length : Int) ≤ c := by omega
      rw [if_neg hn] at hg2
      simp only [rdT, if_neg hn] at e
      have hk : Bit (c - one.length) := by
        unfold Bit
        omega
      have hne := ht.tail.read (two := two) (k := c - one.length) (ht.end hn)
      rw [e] at hne
      obtain ⟨s, ss, rfl⟩ : ∃ s ss, tx = s :: ss := by
        cases tx with
        | nil => exact absurd rfl hne
        | cons s ss => exact ⟨s, ss, rfl⟩
      have ec : c = (one.length : Int) + (c - one.length) := by omega
      rw [ec]
      refine .shift hk (run_of hs hm hk (by unfold kept; split <;> omega) h2 e ht.tail hg2 fun hne => ?_)
      unfold kept at hne ⊢
      by_cases hks : c - one.length = st
      · rw [if_pos hks] at hne
        exact absurd rfl hne
      · rw [if_neg hks]
        unfold los1 at hg1
        rw [if_pos hn', if_neg hks] at hg1
        exact hg1
/-- with all losses let pass -/
theorem run_free_of {one two : List Nat} (hs : Sets one two) : ∀ {t : List Int} {st : Int} {tx : List Nat}, Bit st → Codes one.length t → rdT one two st t = tx → noTrail one.length t → Run one two (-1) st (-1) tx t
  | [], st, tx, _, _, e, _ => by
    simp only [rdT] at e
    subst e
    exact .nil
  | c :: r, st, tx, hb, hc, e, ht => by
    have h1 := hc c (by simp)
    have h2 : Codes one.length r := fun x hx => hc x (by simp [hx])
    by_cases hn : c < (one.length : Int)
    · simp only [rdT, if_pos hn] at e
      subst e
      have hcd := cdS_code hs (st := st) h1.1 hn
      have hneg : ¬ cdS one two st (sgn one two st c) < 0 := by rw [hcd]; omega
      refine .sign (l := -1) ?_ (run_free_of hs hb h2 rfl ht.tail)
      unfold sst
      rw [if_neg hneg, hcd, if_pos (.inl rfl)]
    · simp only [rdT, if_neg hn] at e
      have hk : Bit (c - one.length) := by
        unfold Bit
        omega
      have hne := ht.tail.read (two := two) (k := c - one.length) (ht.end hn)
      rw [e] at hne
      obtain ⟨s, ss, rfl⟩ : ∃ s ss, tx = s :: ss := by
        cases tx with
        | nil => exact absurd rfl hne
        | cons s ss => exact ⟨s, ss, rfl⟩
      have ec : c = (one.length : Int) + (c - one.length) := by omega
      have hkp : kept (-1) st (c - one.length) = -1 := by
        unfold kept
        split <;> rfl
      rw [ec]
      refine .shift hk ?_
      rw [hkp]
      exact run_free_of hs hk h2 e ht.tail
/-- a wider number lets more tapes pass -/
theorem Run.mono {one two : List Nat} {m1 m2 st l1 : Int} {tx : List Nat} {t : List Int} (r : Run one two m1 st l1 tx t) (hm : m2 = -1 ∨ (m1 ≠ -1 ∧ m1 ≤ m2)) : ∀ {l2 : Int}, (l2 = -1 ∨ (l1 ≠ -1 ∧ l1 ≤ l2)) → -1 ≤ l1 → -1 ≤ m1 → Run one two m2 st l2 tx t := by
  induction r with
  | nil => intros; exact .nil
  | @sign st left s ss c l r h r' ih =>
    intro l2 hl h1 h2
    obtain ⟨h3, rfl, h4⟩ := sst_some h
    by_cases hfr : l2 = -1 ∨ comm one two (cdS one two st s) = true
    · refine .sign (l := l2) ?_ (ih ?_ ?_ h2)
      · unfold sst
        rw [if_neg h3, if_pos hfr]
      · rcases h4 with ⟨h5, rfl⟩ | ⟨h5, h6, rfl⟩
        · exact hl
        · rcases hfr with hf | hf
          · exact .inl hf
          · exact absurd (.inr hf) h5
      · rcases h4 with ⟨h5, rfl⟩ | ⟨h5, h6, rfl⟩
        · exact h1
        · have : left ≠ -1 := fun z => h5 (.inl z)
          omega
    · have hl2 : l2 ≠ -1 := fun z => hfr (.inl z)
      have hk : ¬ comm one two (cdS one two st s) = true := fun z => hfr (.inr z)
      have h7 := hl.resolve_left hl2
      rcases h4 with ⟨h5, rfl⟩ | ⟨h5, h6, rfl⟩
      · exact absurd (h5.resolve_left h7.1) hk
      · refine .sign (l := l2 - 1) ?_ (ih (.inr ⟨by omega, by omega⟩) (by omega) h2)
        unfold sst
        rw [if_neg h3, if_neg hfr, if_neg (by omega)]
  | @shift st left s ss k r hk r' ih =>
    intro l2 hl h1 h2
    refine .shift hk (ih ?_ ?_ h2)
    · unfold kept
      by_cases hks : k = st
      · rw [if_pos hks, if_pos hks]
        exact .inl rfl
      · rw [if_neg hks, if_neg hks]
        exact hm
    · unfold kept
      split <;> omega
/-- a number as great as the text is long lets all pass -/
theorem Run.wide0 {one two : List Nat} {m st l0 : Int} {tx : List Nat} {t : List Int} (r : Run one two (-1) st l0 tx t) : l0 = -1 → ∀ {l : Int}, (tx.length : Int) ≤ m → (l = -1 ∨ (tx.length : Int) ≤ l) → Run one two m st l tx t := by
  induction r with
  | nil => intros; exact .nil
  | @sign st left s ss c l' r h r' ih =>
    intro hl0 l hm hl
    subst hl0
    obtain ⟨h3, rfl, h4⟩ := sst_some h
    have hl' : l' = -1 := by
      rcases h4 with ⟨_, h⟩ | ⟨h5, _⟩
      · exact h
      · exact absurd (.inl rfl) h5
    rw [List.length_cons] at hm hl
    by_cases hfr : l = -1 ∨ comm one two (cdS one two st s) = true
    · refine .sign (l := l) ?_ (ih hl' (by omega) (by omega))
      unfold sst
      rw [if_neg h3, if_pos hfr]
    · have hl2 : l ≠ -1 := fun z => hfr (.inl z)
      refine .sign (l := l - 1) ?_ (ih hl' (by omega) (by omega))
      unfold sst
      rw [if_neg h3, if_neg hfr, if_neg (by omega)]
  | @shift st left s ss k r hk r' ih =>
    intro hl0 l hm hl
    have hkp : kept (-1) st k = -1 := by
      unfold kept
      split <;> rfl
    refine .shift hk (ih hkp hm ?_)
    unfold kept
    split
    · exact .inl rfl
    · exact .inr hm
theorem Run.wide {one two : List Nat} {m st : Int} {tx : List Nat} {t : List Int} (r : Run one two (-1) st (-1) tx t) {l : Int} (hm : (tx.length : Int) ≤ m) (hl : l = -1 ∨ (tx.length : Int) ≤ l) : Run one two m st l tx t := r.wide0 rfl hm hl
theorem Run.free {one two : List Nat} {m st l : Int} {tx : List Nat} {t : List Int} (r : Run one two m st l tx t) (hm : -1 ≤ m) (hl : -1 ≤ l) : Run one two (-1) st (-1) tx t := r.mono (.inl rfl) (.inl rfl) hl hm
theorem best_wide {one two : List Nat} {m st : Int} {tx : List Nat} {R : List Int} (hm : (tx.length : Int) ≤ m) : Best one two (-1) st (-1) tx R ↔ Best one two m st (-1) tx R := by
  have key : ∀ t, Run one two (-1) st (-1) tx t ↔ Run one two m st (-1) tx t := fun t => ⟨fun r => r.wide hm (.inl rfl), fun r => r.free (by omega) (by decide)⟩
  unfold Best
  constructor
  · rintro ⟨h1, h2⟩
    exact ⟨(key R).mp h1, fun t ht => h2 t ((key t).mpr ht)⟩
  · rintro ⟨h1, h2⟩
    exact ⟨(key R).mpr h1, fun t ht => h2 t ((key t).mp ht)⟩
/-- a text with a sign more -/
theorem Run.less {one two : List Nat} {m st l : Int} {tx : List Nat} {t : List Int} (r : Run one two m st l tx t) : ∀ {ss : List Nat} {s : Nat}, tx = ss ++ [s] → ∃ t', Run one two m st l ss t' ∧ t'.length < t.length := by
  induction r with
  | nil =>
    intro ss s e
    simp at e
  | @sign st left a as c l r h r' ih =>
    intro ss s e
    cases ss with
    | nil => exact ⟨[], .nil, by simp⟩
    | cons b bs =>
      simp only [List.cons_append, List.cons.injEq] at e
      obtain ⟨rfl, e⟩ := e
      obtain ⟨t', h1, h2⟩ := ih e
      exact ⟨c :: t', .sign h h1, by simpa using h2⟩
  | @shift st left a as k r hk r' ih =>
    intro ss s e
    cases ss with
    | nil => exact ⟨[], .nil, by simp⟩
    | cons b bs =>
      obtain ⟨t', h1, h2⟩ := ih e
      exact ⟨_ :: t', .shift hk h1, by simpa using h2⟩


/-! ### rows of lengths, by state and what is left -/
abbrev key2 (a b : Int) : List Key := [.inl a, .inl b]
def rowOf (F : Int → Int → Int) (ks : List (Int × Int)) : List (List Key × V) := ks.map fun k => (key2 k.1 k.2, V.int (F k.1 k.2))
def leftsM (most : Int) : List Int := -1 :: (List.range (most + 1).toNat).map fun i => ((i : Nat) : Int)
def keysM (most : Int) : List (Int × Int) := (leftsM most).map (fun l => (0, l)) ++ (leftsM most).map (fun l => (1, l))
theorem mem_lefts {most l : Int} (hm : -1 ≤ most) : l ∈ leftsM most ↔ -1 ≤ l ∧ l ≤ most := by
  unfold leftsM
  simp only [List.mem_cons, List.mem_map, List.mem_range]
  constructor
  · rintro (rfl | ⟨i, hi, rfl⟩)
    · omega
    · omega
  · intro h
    by_cases e : l = -1
    · exact .inl e
    · exact .inr ⟨l.toNat, by omega, by omega⟩
theorem nodup_lefts (most : Int) : (leftsM most).Nodup := by
  unfold leftsM
  refine List.nodup_cons.mpr ⟨?_, ?_⟩
  · intro h
    obtain ⟨i, _, e⟩ := List.mem_map.mp h
    omega
  · refine List.Pairwise.map _ (fun a b h => ?_) (List.nodup_range)
    omega
theorem mem_keys {most s l : Int} (hm : -1 ≤ most) : (s, l) ∈ keysM most ↔ Bit s ∧ -1 ≤ l ∧ l ≤ most := by
  unfold keysM Bit
  rw [List.mem_append, List.mem_map, List.mem_map]
  constructor
  · rintro (⟨x, h, e⟩ | ⟨x, h, e⟩)
    · cases e
      exact ⟨.inl rfl, (mem_lefts hm).mp h⟩
    · cases e
      exact ⟨.inr rfl, (mem_lefts hm).mp h⟩
  · rintro ⟨rfl | rfl, h⟩
    · exact .inl ⟨l, (mem_lefts hm).mpr h, rfl⟩
    · exact .inr ⟨l, (mem_lefts hm).mpr h, rfl⟩
theorem nodup_keys (most : Int) : (keysM most).Nodup := by
  unfold keysM
  refine List.nodup_append.mpr ⟨?_, ?_, ?_⟩
  · exact List.Pairwise.map _ (fun a b h e => h (by cases e; rfl)) (nodup_lefts most)
  · exact List.Pairwise.map _ (fun a b h e => h (by cases e; rfl)) (nodup_lefts most)
  · intro x hx y hy e
    obtain ⟨a, _, rfl⟩ := List.mem_map.mp hx
    obtain ⟨b, _, rfl⟩ := List.mem_map.mp hy
    have := congrArg Prod.fst e
    simp at this
theorem len_lefts {most : Int} (h1 : -1 ≤ most) : (leftsM most).length = (most + 2).toNat := by
  unfold leftsM
  simp
  omega
theorem len_keys {most : Int} (h1 : -1 ≤ most) : (keysM most).length = 2 * (most + 2).toNat := by
  unfold keysM
  rw [List.length_append, List.length_map, List.length_map, len_lefts h1]
  omega
theorem key2_inj {a b c d : Int} (h : key2 a b = key2 c d) : a = c ∧ b = d := by
  unfold key2 at h
  simp only [List.cons.injEq, Sum.inl.injEq, and_true] at h
  exact h
theorem val_row {F : Int → Int → Int} : ∀ {ks : List (Int × Int)} {s l : Int}, (s, l) ∈ ks → valV (rowOf F ks) (key2 s l) = some (.int (F s l))
  | [], _, _, h => by simp at h
  | k :: ks, s, l, h => by
    by_cases e : k = (s, l)
    · subst e
      exact valV_pos (p := (key2 s l, V.int (F s l))) rfl
    · have h2 : (s, l) ∈ ks := by
        rcases List.mem_cons.mp h with h | h
        · exact absurd h.symm e
        · exact h
      show valV ((key2 k.1 k.2, V.int (F k.1 k.2)) :: rowOf F ks) (key2 s l) = _
      rw [valV_neg (fun z => e (by obtain ⟨h3, h4⟩ := key2_inj z; exact Prod.ext h3 h4))]
      exact val_row h2
theorem val_no {F : Int → Int → Int} : ∀ {ks : List (Int × Int)} {s l : Int}, (s, l) ∉ ks → valV (rowOf F ks) (key2 s l) = none
  | [], _, _, _ => rfl
  | k :: ks, s, l, h => by
    rw [List.mem_cons, not_or] at h
    show valV ((key2 k.1 k.2, V.int (F k.1 k.2)) :: rowOf F ks) (key2 s l) = _
    rw [valV_neg (fun z => h.1 (by obtain ⟨h3, h4⟩ := key2_inj z; exact (Prod.ext h3 h4).symm))]
    exact val_no h.2
theorem len_row (F : Int → Int → Int) (ks : List (Int × Int)) : (rowOf F ks).length = ks.length := List.length_map _
theorem row_at {F : Int → Int → Int} {ks : List (Int × Int)} {i : Nat} {k : List Key} {v : V} (h : (rowOf F ks)[i]? = some (k, v)) : ∃ s l, ks[i]? = some (s, l) ∧ k = key2 s l ∧ v = .int (F s l) := by
  unfold rowOf at h
  rw [List.getElem?_map] at h
  cases e : ks[i]? with
  | none => rw [e] at h; cases h
  | some x =>
    rw [e] at h
    cases h
    exact ⟨x.1, x.2, rfl, rfl, rfl⟩
theorem put_row {F : Int → Int → Int} {ks : List (Int × Int)} {i : Nat} {s l : Int} (hn : ks.Nodup) (h : ks[i]? = some (s, l)) : putK (rowOf F (ks.take i)) (key2 s l) (.int (F s l)) = rowOf F (ks.take (i + 1)) := by
  obtain ⟨hi, hv⟩ := List.getElem?_eq_some_iff.mp h
  have hno : (s, l) ∉ ks.take i := by
    intro hm
    obtain ⟨j, hj, e⟩ := List.getElem_of_mem hm
    rw [List.getElem_take] at e
    rw [List.length_take] at hj
    have hp := List.pairwise_iff_getElem.mp hn j i (by omega) hi (by omega)
    exact hp (e.trans hv.symm)
  rw [putK_new _ (val_no hno), take_snoc h]
  unfold rowOf
  rw [List.map_append]
  rfl
theorem row_congr {F G : Int → Int → Int} {ks : List (Int × Int)} (h : ∀ s l, (s, l) ∈ ks → F s l = G s l) : rowOf F ks = rowOf G ks := by
  unfold rowOf
  refine List.map_congr_left fun k hk => ?_
  rw [h k.1 k.2 hk]


/-! ### the shortest tapes: what follows of them -/
theorem Best.le {one two : List Nat} {most st left : Int} {tx : List Nat} {R t : List Int} (h : Best one two most st left tx R) (r : Run one two most st left tx t) : R.length ≤ t.length := by
  have := h.2 t r
  omega
theorem noTrail.cons {n : Nat} {c : Int} {r : List Int} (hc : c < (n : Int)) (h : noTrail n r) : noTrail n (c :: r) := by
  cases r with
  | nil => exact hc
  | cons d r => exact h
theorem trm_trail {one two : List Nat} : ∀ {sh : Int} {l : List (Int × Int)}, Needs one.length l → noTrail one.length (trm one two sh l)
  | _, [], _ => trivial
  | sh, x :: l, hn => by
    have h1 := hn x (by simp)
    have h2 : Needs one.length l := fun y m => hn y (by simp [m])
    by_cases hw : wants one two sh x = true
    · simp only [trm, if_pos hw]
      show noTrail one.length (x.1 :: trm one two x.2 l)
      exact noTrail.cons h1.2.1 (trm_trail h2)
    · simp only [trm, if_neg hw]
      exact noTrail.cons h1.2.1 (trm_trail h2)
theorem trim_least {one two : List Nat} (hs : Sets one two) {st : Int} (hb : Bit st) {tx : List Nat} {R : List Int} (h : Best one two (-1) st (-1) tx R) : (trim one two st R).length = R.length := by
  obtain ⟨hc, hr, _⟩ := h.1.read hs
  have h1 := trim_len (one := one) (two := two) (st := st) (tp := R)
  have h2 : Run one two (-1) st (-1) tx (trim one two st R) := run_free_of hs hb (trim_codes hb hc) (by rw [trim_read hb hc, hr]) (trm_trail (need_ok hb hc))
  have h3 := h.le h2
  omega
/-- tapes of texts of so many signs have so many codes at the most -/
theorem Best.short {one two : List Nat} {most st left : Int} {tx : List Nat} {R : List Int} (h : Best one two most st left tx R) (hb : Bit st) (hst : Stands one two tx) (hl : tx.length ≤ 1000) : R.length ≤ 3 * tx.length := by
  have h1 := h.len hb hst hl
  have h2 := Lf_bound (one := one) (two := two) (most := most) (tx := tx) (left := left) hb hst
  omega


/-! ### numbers as words -/
theorem S_tl (x : Str) : x = S (TL.tl x) := by
  show x = ⟨(TL.tl x).toArray⟩
  rw [TL.mk_tl]
theorem tl_S (l : List Nat) : TL.tl (S l) = l := by
  show l.toArray.toList = l
  simp
/-- the figures of a code -/
def numS (c : Int) : List Nat := TL.numL c.toNat
theorem num_str {c : Int} (h : 0 ≤ c) : (Str.ofString (toString c)) = S (numS c) := by
  have e : c = ((c.toNat : Nat) : Int) := by omega
  rw [S_tl (Str.ofString (toString c))]
  unfold numS
  rw [e, TL.tl_num, Int.toNat_natCast]
/-- a tape as a text -/
def wrL (tp : List Int) : List Nat := TL.joinL [32] (tp.map numS)
theorem wr_str (tp : List Int) : Txt.join (S [32]) (tp.map fun c => S (numS c)) = S (wrL tp) := by
  rw [TL.join_eq, S_tl (Str.join (S [32]) _), TL.tl_join, tl_S, List.map_map]
  unfold wrL
  congr 2
theorem wr_split {tp : List Int} (h : tp ≠ []) : Txt.split (S (wrL tp)) (S [32]) = tp.map fun c => S (numS c) := by
  rw [← wr_str]
  refine TL.split_join (s := 32) (S := []) (tl_S _) (by decide +kernel) (fun e => h (List.map_eq_nil_iff.mp e)) fun p hp => ?_
  obtain ⟨c, _, rfl⟩ := List.mem_map.mp hp
  rw [tl_S]
  exact TL.numL_free (.inl (by decide))
theorem wr_len : ∀ (tp : List Int), (∀ c ∈ tp, c < 100) → (wrL tp).length ≤ 3 * tp.length
  | [], _ => by simp [wrL, TL.joinL]
  | [c], h => by
    have h1 := TL.numL_len (n := c.toNat) (k := 2) (by decide) (by have := h c (by simp); omega)
    simp only [wrL, List.map_cons, List.map_nil, TL.joinL, numS]
    simp
    omega
  | c :: d :: r, h => by
    have h1 := TL.numL_len (n := c.toNat) (k := 2) (by decide) (by have := h c (by simp); omega)
    have h2 := wr_len (d :: r) fun x hx => h x (List.mem_cons_of_mem _ hx)
    simp only [wrL, List.map_cons, TL.joinL, numS, List.length_append, List.length_cons] at h2 ⊢
    simp at h2 ⊢
    omega
theorem wr_ne {tp : List Int} (h : tp ≠ []) : wrL tp ≠ [] := by
  match tp, h with
  | [c], _ =>
    simp only [wrL, List.map_cons, List.map_nil, TL.joinL]
    exact TL.numL_ne _
  | c :: d :: r, _ =>
    simp only [wrL, List.map_cons, TL.joinL]
    intro e
    exact TL.numL_ne _ (List.append_eq_nil_iff.mp e).1
/-- a word of one or two figures without a needless 0 -/
def isNum (w : List Nat) : Bool := w.all (fun c => decide (48 ≤ c ∧ c ≤ 57)) && (decide (w.length = 1) || (decide (w.length = 2) && !decide (w.getD 0 0 = 48)))
theorem num_isNum {c : Int} (h0 : 0 ≤ c) (h1 : c < 100) : isNum (numS c) = true := by
  have key : ∀ n, n < 100 → isNum (TL.numL n) = true := by
    intro n hn
    by_cases h : n < 10
    · rw [TL.numL_lt h]
      have hc : 48 ≤ 48 + n ∧ 48 + n ≤ 57 := by omega
      simp [isNum]
      omega
    · rw [TL.numL_step (by omega), TL.numL_lt (by omega)]
      simp [isNum]
      omega
  exact key _ (by omega)
theorem isNum_digits {w : List Nat} (h : isNum w = true) : NumText.AllDigits w ∧ w ≠ [] ∧ w.length ≤ 2 := by
  unfold isNum at h
  rw [Bool.and_eq_true] at h
  obtain ⟨h1, h2⟩ := h
  simp at h1 h2
  refine ⟨fun c hc => h1 c hc, ?_, by omega⟩
  rintro rfl
  simp at h2
theorem isNum_int {w : List Nat} (h : isNum w = true) : PySem.intText? (S w) = some ((NumText.digitsVal w : Nat) : Int) := by
  obtain ⟨h1, h2, h3⟩ := isNum_digits h
  have e : (S w).cps.toList = w := tl_S w
  have := PySem.intText_digits (x := S w) (by rw [e]; exact h1) (by rw [e]; exact h2) (by rw [S_len]; omega)
  rw [e] at this
  exact this
theorem num_val {c : Int} (h0 : 0 ≤ c) : ((NumText.digitsVal (numS c) : Nat) : Int) = c := by
  unfold numS
  rw [TL.numL_val]
  omega
/-- there is a shortest tape -/
theorem best_exists {one two : List Nat} (hs : Sets one two) {most : Int} (hm : -1 ≤ most) : ∀ (n : Nat) {tx : List Nat} {st left : Int}, Bit st → Stands one two tx → tx.length ≤ 900 → -1 ≤ left ∧ left ≤ most → Lf one two most tx st left = n → ∃ R, Best one two most st left tx R
  | n, [], st, left, _, _, _, _, _ => ⟨[], best_nil⟩
  | 0, s :: ss, st, left, _, _, _, _, e => by
    have := Lf_pos (one := one) (two := two) (most := most) (s := s) (ss := ss) (st := st) (left := left)
    omega
  | n + 1, s :: ss, st, left, hb, hst, hl, hlf, e => by
    have hl' := hl
    rw [List.length_cons] at hl'
    by_cases h1 : ∃ c l, sst one two st left s = some (c, l) ∧ Lf one two most (s :: ss) st left = 1 + Lf one two most ss st l
    · obtain ⟨c, l, h2, h3⟩ := h1
      have hr := sst_range hs h2 hlf
      obtain ⟨R, hR⟩ := best_exists hs hm n (tx := ss) (st := st) (left := l) hb hst.tail (by omega) ⟨hr.2.2.1, hr.2.2.2.1⟩ (by omega)
      exact ⟨_, best_sign hs hb hst (by omega) hlf h2 h3 hR⟩
    · have hno : ∀ c l, sst one two st left s = some (c, l) → Lf one two most (s :: ss) st left ≠ 1 + Lf one two most ss st l := fun c l h2 h3 => h1 ⟨c, l, h2, h3⟩
      have hk : ∀ k, -1 ≤ kept most st k ∧ kept most st k ≤ most := fun k => by
        unfold kept
        split <;> omega
      have go : ∀ k, Bit k → (∀ k', Bit k' → k' < k → Lf one two most (s :: ss) st left ≠ 1 + Lf one two most (s :: ss) k' (kept most st k')) → Lf one two most (s :: ss) st left = 1 + Lf one two most (s :: ss) k (kept most st k) → ∃ R, Best one two most st left (s :: ss) R := fun k hkb hno2 h3 => by
        obtain ⟨R, hR⟩ := best_exists hs hm n (tx := s :: ss) (st := k) (left := kept most st k) hkb hst hl (hk k) (by omega)
        exact ⟨_, best_shift hs hb hkb hst (by omega) hno hno2 h3 hR⟩
      by_cases h0 : Lf one two most (s :: ss) st left = 1 + Lf one two most (s :: ss) 0 (kept most st 0)
      · exact go 0 (.inl rfl) (fun k' hk' z => by unfold Bit at hk'; omega) h0
      · rcases Lf_attain (most := most) (left := left) hb hst (by omega) with ⟨c, l, h2, h3⟩ | ⟨k, hkb, h3⟩
        · exact absurd h3 (hno c l h2)
        · have hk1 : k = 1 := by
            rcases hkb with rfl | rfl
            · exact absurd h3 h0
            · rfl
          subst hk1
          exact go 1 hkb (fun k' hk' z => by
            have : k' = 0 := by unfold Bit at hk'; omega
            rw [this]
            exact h0) h3
theorem best_ex {one two : List Nat} (hs : Sets one two) {most st : Int} {tx : List Nat} (hm : -1 ≤ most) (hb : Bit st) (hst : Stands one two tx) (hl : tx.length ≤ 900) : ∃ R, Best one two most st (-1) tx R := by
  have h0 := Lf_nonneg one two most tx st (-1)
  exact best_exists hs hm (Lf one two most tx st (-1)).toNat hb hst hl ⟨by omega, hm⟩ (by omega)


/-! ### errors whose context is None -/
section
open PySem.W
variable {X : Cx} {e : Expr} {es : List Expr} {ta : TA}
/-- C(e, ..), an own class with an __init__, where nothing is handled -/
theorem pmk_oexN {CY : CXT} {cn : Str} {p1 p2 : Pos} {C fI : Addr} {k : Nat} {fd : FuncData} {ps : List Str} {sp : Sp} (T : OexC X.K C)
    (iC : PySem.W.findIn X.K (.ref C) "__init__" = some (some (.ref fI)))
    (tI : PySem.W.typeIn X.K (.ref fI) = some (.type "function"))
    (Fi : FnOk X.prog X.w X.K X.mg X.base CY k fI fd ps sp) (room : Room (k + 1) X.A) (hb : Binds X.K fd ps [])
    (px : Passes CY X (fun _ _ _ => False)) (hg : Gl X cn) (hm : X.mg cn = some (.ref C)) (ha : PA X (e :: es) ta)
    (hdb : (cn == ("__debug__" : Str)) = false := by decide)
    (hse : starEach (e :: es) X.env = (false, eval e X.env) :: starEach es X.env := by rfl)
    (hpl : (backTo p2 (starEach es X.env)).any (·.1) = false := by rfl) :
    L2N.PMk X (.Call (.Name cn p1) (e :: es) [] p2) (tMkO C sp [] ta) := by
  intro pins s σ H Q I h
  obtain ⟨n0, q0, N0, b0, m0, c0, c1, c2, c3, c4, k0, k1, k2, k3, k5, hC, hm0⟩ := T.cls
  refine wpAny_Call_Name_kw (ld_glob I hg hm ?_ hdb)
  refine PySem.W.callWith_K (h₀ := X.base) I.ok.mod.kin T.kC
    (thn (ha.run p2 pins s σ H _ I h) fun us s1 ⟨vs, H1, I1, r1, hz, q1⟩ => ⟨I1.kIn, ?_⟩) hse hpl
  show wpAny _ _ (call (.ref C) us) _ _ _
  obtain ⟨g, gs, dr, tk, os⟩ := s1
  have hge : g.objs.size ≤ g.objs.size + 1 := Nat.le_succ _
  generalize hE : g.objs.size + 1 = E at hge
  have hfree : H1 E = none := I1.hok.fresh hge
  have hq := q1 E hfree
  generalize hG2 : (g.push (PySem.W.kdv_tup us)).push (PySem.HandSPX.excO C g.objs.size) = G2
  have old : ∀ b o, g.get? b = some o → G2.get? b = some o := fun b o z => by
    rw [← hG2]
    exact Heap.get?_push_of_some _ (Heap.get?_push_of_some _ z)
  have made : G2.get? E = some (PySem.HandSPX.excO C g.objs.size) := by
    rw [← hG2, ← hE]
    heap_get
  have J : Inv X pins σ (upd H1 E (exo E C none)) ⟨G2, gs, dr, tk, os⟩ :=
    I1.laid (t' := tk) (a := E) (o := exo E C none) (h' := G2) old hge (exo_ok made)
  have rr : Vals (V.ref E :: vs) (Value.ref E :: us) := .cons rfl r1
  rw [List.append_nil] at hq
  have hll : (Value.ref E :: us ++ []).length = ps.length := by
    have z := rr.length
    rw [Fi.len _ _ _ _ hq] at z
    rw [List.append_nil]
    exact z.symm
  have hul : us.length ≤ sizeLine := by
    rw [← Paired.length r1, sizeLine_eq]
    omega
  have bb := hb _ (Value.ref E :: us) J.kIn hll
  rw [List.append_nil] at bb
  have body := Fi.run _ X.stack _ _ ⟨Value.ref E :: us, []⟩ (Value.ref E :: us) _ _ (fun _ _ _ => False)
    (room.make C us []) (J.env0.make C us []) bb rr hq
  subst hG2
  subst hE
  refine wpAny_call (PySem.HandSPX.call_own F.excBase_ValueError (fun Y => PySem.HandSPX.refsVE_contains Y m0 hm0)
    (I1.kIn _ _ hC) (PySem.W.looks_findIn I1.kIn iC) (fun self => PySem.W.bind_fn I1.kIn self tI) hul
    (codeAny_mono body fun r s' hr => ?_))
  cases r with
  | error x => exact px pins σ _ _ x s' J hr
  | ok fl =>
    cases fl with
    | ret u =>
      obtain ⟨v, H2, os2, bare2, un2, hok2, rv, ev, d, fs, ea, ed, hd1, q2⟩ := hr
      subst ev
      obtain ⟨g2, gs2, d2, t2, os'⟩ := s'
      obtain ⟨t0, G, J2, kG, ge, hoe, na⟩ := mk_end0 (d2 := d2) (t2 := t2) I1 hge old un2 hok2 os2 bare2 ea ed hd1
      exact ⟨rv, g.objs.size + 1, _, _, ⟨G, gs2, d2, t2, os'⟩, _, .ref C, some d, rfl, J2, kG, ge, hoe,
        ⟨rfl, rfl, fun vs hv => by cases hv; rfl⟩, rfl, rfl, na, rfl, bare2, raises_own T.exC T.tyC, q2⟩
    | next => exact False.elim hr
    | brk => exact False.elim hr
    | cont => exact False.elim hr
/-- a first statement that never ends: what follows needs nothing -/
def tStop (t : TS) : TS := fun D σ H => t { D with nx := fun _ _ => False } σ H
theorem pss_stop {st : Stmt} {rest : List Stmt} {t : TS} (h : PS X st t) : PSs X (st :: rest) (tStop t) := by
  refine ⟨fun pins s σ H D I q => ?_⟩
  refine wpAny_execs_cons (thn (h.run pins s σ H _ I q) fun f s1 hf => ?_)
  cases f with
  | next =>
    obtain ⟨_, _, _, z⟩ := hf
    exact False.elim z
  | brk => exact hf
  | cont => exact hf
  | ret u => exact hf
end
/-! ### a comprehension over a list while an exception is handled -/
section
open HotX
open L2H (HotC)
/-- the list iterator's end, where an exception is handled whose context is None -/
theorem list_end_hot {prog : Program} {w : World} {A : Around} {E : Value → Shared → Prop} {s : Shared} {it l x1 : Addr} {i : Nat} {items : Array Value} {Q : Option Value → Shared → Prop}
    (hot : HotAt A x1 s.heap) (st : s.heap.IsListIter it l i) (hl : s.heap.IsList l items) (hx : items[i]? = none)
    (q : ∀ h', Heap.ExtBut it s.heap h' → Q none { s with heap := h' }) : wpAny (model prog w) A (pyNext (.ref it)) Q E s := by
  obtain ⟨hh, oe, vs1, h1, d1, c1⟩ := hot
  obtain ⟨oi, hi, hc, hd⟩ := id st
  obtain ⟨ol, hol, _, nl, hdl⟩ := hl
  have nxi : x1 ≠ it := fun z => by
    rw [z, hi] at h1
    cases h1
    rw [hd] at d1
    cases d1
    simp at c1
  unfold pyNext
  refine wpAny_bind (wpAny_attempt (wpAny_callSpecial?_slot (name := Str.ofString "__next__") st.typeIs slot_listiter_next
    (wpAny_call_entry slot_listiter_next st.typeIs entry_listiter_next ?_ (args_listiter_next _))))
  show wpAny _ _ (field (.ref it) 0 >>= _) _ _ s
  refine wpAny_bind (wpAny_field hi hd (x := .ref l) rfl ?_)
  show wpAny _ _ (if (Value.ref l == Value.none) = true then _ else _) _ _ s
  rw [if_neg (show ¬ ((Value.ref l == Value.none) = true) from by simp)]
  show wpAny _ _ (field (.ref it) 1 >>= _) _ _ s
  refine wpAny_bind (wpAny_field hi hd (x := .int i 0) rfl ?_)
  show wpAny _ _ (seqItems? (.ref l) >>= _) _ _ s
  refine wpAny_bind (wpAny_seqItems hol hdl ?_)
  simp only [Int.toNat_natCast, hx]
  refine wpAny_bind (wpAny_rule (wpAny_bind (wpAny_setField hi hd (by simp) ?_)))
  show wpAny _ _ (newExc (.type "StopIteration") [] >>= _) _ _ _
  refine wpAny_bind ?_
  simp only [newExc, newTuple]
  refine wpAny_bind (wpAny_newObj_type ?_ (by size_fits))
  refine wpAny_bind (m := firstArgMember _ _) (wpAny_of_eq (a := Value.none) (by first | rfl | (simp only [firstArgMember]; rfl)) ?_)
  refine wpAny_newObj_type ?_ (by size_fits)
  generalize hg : s.heap.update it (Obj.mapFields (·.setIfInBounds 0 .none)) = g
  have hg1 : g.get? x1 = some oe := by
    rw [← hg, Heap.get?_update_other _ _ nxi.symm]
    exact h1
  have hext : Heap.ExtBut it s.heap g := by
    rw [← hg]
    exact (Heap.SameBut.update ..).extBut
  refine raiseNew_hot ⟨hh, oe, vs1, Heap.get?_push_of_some _ (Heap.get?_push_of_some _ hg1), d1, c1⟩
    (Nat.ne_of_lt (Heap.lt_size (Heap.get?_push_of_some _ hg1))) (Heap.get?_push_size _ rfl) rfl (by first | (simp; done) | (simp; omega) | (simp only [Array.size_append]; simp; omega)) ?_
  refine wpAny_bind (wpAny_isInstance (T := "StopIteration") (b := true) ⟨_, Heap.get?_update_self _ (Heap.get?_push_size _ rfl) rfl, rfl⟩ isSubtype_stop ?_)
  refine wpAny_pure (q _ fun b o hb e => ?_)
  have e2 := hext b o hb e
  rw [Heap.get?_update_other _ _ (Nat.ne_of_gt (Heap.lt_size (Heap.get?_push_of_some _ e2)))]
  exact Heap.get?_push_of_some _ (Heap.get?_push_of_some _ e2)
/-- [elt for y in l]: the elements change nothing; i0: y's slot -/
def tLcH (tl : TE) (i0 : Nat) (te : TE) (vs : List Nat) : TE := fun σ H Q => tl σ H fun v H1 => ∃ (a : Addr) (xs ys : List V), v = .ref a ∧ H1 a = some (.lst xs) ∧ ys.length = xs.length ∧ ys.length < sizeLine ∧
  ∀ D, H1 D = none → (∀ i x, xs[i]? = some x → ∀ G, G = upd H1 D (.lst (ys.take i)) → te ((wipe σ vs).set i0 (some x)) G fun z G' => ys[i]? = some z ∧ G' = G) ∧ Q (.ref D) (upd H1 D (.lst ys))
theorem pe_lcH {X : Cx} {elt iter : Expr} {scope : Scope} {own : List (Str × Nat)} {y : Str} {py pos : Pos} {tl te : TE} {i0 : Nat} (hot : HotC X) (hN : X.N.Nodup) (hl : PE X iter tl) (ok : BlkOk X.N X.env.scope scope own) (hown : i0 ∈ own.map (·.2))
    (hg : ∀ (s : Shared) (H : Hp) (C : Addr) (cl : List (Str × Addr)) (fp : List Addr), PG (X.blk s H scope (compEnvC scope cl C X.env) fp) (.Name y py) (gName i0))
    (he : ∀ (s : Shared) (H : Hp) (C : Addr) (cl : List (Str × Addr)) (fp : List Addr), PE (X.blk s H scope (compEnvC scope cl C X.env) fp) elt te)
    (hs : ∀ x, foldedSetIterable iter X.env x = pure x := by intro _; rfl) :
    PE X (.ListComp elt [⟨.Name y py, iter, [], 0⟩] scope pos) (tLcH tl i0 te (own.map (·.2))) := by
  refine ⟨fun pins s σ H Q I h => ?_⟩
  have hfree : ∀ z ∈ scope.names, z.2 = .free → ∃ c, X.env.cells.lookup z.1 = some c := fun z hz e => by
    rcases ok.free z hz e with k | k
    · exact I.ok.has _ (.inl k)
    · exact I.ok.has _ (.inr k)
  rw [eval_ListComp]
  refine wpAny_comprehension_free (use := none) rfl hs (closure_ok hfree) ok.kind (fun z hz e => by rw [ok.uniq z hz, e])
    (thn (hl.run pins s σ H _ I h) fun v s1 hv => ?_)
  obtain ⟨x, H1, I1, rx, a, xs, ys, e, ea, hlen, hsz, step⟩ := hv
  subst e
  cases rx
  obtain ⟨its, rv, pl, hz⟩ := I1.list (SqL.of ea)
  refine wpAny_pyIter_list pl.isList ?_
  generalize hit : s1.heap.objs.size = it
  generalize hs2 : ({ s1 with heap := s1.heap.push { cls := .type "list_iterator", data := .fields #[.ref a, .int 0 0] } } : Shared) = s2
  have h2h : s2.heap = s1.heap.push { cls := .type "list_iterator", data := .fields #[.ref a, .int 0 0] } := by rw [← hs2]
  have I2 : Inv X pins σ H1 s2 := by
    rw [← hs2]
    exact I1.kept (t' := s1.toks) fun b o z => Heap.get?_push_of_some _ z
  have fit : FpOk X pins H1 it := I1.fpOk (Nat.le_of_eq hit) (I1.hok.fresh (Nat.le_of_eq hit))
  have itlt : it < s2.heap.objs.size := by
    rw [h2h, Heap.size_push, hit]
    exact Nat.lt_succ_self _
  have st2 : s2.heap.IsListIter it a 0 := by
    rw [h2h, ← hit]
    exact ⟨_, Heap.get?_push_size _ rfl, rfl, rfl⟩
  refine wpAny_newObj_type (newEnv_comp ?_) (by show 0 ≤ sizeLine; decide)
  generalize hD : s2.heap.objs.size = D
  have hDn : H1 D = none := I2.hok.fresh (Nat.le_of_eq hD)
  obtain ⟨turn, qq⟩ := step D hDn
  generalize hs3 : ({ s2 with heap := s2.heap.push { cls := .type "list", data := .seq ([] : List Value).toArray } } : Shared) = s3
  have h3h : s3.heap = s2.heap.push { cls := .type "list", data := .seq ([] : List Value).toArray } := by rw [← hs3]
  have I3 : Inv X pins σ (upd H1 D (.lst [])) s3 := by
    rw [← hs3]
    refine I2.laid (t' := s2.toks) (fun b o z => Heap.get?_push_of_some _ z) (Nat.le_of_eq hD) ⟨Nat.zero_le _, [], 0, .nil, ?_⟩
    rw [← hD]
    exact Heap.get?_push_size _ rfl
  have nitD : it ≠ D := by
    rw [← hD]
    exact Nat.ne_of_lt itlt
  have f3 : ∀ b ∈ [it], FpOk X pins (upd H1 D (.lst [])) b ∧ b < s3.heap.objs.size := fun b hb => by
    have e : b = it := by simpa using hb
    rw [e]
    refine ⟨⟨by rw [upd_ne nitD]; exact fit.1, fit.2⟩, ?_⟩
    rw [h3h, Heap.size_push]
    exact Nat.lt_succ_of_lt itlt
  have st3 : s3.heap.IsListIter it a 0 := by
    rw [h3h]
    obtain ⟨o, z, r⟩ := st2
    exact ⟨o, Heap.get?_push_of_some _ z, r⟩
  have J0 := block_start I3 ok hN f3
  have pg := hg s3 (upd H1 D (.lst [])) s3.heap.objs.size (cellsFrom (s3.heap.objs.size + 1) scope.names (cloFrom X.env.cells scope.names [])) [it]
  have pe := he s3 (upd H1 D (.lst [])) s3.heap.objs.size (cellsFrom (s3.heap.objs.size + 1) scope.names (cloFrom X.env.cells scope.names [])) [it]
  show codeAny _ _ (.compStart (.ListComp elt [⟨.Name y py, iter, [], 0⟩] scope pos) 0 (.ref it) (.ref D) (compEnvC scope (cellsFrom (s3.heap.objs.size + 1) scope.names (cloFrom X.env.cells scope.names [])) s3.heap.objs.size X.env)) (compPost (model X.prog X.w) X.A X.xe none (EP X pins σ Q) (.ref D) s3.heap.objs.size) { s3 with heap := pushCells (s3.heap.push { cls := .type "dict", data := .dict #[] }) scope.names }
  generalize hce : compEnvC scope (cellsFrom (s3.heap.objs.size + 1) scope.names (cloFrom X.env.cells scope.names [])) s3.heap.objs.size X.env = ce at J0 pg pe ⊢
  have cL : ce.locals = s3.heap.objs.size := by subst hce; rfl
  have kp : ∀ b o, s3.heap.get? b = some o → (pushCells (s3.heap.push { cls := .type "dict", data := .dict #[] }) scope.names).get? b = some o := fun b o z => pushCells_keeps _ _ _ _ (Heap.get?_push_of_some _ z)
  generalize hs4 : ({ s3 with heap := pushCells (s3.heap.push { cls := .type "dict", data := .dict #[] }) scope.names } : Shared) = s4 at J0 ⊢
  have h4 : ∀ b o, s3.heap.get? b = some o → s4.heap.get? b = some o := fun b o z => by rw [← hs4]; exact kp b o z
  have J1 : Inv (X.blk s3 (upd H1 D (.lst [])) scope ce [it]) (X.pn ++ pins) (wipe σ (own.map (·.2))) (upd H1 D (.lst [])) s4 := J0.pins_of fun p hp => by
    obtain ⟨p1, p2, p3, p4, p5⟩ := I3.pin p hp
    refine ⟨h4 _ _ p1, p2, ?_, fun z => (List.mem_cons.mp (I3.stkSub p.1 z)).elim p3 p4, p5⟩
    show p.1 ≠ ce.locals
    rw [cL]
    exact Nat.ne_of_lt (Heap.lt_size p1)
  obtain ⟨ph, ⟨hh, v1, e1, c1⟩, hph⟩ := hot
  have fpB : ∀ {σ' : L2.St} {H' : Hp} {s' : Shared}, Inv (X.blk s3 (upd H1 D (.lst [])) scope ce [it]) (X.pn ++ pins) σ' H' s' → H' it = none → FpOk (X.blk s3 (upd H1 D (.lst [])) scope ce [it]) (X.pn ++ pins) H' it := fun {σ' H' s'} J hn =>
    have hm : it ∈ (X.blk s3 (upd H1 D (.lst [])) scope ce [it]).ex := List.mem_singleton.mpr rfl
    ⟨hn, (J.ok.exf it hm).1, J.ok.exfs it hm, .inl hm, fun x c z => (J.ok.exf it hm).2 x c z, fun p hp => fit.2.2.2.2.2 p hp⟩
  have nIt : ∀ ws : List V, upd H1 D (.lst ws) it = none := fun ws => by rw [upd_ne nitD]; exact fit.1
  have lst : ∀ ws : List V, upd H1 D (.lst ws) a = some (.lst xs) := fun ws => by
    rw [upd_ne (ne_of_none ea hDn)]
    exact ea
  have loop : codeAny (model X.prog X.w) X.A (.compLoop (.ListComp elt [⟨.Name y py, iter, [], 0⟩] scope pos) 0 (.ref it) (.ref D) ce) (compPost (model X.prog X.w) X.A X.xe none (EP X pins σ Q) (.ref D) s3.heap.objs.size) s4 := by
    refine compLoop_any (fun n s' => ∃ i, i + n = xs.length ∧ Inv (X.blk s3 (upd H1 D (.lst [])) scope ce [it]) (X.pn ++ pins) (wipe σ (own.map (·.2))) (upd H1 D (.lst (ys.take i))) s' ∧ s'.heap.IsListIter it a i) ?_ xs.length ⟨0, by omega, by rw [List.take_zero]; exact J1, ?_⟩
    · rintro n s5 ⟨i, hin, J5, st5⟩
      obtain ⟨its5, rv5, pl5, hz5⟩ := J5.list (SqL.of (lst (ys.take i)))
      obtain ⟨f0, f1, f2, f3', f4, f5⟩ := fpB J5 (nIt _)
      by_cases hi : i < xs.length
      · obtain ⟨xv, hxv⟩ : ∃ xv, xs[i]? = some xv := ⟨xs[i], List.getElem?_eq_getElem hi⟩
        obtain ⟨u, hu, ru⟩ := rv5.get hxv
        refine wpAny_pyNext_list_item st5 pl5.isList (x := u) (by simpa using hu) fun h' st' sb => ?_
        have J6 : Inv (X.blk s3 (upd H1 D (.lst [])) scope ce [it]) (X.pn ++ pins) (wipe σ (own.map (·.2))) (upd H1 D (.lst (ys.take i))) { s5 with heap := h' } :=
          J5.turned (t' := s5.toks) (fun b o hb z => (sb.2 b hb).trans z) f0 f1 f3' f4 f5
        obtain ⟨o6, z6, c6, d6⟩ := id st'
        refine go_of (s := { s5 with heap := h' }) z6 c6 d6 (by decide) ?_
        have J7 := J6.pinned (fp := [it]) (fun b hb => by
          have e : b = it := by simpa using hb
          rw [e]
          exact fpB J6 (nIt _)) (fun b hb => by
          have e : b = it := by simpa using hb
          rw [e]
          exact ⟨o6, z6, fun v z => by rw [d6] at z; cases z⟩)
        have te1 := turn i xv hxv _ rfl
        refine thnF (pg.run _ _ _ _ xv u (fun σ2 H2 => σ2 = (wipe σ (own.map (·.2))).set i0 (some xv) ∧ H2 = upd H1 D (.lst (ys.take i))) J7 ru ⟨rfl, rfl⟩) fun _ s8 ⟨σ8, H8, J8, eσ, eH⟩ => ?_
        subst eσ
        subst eH
        refine wpAny_tests_nil ?_
        show if true = true then _ else _
        rw [if_pos rfl]
        refine thnF (pe.run _ s8 _ _ _ J8 te1) fun z s9 ⟨yv, H9, J9, r9, hy, eH⟩ => ?_
        subst eH
        have hil : i < ys.length := by omega
        refine app_ok (X := X.blk s3 (upd H1 D (.lst [])) scope ce [it]) J9 upd_same (by rw [List.length_take]; omega) r9 fun s10 J10 => ?_
        rw [upd_upd] at J10
        have etk : ys.take i ++ [yv] = ys.take (i + 1) := by
          rw [List.take_add_one, hy]
          rfl
        rw [etk] at J10
        have pin' := (J10.pin (it, o6) (List.mem_append_right _ (List.mem_append_right _ (mem_pinsAt (List.mem_singleton.mpr rfl) z6)))).1
        refine ⟨n - 1, by omega, i + 1, by omega, J10.unpinned.weak (by rw [List.length_set]) (fun j v e => ?_), ⟨o6, pin', c6, d6⟩⟩
        by_cases hj : j = i0
        · rw [hj] at e
          exact absurd hown (wipe_some e).2
        · rw [List.getElem?_set_ne (Ne.symm hj)]
          exact e
      · have hie : i = xs.length := by omega
        have hl5 := rv5.length
        have P5 := J5.pin ph (List.mem_append_right _ (List.mem_append_left _ hph))
        refine list_end_hot (x1 := ph.1) ⟨hh, ph.2, v1, P5.1, e1, c1⟩ st5 pl5.isList (by simp; omega) fun h' eb => ?_
        have J6 : Inv (X.blk s3 (upd H1 D (.lst [])) scope ce [it]) (X.pn ++ pins) (wipe σ (own.map (·.2))) (upd H1 D (.lst (ys.take i))) { s5 with heap := h' } :=
          J5.turned (t' := s5.toks) (fun b o hb z => eb b o hb z) f0 f1 f3' f4 f5
        rw [hie, List.take_of_length_le (by omega)] at J6
        have I7 : Inv X pins σ (upd H1 D (.lst ys)) { s5 with heap := h' } := I3.call' (ch := [it]) J6.os J6.base J6.hok J6.bare fun b hb => by
          have q := f3 b hb
          exact ⟨q.1.2.2.2.1, q.1.2.1, q.1.2.2.2.2.1, q.1.2.2.2.2.2⟩
        obtain ⟨m, hn, _⟩ := J6.loc
        have hn : Heap.Ns h' ce.locals m := hn
        rw [cL] at hn
        have nC : upd H1 D (.lst ys) s3.heap.objs.size = none := by
          have z : upd H1 D (.lst ys) ce.locals = none := J6.free
          rw [cL] at z
          exact z
        obtain ⟨w0, w1, w2, w3, w4, w5⟩ := I3.fpOk (Nat.le_refl _) nC
        exact ⟨m, hn, fun h'' sb => ⟨.ref D, _, I7.turned (t' := s5.toks) (fun b o hb z => (sb.2 b hb).trans z) w0 w1 w3 w4 w5, rfl, qq⟩⟩
    · obtain ⟨o, z, r⟩ := st3
      exact ⟨o, h4 _ _ z, r⟩
  refine codeAny_compStart_list loop (wpAny_pyIter_listiter (it := it) (l := a) (i := 0) ?_ loop)
  obtain ⟨o, z, r⟩ := st3
  exact ⟨o, h4 _ _ z, r⟩
end


/-! ### lambdas as values -/
open LamX (CodeO TabS Tabs TabB ExtN codeO_ne inv_table among_app)
/-- a lambda's words: its full name, what it takes, its expression, its scope, the cells that it captured, its code object, its defaults -/
structure LW where
  qual : Str
  params : Arguments
  body : Expr
  scope : Scope
  cl : List (Str × Addr)
  c : Addr
  dV : Value
abbrev LW.fd (F : LW) (doc pm ctv : Value) : FuncData := PySem.W.kdv_fn "<lambda>" F.qual F.params (.expr F.body) F.scope F.cl F.dV doc pm (.ref F.c) ctv
/-- the object at f is the lambda F -/
def LamO (f : Addr) (F : LW) : HO := .ext fun h => ∃ doc pm ctv : Value, h.get? f = some ({ cls := .type "function", data := .func (F.fd doc pm ctv) } : Obj)
theorem lamO_ne {f : Addr} {F : LW} (ps : Array Value) : LamO f F ≠ .tbl ps := fun z => by
  unfold LamO at z
  cases z
theorem lamO_at {P : Program} {w : World} {H : Hp} {h : Heap} {f : Addr} {F : LW} (ok : HOk P w H h) (e : H f = some (LamO f F)) : ∃ doc pm ctv : Value, h.get? f = some ({ cls := .type "function", data := .func (F.fd doc pm ctv) } : Obj) := (ok f _ e).1
theorem codeO_at {P : Program} {w : World} {H : Hp} {h : Heap} {c : Addr} {q : Str} (ok : HOk P w H h) (e : H c = some (CodeO c q)) : h.CodeRec (.ref c) q := by
  obtain ⟨⟨oc, vs, t, h1, h2, h3⟩, _, _⟩ := ok c _ e
  exact ⟨c, oc, vs, t, rfl, h1, h2, h3⟩
section
variable {X : Cx} {pins : List (Addr × Obj)} {σ : L2.St} {H : Hp} {s : Shared}
/-- a lambda's object just pushed is known from now on -/
theorem inv_lam {F : LW} {o : Obj} {tk : Nat} {doc pm ctv : Value} (I : Inv X pins σ H s) (ho : o = { cls := .type "function", data := .func (F.fd doc pm ctv) }) :
    Inv X pins σ (upd H s.heap.objs.size (LamO s.heap.objs.size F)) { s with heap := s.heap.push o, toks := tk } := by
  refine I.laid (a := s.heap.objs.size) (fun b u z => Heap.get?_push_of_some _ z) (Nat.le_refl _) ?_
  have e : (s.heap.push o).get? s.heap.objs.size = some o := Heap.get?_push_size _ (by rw [ho]; rfl)
  refine ⟨⟨doc, pm, ctv, by rw [e, ho]⟩, ⟨_, e⟩, fun h1 h2 ⟨d, p, t, z⟩ st => ⟨d, p, t, st _ z⟩⟩
/-- the function object is made: its code object is new, or found in the table -/
theorem lam_tail {T : List (Addr × Str)} {q : Str} {c P : Addr} {params : Arguments} {body : Expr} {scope : Scope} {dV : Value} {pos : Pos} {E : Value → Shared → Prop} {Q : Value → Shared → Prop} (I : Inv X pins σ H s) (TB : TabB X.base X.mg c P) (hcode : X.env.code = .ref c)
    (hm : (P, q) ∈ T) (hu : ∀ p ∈ T, p.1 = P → p.2 = q) (hT : Tabs T H) (hfree : ∀ y ∈ scope.names, y.2 = .free → ∃ c, X.env.cells.lookup y.1 = some c)
    (h : ∀ (f c' : Addr) (H1 : Hp) (s' : Shared), Inv X pins σ H1 s' → ExtN H H1 → (∀ b, H1 b = none → H b = none) → Tabs T H1 → H f = none → H1 f = some (LamO f ⟨q, params, body, scope, cloFrom X.env.cells scope.names [], c', dV⟩) → H1 c' = some (CodeO c' q) → Q (.ref f) s') :
    wpAny (model X.prog X.w) X.A (makeTail "<lambda>" q params (.expr body) scope X.env dV .none none pos pos.line) Q E s := by
  obtain ⟨ps, hP, ht, ha⟩ := hT _ hm
  have bP : s.heap.BuiltinsAt X.mg P := TB.bm.keeps I.bk
  have hP' : s.heap.get? P = some { cls := .none, data := .fields ps } := I.hok P _ hP
  have un : ∀ {K : Hp} {a b : Addr} {o : HO}, upd K a o b = none → K b = none := fun {K a b o} z => by
    unfold upd at z
    split at z
    · cases z
    · exact z
  cases hc : codeAmong pos ps.toList with
  | none =>
    refine PySem.W.kdv_makeTail (mg := X.mg) (c := c) (P := P) (ps := ps) (closure_ok hfree) I.ok.glob (I.mod.glob.keeps I.bk) hcode (TB.code.keeps I.bk) hP' ht hc TB.gP bP fun c' ctv doc h' tk hx hge hlt hrec htb => ?_
    obtain ⟨c2, oc, vs, t, e2, hoc, hd, hv⟩ := hrec
    cases e2
    have nC : H c' = none := I.hok.fresh hge
    have I1 := inv_table (t' := tk) (more := #[rawInt pos.line, rawInt pos.col, .ref c']) (h' := h') I hP (fun b o hb z => hx b o hb z) htb hge ⟨oc, vs, t, hoc, hd, hv⟩
    have hE : ExtN H (upd (upd H P (.tbl (ps ++ #[rawInt pos.line, rawInt pos.col, .ref c']))) c' (CodeO c' q)) := fun b o z n => by
      rw [upd_ne (ne_of_none z nC), upd_ne (fun w => n ps (Option.some.inj (z.symm.trans (by rw [w]; exact hP))))]
      exact z
    have eL : (ps ++ #[rawInt pos.line, rawInt pos.col, .ref c']).toList = ps.toList ++ [rawInt pos.line, rawInt pos.col, .ref c'] := by simp
    have T1 : Tabs T (upd (upd H P (.tbl (ps ++ #[rawInt pos.line, rawInt pos.col, .ref c']))) c' (CodeO c' q)) := fun p hp => by
      by_cases hb : p.1 = P
      · rw [hu p hp hb, hb]
        refine ⟨_, by rw [upd_ne (ne_of_none hP nC), upd_same], by rw [eL]; exact PySem.TriplesOk_snoc _ _ _ _ ht, fun p' cv hcv => ?_⟩
        rw [eL] at hcv
        rcases among_app _ ht hcv with z | z
        · obtain ⟨c0, e1, e2⟩ := ha p' cv z
          exact ⟨c0, e1, hE _ _ e2 codeO_ne⟩
        · exact ⟨c', z, upd_same⟩
      · obtain ⟨ps', a1, a2, a3⟩ := hT p hp
        refine ⟨ps', by rw [upd_ne (ne_of_none a1 nC), upd_ne hb]; exact a1, a2, fun p' cv hcv => ?_⟩
        obtain ⟨c0, e1, e2⟩ := a3 p' cv hcv
        exact ⟨c0, e1, hE _ _ e2 codeO_ne⟩
    have nF := I1.hok.fresh (Nat.le_refl _)
    have I2 := inv_lam (F := ⟨q, params, body, scope, cloFrom X.env.cells scope.names [], c', dV⟩) (tk := tk) (doc := doc) (pm := (X.mg "__name__").getD .none) (ctv := ctv) I1 rfl
    refine h h'.objs.size c' _ _ I2 (fun b o z n => ?_) (fun b z => un (un (un z))) (fun p hp => (T1 p hp).ext fun b o z => ?_) (I.hok.fresh (Nat.le_trans hge (Nat.le_of_lt hlt))) upd_same ?_
    · have e1 := hE b o z n
      exact (upd_ne (ne_of_none e1 nF)).trans e1
    · exact (upd_ne (ne_of_none z nF)).trans z
    · exact (upd_ne (Nat.ne_of_lt hlt)).trans upd_same
  | some cv =>
    obtain ⟨c', e, hco⟩ := ha pos cv hc
    subst e
    refine PySem.W.kdv_makeTailHit (mg := X.mg) (c := c) (P := P) (ps := ps) (closure_ok hfree) I.ok.glob (I.mod.glob.keeps I.bk) hcode (TB.code.keeps I.bk) hP' ht hc bP fun ctv doc h' tk hx hsz => ?_
    have I1 : Inv X pins σ H { s with heap := h', toks := tk } := I.kept fun b o z => hx b o z
    have nF := I1.hok.fresh (Nat.le_refl _)
    have I2 := inv_lam (F := ⟨q, params, body, scope, cloFrom X.env.cells scope.names [], c', dV⟩) (tk := tk) (doc := doc) (pm := (X.mg "__name__").getD .none) (ctv := ctv) I1 rfl
    have keep : ∀ b o, H b = some o → upd H h'.objs.size (LamO h'.objs.size ⟨q, params, body, scope, cloFrom X.env.cells scope.names [], c', dV⟩) b = some o := fun b o z => (upd_ne (ne_of_none z nF)).trans z
    exact h h'.objs.size c' _ _ I2 (fun b o z _ => keep b o z) (fun b z => un z) (fun p hp => (hT p hp).ext keep) (I.hok.fresh hsz) upd_same (keep _ _ hco)
/-- what a lambda captures stands in its maker -/
def lamFreeB (sc scope : Scope) : Bool := scope.names.all fun y => !decide (y.2 = .free) || decide (sc.names.lookup y.1 = some .cell) || decide (sc.names.lookup y.1 = some .free)
theorem lamFree {scope : Scope} (ok : X.Ok) (h : lamFreeB X.env.scope scope = true) : ∀ y ∈ scope.names, y.2 = .free → ∃ c, X.env.cells.lookup y.1 = some c := fun y hy e => by
  unfold lamFreeB at h
  have z := List.all_eq_true.mp h y hy
  simp only [e, Bool.or_eq_true, decide_eq_true_eq, decide_true, Bool.not_true, Bool.false_eq_true, false_or] at z
  rcases z with k | k
  · exact ok.has _ (.inl k)
  · exact ok.has _ (.inr k)
/-- lambda: body -/
def tLam0 (T : List (Addr × Str)) (q : Str) (params : Arguments) (body : Expr) (scope : Scope) (cl : List (Str × Addr)) : TE := fun _ H Q => Tabs T H ∧ ∀ (H1 : Hp) (f c : Addr), ExtN H H1 → (∀ b, H1 b = none → H b = none) → Tabs T H1 → H f = none →
  H1 f = some (LamO f ⟨q, params, body, scope, cl, c, .none⟩) → H1 c = some (CodeO c q) → Q (.ref f) H1
theorem pe_lam0 {T : List (Addr × Str)} {c P : Addr} {params : Arguments} {body : Expr} {scope : Scope} {pos : Pos} (TB : TabB X.base X.mg c P) (hcode : X.env.code = .ref c) (hm : (P, X.env.qual ++ "<lambda>") ∈ T) (hu : ∀ p ∈ T, p.1 = P → p.2 = X.env.qual ++ "<lambda>")
    (hdef : params.defaults = []) (hk0 : params.kw_defaults = []) (hfr : lamFreeB X.env.scope scope = true) :
    PE X (.Lambda params body scope pos) (tLam0 T (X.env.qual ++ "<lambda>") params body scope (cloFrom X.env.cells scope.names [])) := by
  refine ⟨fun pins s σ H Q I h => ?_⟩
  obtain ⟨hT, h⟩ := h
  refine PySem.W.kla_eval (by rw [defaultsOf_eq, hdef, hk0]; rfl) ?_
  rw [makeFunction_eq]
  simp only [List.zip_nil_right, List.filterMap_nil, List.isEmpty_nil, if_true, pure_bind]
  exact lam_tail I TB hcode hm hu hT (lamFree I.ok hfr) fun f c' H1 s' J e1 e2 e3 e4 e5 e6 => ⟨.ref f, H1, J, rfl, h H1 f c' e1 e2 e3 e4 e5 e6⟩
/-- lambda a=e: body -/
def tLam1 (T : List (Addr × Str)) (v : V) (q : Str) (params : Arguments) (body : Expr) (scope : Scope) (cl : List (Str × Addr)) : TE := fun _ H Q => Tabs T H ∧ ∀ (H1 : Hp) (f c d : Addr), ExtN H H1 → (∀ b, H1 b = none → H b = none) → Tabs T H1 → H f = none →
  H1 f = some (LamO f ⟨q, params, body, scope, cl, c, .ref d⟩) → H1 c = some (CodeO c q) → H1 d = some (.tup [v]) → Q (.ref f) H1
theorem pe_lam1 {T : List (Addr × Str)} {c P : Addr} {params : Arguments} {body e : Expr} {v : V} {scope : Scope} {pos : Pos} (TB : TabB X.base X.mg c P) (hcode : X.env.code = .ref c) (hm : (P, X.env.qual ++ "<lambda>") ∈ T) (hu : ∀ p ∈ T, p.1 = P → p.2 = X.env.qual ++ "<lambda>")
    (hdef : params.defaults = [e]) (he : PE X e (tC v)) (hk0 : params.kw_defaults = []) (hfr : lamFreeB X.env.scope scope = true) :
    PE X (.Lambda params body scope pos) (tLam1 T v (X.env.qual ++ "<lambda>") params body scope (cloFrom X.env.cells scope.names [])) := by
  refine ⟨fun pins s σ H Q I h => ?_⟩
  obtain ⟨hT, h⟩ := h
  refine PySem.W.kdv_lam (by rw [hdef]; rfl) hk0 ?_
  rw [hdef]
  refine PySem.W.kdv_all1 (thn (he.run pins s σ H (fun x H' => x = v ∧ H' = H) I ⟨rfl, rfl⟩) fun u s1 ⟨x, H', I1, r, ex, eH⟩ => PySem.W.kdv_all0 ?_)
  subst ex
  subst eH
  rw [makeFunction_eq]
  simp only [List.zip_nil_right, List.filterMap_nil, List.isEmpty_nil, if_true, pure_bind, List.isEmpty_cons, Bool.false_eq_true, if_false]
  refine wpAny_bind (wpAny_newTextTuple ?_)
  have nD : H' s1.heap.objs.size = none := I1.hok.fresh (Nat.le_refl _)
  have I2 : Inv X pins σ (upd H' s1.heap.objs.size (.tup [x])) { s1 with heap := s1.heap.push { cls := .type "tuple", data := .seq [u].toArray } } :=
    I1.laid (t' := s1.toks) (a := s1.heap.objs.size) (fun b o z => Heap.get?_push_of_some _ z) (Nat.le_refl _) ⟨by show 1 ≤ sizeLine; decide, [u], .cons r .nil, _, Heap.get?_push_size _ rfl, rfl, _, rfl⟩
  have keep : ∀ b o, H' b = some o → upd H' s1.heap.objs.size (.tup [x]) b = some o := fun b o z => (upd_ne (ne_of_none z nD)).trans z
  have un : ∀ b, upd H' s1.heap.objs.size (.tup [x]) b = none → H' b = none := fun b z => by
    unfold upd at z
    split at z
    · cases z
    · exact z
  refine lam_tail I2 TB hcode hm hu (fun p hp => (hT p hp).ext keep) (lamFree I2.ok hfr) fun f c' H1 s' J e1 e2 e3 e4 e5 e6 => ?_
  exact ⟨.ref f, H1, J, rfl, h H1 f c' s1.heap.objs.size (fun b o z n => e1 b o (keep b o z) n) (fun b z => un b (e2 b z)) e3 (un f e4) e5 e6 (e1 _ _ upd_same fun ps z => by cases z)⟩
end
/-! ### cells that are known to the object -/
/-- a cell's object, known as it is -/
def cellH (o : Obj) : HO := .frz o (.ext fun _ => True)
/-- the cell at c holds v -/
def CellIn (H : Hp) (c : Addr) (v : V) : Prop := ∃ (o : Obj) (u : Value), H c = some (cellH o) ∧ o.data = .cell (some u) ∧ RelV v u
theorem CellIn.same {H H' : Hp} {c : Addr} {v : V} (h : CellIn H c v) (e : ∀ o, H c = some o → H' c = some o) : CellIn H' c v := let ⟨o, u, h1, h2⟩ := h; ⟨o, u, e _ h1, h2⟩
theorem CellIn.ext {H H' : Hp} {c : Addr} {v : V} (h : CellIn H c v) (e : ExtN H H') : CellIn H' c v := let ⟨o, u, h1, h2⟩ := h; ⟨o, u, e _ _ h1 (fun ps z => by unfold cellH at z; cases z), h2⟩
theorem CellIn.at {P : Program} {w : World} {H : Hp} {h : Heap} {c : Addr} {v : V} (z : CellIn H c v) (ok : HOk P w H h) : ∃ u, RelV v u ∧ h.IsCell c (some u) := by
  obtain ⟨o, u, h1, h2, h3⟩ := z
  obtain ⟨e, _⟩ := ok c _ h1
  exact ⟨u, h3, o, e, h2⟩
/-- H without what stands at cs; H' with what H has there -/
def hide (cs : List Addr) (H : Hp) : Hp := fun b => if b ∈ cs then none else H b
def unhide (cs : List Addr) (H H' : Hp) : Hp := fun b => if b ∈ cs then H b else H' b
theorem hide_in {cs : List Addr} {H : Hp} {b : Addr} (h : b ∈ cs) : hide cs H b = none := if_pos h
theorem hide_out {cs : List Addr} {H : Hp} {b : Addr} (h : b ∉ cs) : hide cs H b = H b := if_neg h
theorem unhide_in {cs : List Addr} {H H' : Hp} {b : Addr} (h : b ∈ cs) : unhide cs H H' b = H b := if_pos h
theorem unhide_out {cs : List Addr} {H H' : Hp} {b : Addr} (h : b ∉ cs) : unhide cs H H' b = H' b := if_neg h
section
variable {P : Program} {w : World} {K : PySem.W.Frag} {mg : Str → Option Value} {base : Heap} {A : Around} {outer : List Env} {s : Shared} {H : Hp} {cs : List Addr}
/-- cells alone may be hidden -/
def CellsAt (H : Hp) (cs : List Addr) : Prop := ∀ c ∈ cs, ∃ v, CellIn H c v
theorem CellsAt.kind (h : CellsAt H cs) {c : Addr} (hc : c ∈ cs) : ∃ o, H c = some (cellH o) := let ⟨_, o, _, h1, _⟩ := h c hc; ⟨o, h1⟩
theorem hok_hide {h : Heap} (ok : HOk P w H h) (hc : CellsAt H cs) : HOk P w (hide cs H) h := fun b o e => by
  by_cases hb : b ∈ cs
  · rw [hide_in hb] at e
    cases e
  · rw [hide_out hb] at e
    refine (ok b o e).stay (fun c u _ z => z) (fun c z => ?_) fun c xs z => ?_
    · rw [hide_out (fun y => by
        obtain ⟨o', e'⟩ := hc.kind y
        rw [e'] at z
        cases z)]
      exact z
    · rw [hide_out (fun y => by
        obtain ⟨o', e'⟩ := hc.kind y
        rw [e'] at z
        cases z)]
      exact z
theorem env_hide (e0 : Env0 P w K mg base A outer s H) (hc : CellsAt H cs) : Env0 P w K mg base A outer s (hide cs H) :=
  ⟨e0.frames, e0.mod, fun b o z => ⟨(e0.bs b o z).1, by
    unfold hide
    split
    · rfl
    · exact (e0.bs b o z).2⟩, e0.bsz, e0.funs, fun b hb => by
    unfold hide
    split
    · rfl
    · exact e0.frf b hb, hok_hide e0.hok hc, e0.bare⟩
/-- the cells stand again -/
theorem hok_unhide {H' : Hp} {h h' : Heap} (ok : HOk P w H h) (ok' : HOk P w H' h') (hc : CellsAt H cs) (hn : ∀ c ∈ cs, H' c = none) (hk : ∀ c ∈ cs, ∀ o, h.get? c = some o → h'.get? c = some o) : HOk P w (unhide cs H H') h' := fun b o e => by
  by_cases hb : b ∈ cs
  · rw [unhide_in hb] at e
    obtain ⟨o1, e1⟩ := hc.kind hb
    rw [e1] at e
    cases e
    obtain ⟨z1, z2, z3, z4⟩ := ok b _ e1
    exact ⟨hk b hb _ z1, True.intro, ⟨_, hk b hb _ z1⟩, fun _ _ _ _ => True.intro⟩
  · rw [unhide_out hb] at e
    refine (ok' b o e).stay (fun c u _ z => z) (fun c z => ?_) fun c xs z => ?_
    · rw [unhide_out (fun y => by rw [hn c y] at z; cases z)]
      exact z
    · rw [unhide_out (fun y => by rw [hn c y] at z; cases z)]
      exact z
end


/-! ### a lambda called -/
open LamX (CodeO)
structure LamOk (F : LW) (N : List Str) : Prop where
  kind : F.scope.kind = .function
  co : F.scope.isCoroutine = false
  gen : F.scope.isGenerator = false
  own : ∀ y ∈ F.scope.names, y.2 ≠ .cell ∧ (y.2 = .local → y.1 ∉ N)
  has : ∀ y ∈ F.scope.names, y.2 = .free → ∃ c, F.cl.lookup y.1 = some c
  inj : ∀ x y c, F.cl.lookup x = some c → F.cl.lookup y = some c → x = y
abbrev lamE (F : LW) (L f : Addr) : Env := PySem.W.envX F.qual F.scope L f (.ref F.c) F.cl
/-- the context of a lambda's expression, entered at s from the frames outer -/
abbrev lamX (P : Program) (w : World) (K : PySem.W.Frag) (mg : Str → Option Value) (base : Heap) (N : List Str) (A : Around) (outer : List Env) (s : Shared) (H : Hp) (E : XK) (F : LW) (f : Addr) : Cx where
  prog := P
  w := w
  K := K
  mg := mg
  base := base
  A := A.deeper (lamE F s.heap.objs.size f)
  N := N
  s_0 := s
  H_0 := H
  env := lamE F s.heap.objs.size f
  outer := outer
  stack := lamE F s.heap.objs.size f :: outer
  ex := []
  fn := fun _ => false
  calm := true
  pn := []
  xe := fun e s' => wpAny (model P w) (A.deeper (lamE F s.heap.objs.size f)) (leaving (lamE F s.heap.objs.size f) e) (fun _ s2 => L2N.CX P w outer H s E e s2) (fun e2 s2 => L2N.CX P w outer H s E e2 s2) s'
section
variable {P : Program} {w : World} {K : PySem.W.Frag} {mg : Str → Option Value} {base : Heap} {A : Around} {outer : List Env} {s : Shared} {H : Hp}
theorem lam_enter {F : LW} {N : List Str} {σ : L2.St} {f : Addr} {E : XK} {binds : List (Str × Value)} {h₁ : Heap} {tk : Nat} (L : LamOk F N) (e0 : Env0 P w K mg base A outer s H) (hd : A.handled = none) (hlen : σ.length = N.length)
    (cells : ∀ x c, F.cl.lookup x = some c → H c = none ∧ ∃ v, s.heap.IsCell c v)
    (vals : ∀ (i : Nat) x v, N[i]? = some x → σ[i]? = some (some v) → F.scope.names.lookup x = some .free → ∃ u c, RelV v u ∧ F.cl.lookup x = some c ∧ s.heap.IsCell c (some u))
    (hns : h₁.Ns s.heap.objs.size fun y => binds.reverse.lookup y) (kp : ∀ b o, s.heap.get? b = some o → h₁.get? b = some o) :
    Inv (lamX P w K mg base N A outer s H E F f) [] σ H { s with heap := h₁, toks := tk } := by
  have noA : ∀ b : Addr, b ∉ (lamX P w K mg base N A outer s H E F f).ex := fun b z => absurd (show b ∈ ([] : List Addr) from z) (by simp)
  refine ⟨⟨e0.mod, L.kind, rfl, rfl, Nat.le_refl _, fun y z c e1 e2 => L.inj y z c e1 e2, fun y hy => ?_, fun y c z _ => ?_, fun _ => hd, Around.frames_deeper e0.frames, .inr ⟨rfl, rfl⟩, fun b z => absurd z (noA b), e0.bs, e0.bsz, fun b _ _ => noA b,
      fun b z => absurd z (noA b), e0.funs, e0.frf⟩,
    rfl, e0.bare, Un.kept kp, ⟨_, hns, fun i y v e1 e2 e3 => ?_⟩, fun y c e => ?_, e0.hok.fresh (Nat.le_refl _), fun y c e => (cells y c e).1, fun q hq => absurd (show q ∈ ([] : List (Addr × Obj)) ++ [] from hq) (by simp), e0.hok.kept kp, hlen⟩
  · have hy : F.scope.names.lookup y = some .cell ∨ F.scope.names.lookup y = some .free := hy
    rcases hy with hy | hy
    · exact absurd rfl (L.own _ (PySem.mem_of_lookup hy)).1
    · exact L.has _ (PySem.mem_of_lookup hy) rfl
  · have z : false = true := z
    cases z
  · have e3 : Vis F.scope y := e3
    rcases e3 with k | k | k
    · exact absurd (List.mem_of_getElem? e1) ((L.own _ (PySem.mem_of_lookup k)).2 rfl)
    · exact absurd rfl (L.own _ (PySem.mem_of_lookup k)).1
    · obtain ⟨u, c, r, e4, o, ho, hd⟩ := vals i y v e1 e2 k
      exact ⟨u, r, .inr ⟨.inr k, c, e4, o, kp _ _ ho, hd⟩⟩
  · obtain ⟨_, v, o, ho, hd⟩ := cells y c e
    exact ⟨v, o, kp _ _ ho, hd⟩
/-- f(), f a lambda whose cells are known to the object -/
theorem lam_run {F : LW} {N : List Str} {σ : L2.St} {f : Addr} {E : XK} {Q : VK} {k : Nat} {te : TE} {binds : List (Str × Value)} (e0 : Env0 P w K mg base A outer s H) (hr : Room (k + 1) A) (hf : H f = some (LamO f F)) (hc : H F.c = some (CodeO F.c F.qual)) (L : LamOk F N) (hlen : σ.length = N.length)
    (cells : ∀ x c, (x, c) ∈ F.cl → ∃ v, CellIn H c v)
    (vals : ∀ (i : Nat) x v, N[i]? = some x → σ[i]? = some (some v) → F.scope.names.lookup x = some .free → ∃ c, F.cl.lookup x = some c ∧ CellIn H c v)
    (hb : ∀ doc pm ctv : Value, BindsTo s (F.fd doc pm ctv) ⟨[], []⟩ binds) (hbl : ∀ y ∈ binds, F.scope.names.lookup y.1 = some .local)
    (hbody : PE (lamX P w K mg base N A outer s (hide (F.cl.map (·.2)) H) (fun cls d H' => (∀ c ∈ F.cl.map (·.2), H' c = none) → E cls d (unhide (F.cl.map (·.2)) H H')) F f) F.body te)
    (ht : te σ (hide (F.cl.map (·.2)) H) fun v H' => (∀ c ∈ F.cl.map (·.2), H' c = none) → Q v (unhide (F.cl.map (·.2)) H H')) :
    codeAny (model P w) A (.call (.ref f) ⟨[], []⟩) (CR (L2N.CX P w) outer P w H s Q E) s := by
  generalize hcs : F.cl.map (·.2) = cs at hbody ht
  have CA : CellsAt H cs := fun c hm => by
    rw [← hcs] at hm
    obtain ⟨p, hp, e⟩ := List.mem_map.mp hm
    rw [← e]
    exact cells p.1 p.2 hp
  have mem : ∀ {x c}, F.cl.lookup x = some c → c ∈ cs := fun {x c} e => by
    rw [← hcs]
    exact List.mem_map.mpr ⟨(x, c), PySem.mem_of_lookup e, rfl⟩
  have e1 := env_hide e0 CA
  have obj : ∀ c ∈ cs, ∃ o, s.heap.get? c = some o := fun c hm => by
    obtain ⟨o, e⟩ := CA.kind hm
    obtain ⟨z, _⟩ := e0.hok c _ e
    exact ⟨o, z⟩
  have nfr : ∀ c ∈ cs, c ∉ frs outer := fun c hm z => by
    obtain ⟨o, e⟩ := CA.kind hm
    rw [e0.frf c z] at e
    cases e
  have hid : ∀ {b}, H b = none → hide cs H b = none := fun {b} n => by
    unfold hide
    split
    · rfl
    · exact n
  have notC : ∀ {b}, H b = none → b ∉ cs := fun {b} n hm => by
    obtain ⟨o, e⟩ := CA.kind hm
    rw [n] at e
    cases e
  have notT : ∀ {b xs}, H b = some (.tup xs) → b ∉ cs := fun {b xs} n hm => by
    obtain ⟨o, e⟩ := CA.kind hm
    rw [n] at e
    cases e
  have notB : ∀ {b ps}, H b = some (.tbl ps) → b ∉ cs := fun {b xs} n hm => by
    obtain ⟨o, e⟩ := CA.kind hm
    rw [n] at e
    cases e
  obtain ⟨doc, pm, ctv, of⟩ := lamO_at e0.hok hf
  have lim : s.heap.NoLimit := e0.mod.nolimit.keeps fun b o z => (e0.bs b o z).1
  refine PySem.W.kla_callFunE hr.depth of rfl L.co L.gen rfl (codeO_at e0.hok hc) (hb doc pm ctv _ _ _ _ ?_)
  refine wpAny_newFunctionEnv (fun y hy => (L.own y hy).1) hbl (fun h₁ hns hsb => ⟨lim.fresh _ hsb, ?_⟩) L.kind
  show codeAny _ _ (.expr F.body (lamE F s.heap.objs.size f)) _ _
  have kp : ∀ b o, s.heap.get? b = some o → h₁.get? b = some o := fun b o z => hsb.extBut b o (Nat.ne_of_lt (Heap.lt_size z)) (Heap.get?_push_of_some _ z)
  have J := lam_enter (E := fun cls d H' => (∀ c ∈ cs, H' c = none) → E cls d (unhide cs H H')) (f := f) (tk := s.toks + binds.length) L e1 hr.hd hlen (fun x c e => ⟨hide_in (mem e), by
      obtain ⟨v, z⟩ := cells x c (PySem.mem_of_lookup e)
      obtain ⟨u, _, z2⟩ := z.at e0.hok
      exact ⟨_, z2⟩⟩) (fun i x v a1 a2 a3 => by
      obtain ⟨c, e, z⟩ := vals i x v a1 a2 a3
      obtain ⟨u, r, z2⟩ := z.at e0.hok
      exact ⟨u, c, r, e, z2⟩) hns kp
  refine PySem.W.kla_codeExpr (wpAny_mono (hbody.run [] _ σ _ _ J ht) (fun u s' hq => ?_) fun e s' hq => ?_)
  · obtain ⟨v, H', J', rv, q⟩ := hq
    have un : Un (frs outer) [] (hide cs H) H' s.heap s'.heap := J'.base
    have hn : ∀ c ∈ cs, H' c = none := fun c hm => by
      obtain ⟨o, z⟩ := obj c hm
      exact un.free c o z (hide_in hm) (by simp)
    refine ⟨v, unhide cs H H', J'.os, J'.bare, ⟨fun b o z n h1 h2 => un.keep b o z (hid n) h1 h2, fun b o z n h1 h2 => un.slot b o z (hid n) h1 h2, fun b o z n h2 => ?_, un.there, fun b xs z => ?_, fun b o x z => ?_, fun b ps z => ?_⟩,
      hok_unhide e0.hok J'.hok CA hn fun c hm o z => un.keep c o z (hide_in hm) (nfr c hm) (by simp), rv, q hn⟩
    · rw [unhide_out (notC n)]
      exact un.free b o z (hid n) h2
    · rw [unhide_out (notT z)]
      exact un.tups b xs (by rw [hide_out (notT z)]; exact z)
    · by_cases hm : b ∈ cs
      · rw [unhide_in hm]
        exact z
      · rw [unhide_out hm]
        exact un.frzs b o x (by rw [hide_out hm]; exact z)
    · rw [unhide_out (notB z)]
      exact un.tbls b ps (by rw [hide_out (notB z)]; exact z)
  · refine wpAny_mono hq (fun _ s2 z => ?_) fun e2 s2 z => ?_
    all_goals
      obtain ⟨a, B, H', cls, d, rfl, fl, hok, ub, na, os, ag, hE⟩ := z
      have hn : ∀ c ∈ cs, H' c = none := fun c hm => by
        obtain ⟨o, z⟩ := obj c hm
        exact ub.free c o z (hide_in hm)
      have kB : ∀ c ∈ cs, ∀ o, s.heap.get? c = some o → B.get? c = some o := fun c hm o z => ub.keep c o z (hide_in hm) (nfr c hm)
      have nac : a ∉ cs := fun hm => by
        obtain ⟨o, z⟩ := obj a hm
        have y := kB a hm o z
        rw [fl.2.1] at y
        cases y
      refine ⟨a, B, unhide cs H H', cls, d, rfl, fl, hok_unhide e0.hok hok CA hn kB, ⟨fun b o z n h1 => ub.keep b o z (hid n) h1, ub.slot, fun b o z n => ?_, ub.there, fun b xs z => ?_, fun b o x z => ?_, fun b ps z => ?_⟩, ?_, os, ag, hE hn⟩
      · rw [unhide_out (notC n)]
        exact ub.free b o z (hid n)
      · rw [unhide_out (notT z)]
        exact ub.tups b xs (by rw [hide_out (notT z)]; exact z)
      · by_cases hm : b ∈ cs
        · rw [unhide_in hm]
          exact z
        · rw [unhide_out hm]
          exact ub.frzs b o x (by rw [hide_out hm]; exact z)
      · rw [unhide_out (notB z)]
        exact ub.tbls b ps (by rw [hide_out (notB z)]; exact z)
      · rw [unhide_out nac]
        exact na
end
/-- what is known of the call of f, wherever it is called from the heap H -/
def Acts (P : Program) (w : World) (K : PySem.W.Frag) (mg : Str → Option Value) (base : Heap) (k : Nat) (H : Hp) (f : Addr) (tl : XK → VK → Prop) : Prop :=
  (∃ F, H f = some (LamO f F)) ∧ ∀ (A : Around) (outer : List Env) (s : Shared) (Q : VK) (E : XK), Room k A → Env0 P w K mg base A outer s H → tl E Q →
    codeAny (model P w) A (.call (.ref f) ⟨[], []⟩) (CR (L2N.CX P w) outer P w H s Q E) s
def tAct (P : Program) (w : World) (K : PySem.W.Frag) (mg : Str → Option Value) (base : Heap) (k i : Nat) (W : WX) : TE := fun σ H Q => ∃ f tl, σ[i]? = some (some (V.ref f)) ∧ Acts P w K mg base k H f tl ∧ tl (WE W σ) Q
/-- x(), x a lambda -/
theorem pe_act0 {Y : Cx} {W : WX} {k i : Nat} {a : Str} {p1 p2 : Pos} (tk : L2N.Takes Y W) (hr : Room k Y.A) (hN : Y.N[i]? = some a := by rfl) (hv : Vis Y.env.scope a := by first | exact Or.inl rfl | exact Or.inr (Or.inl rfl))
    (hd : (a == ("__debug__" : Str)) = false := by decide) (hcd : (a == ("__classdict__" : Str)) = false := by decide) : PE Y (.Call (.Name a p1) [] [] p2) (tAct Y.prog Y.w Y.K Y.mg Y.base k i W) := by
  refine ⟨fun pins s σ H Q I h => ?_⟩
  obtain ⟨f, tl, hi, ⟨⟨F, hF⟩, act⟩, ht⟩ := h
  refine wpAny_Call_Name_kw (thn ((pe_var (pos := p1) (i := i) hN hv hd hcd).run pins s σ H (fun v H1 => v = .ref f ∧ H1 = H) I ⟨.ref f, hi, rfl, rfl⟩) fun u s1 ⟨v, H1, I1, r1, ev, eH⟩ => ?_)
  subst ev
  subst eH
  obtain rfl : u = Value.ref f := r1
  obtain ⟨doc, pm, ctv, of⟩ := lamO_at I1.hok hF
  refine PySem.W.callWith_F0 ⟨_, _, _, _, of⟩ ?_
  refine wpAny_call (codeAny_mono (act Y.A Y.stack s1 Q (WE W σ) hr I1.env0 ht) fun r s2 hq => ?_)
  cases r with
  | error e => exact L2N.passAt tk σ pins _ s1 e s2 I1 hq
  | ok fl =>
    cases fl with
    | ret u => exact I1.after hq
    | next => exact False.elim hq
    | brk => exact False.elim hq
    | cont => exact False.elim hq
/-! ### a lambda of a def whose cells were made at its entry -/
theorem clo_lookup {cells : List (Str × Addr)} {names : List (Str × NameKind)} {y : Str} {c : Addr} (h : (cloFrom cells names []).lookup y = some c) (hf : ∀ z ∈ names, z.2 = .free → ∃ c, cells.lookup z.1 = some c) : (y, NameKind.free) ∈ names ∧ cells.lookup y = some c := by
  rcases cloFrom_mem (PySem.mem_of_lookup h) with z | ⟨z, e⟩
  · cases z
  · obtain ⟨c1, h1⟩ := hf _ z rfl
    have h1 : cells.lookup y = some c1 := h1
    refine ⟨z, ?_⟩
    rw [e, h1]
    rfl
theorem clo_mem {cells : List (Str × Addr)} {names : List (Str × NameKind)} {y : Str} {c : Addr} (h : (y, c) ∈ cloFrom cells names []) (hf : ∀ z ∈ names, z.2 = .free → ∃ c, cells.lookup z.1 = some c) : (y, NameKind.free) ∈ names ∧ cells.lookup y = some c := by
  rcases cloFrom_mem h with z | ⟨z, e⟩
  · cases z
  · obtain ⟨c1, h1⟩ := hf _ z rfl
    have h1 : cells.lookup y = some c1 := h1
    refine ⟨z, ?_⟩
    rw [e, h1]
    rfl
theorem clo_has {cells : List (Str × Addr)} {names : List (Str × NameKind)} {y : Str} (h : (y, NameKind.free) ∈ names) (hf : ∀ z ∈ names, z.2 = .free → ∃ c, cells.lookup z.1 = some c) : ∃ c, (cloFrom cells names []).lookup y = some c ∧ cells.lookup y = some c := by
  obtain ⟨c, e⟩ := mem_lookup (cloFrom_has (cells := cells) (acc := []) h)
  exact ⟨c, e, (clo_lookup e hf).2⟩
/-- N: the maker's names, mk: its scope's, names: the lambda's -/
def lamOkB (N : List Str) (mk : List (Str × NameKind)) (sc : Scope) : Bool :=
  decide (sc.kind = .function) && !sc.isCoroutine && !sc.isGenerator && sc.names.all fun y => !decide (y.2 = .cell) && (!decide (y.2 = .local) || !decide (y.1 ∈ N)) && (!decide (y.2 = .free) || decide (mk.lookup y.1 = some .cell))
theorem lamOk_by {N : List Str} {mk : List (Str × NameKind)} {q : Str} {params : Arguments} {body : Expr} {sc : Scope} {c : Addr} {dV : Value} {n : Nat} {cells : List (Str × Addr)} (hcl : cells = cellsFrom (n + 1) mk []) (h : lamOkB N mk sc = true) :
    LamOk ⟨q, params, body, sc, cloFrom cells sc.names [], c, dV⟩ N ∧ ∀ z ∈ sc.names, z.2 = .free → ∃ c, cells.lookup z.1 = some c := by
  unfold lamOkB at h
  simp only [Bool.and_eq_true, Bool.or_eq_true, Bool.not_eq_true', decide_eq_true_eq, decide_eq_false_iff_not, List.all_eq_true] at h
  obtain ⟨⟨⟨h1, h2⟩, h3⟩, h4⟩ := h
  have hf : ∀ z ∈ sc.names, z.2 = .free → ∃ c, cells.lookup z.1 = some c := fun z hz e => by
    rcases (h4 z hz).2 with k | k
    · exact absurd e k
    · rw [hcl]
      exact Option.isSome_iff_exists.mp (PySem.W.cellsFrom_some mk (n + 1) [] (.inl k))
  refine ⟨⟨h1, h2, h3, fun y hy => ⟨(h4 y hy).1.1, fun e => ?_⟩, fun y hy e => ?_, fun x y c e1 e2 => ?_⟩, hf⟩
  · rcases (h4 y hy).1.2 with k | k
    · exact absurd e k
    · exact k
  · have hm : (y.1, NameKind.free) ∈ sc.names := by rw [← e]; exact hy
    obtain ⟨c, h5, _⟩ := clo_has (cells := cells) hm hf
    exact ⟨c, h5⟩
  · obtain ⟨_, k1⟩ := clo_lookup e1 hf
    obtain ⟨_, k2⟩ := clo_lookup e2 hf
    rw [hcl] at k1 k2
    have hs : ∃ g : Heap, g.objs.size = n + 1 := ⟨{ objs := Array.replicate (n + 1) default }, by simp⟩
    obtain ⟨g, hg⟩ := hs
    rw [← hg] at k1 k2
    exact cells_inj (h := g) (acc := []) (fun p hp => absurd hp (by simp)) (fun x y c a => absurd a (by simp)) (PySem.mem_of_lookup k1) (PySem.mem_of_lookup k2)


/-! ### a frame's cells known to the object for a while -/
def adopt (cs : List (Addr × Obj)) (H : Hp) : Hp := fun b => match cs.lookup b with
  | some o => some (cellH o)
  | none => H b
def unadopt (cs : List (Addr × Obj)) (G : Hp) : Hp := fun b => match cs.lookup b with
  | some _ => none
  | none => G b
theorem adopt_in {cs : List (Addr × Obj)} {H : Hp} {b : Addr} {o : Obj} (h : cs.lookup b = some o) : adopt cs H b = some (cellH o) := by
  unfold adopt
  rw [h]
theorem adopt_out {cs : List (Addr × Obj)} {H : Hp} {b : Addr} (h : cs.lookup b = none) : adopt cs H b = H b := by
  unfold adopt
  rw [h]
theorem unadopt_in {cs : List (Addr × Obj)} {H : Hp} {b : Addr} {o : Obj} (h : cs.lookup b = some o) : unadopt cs H b = none := by
  unfold unadopt
  rw [h]
theorem unadopt_out {cs : List (Addr × Obj)} {H : Hp} {b : Addr} (h : cs.lookup b = none) : unadopt cs H b = H b := by
  unfold unadopt
  rw [h]
structure CellsOf (cells : List (Str × Addr)) (N : List Str) (σ : L2.St) (ns : List Str) (H : Hp) (cs : List (Addr × Obj)) : Prop where
  free : ∀ b o, cs.lookup b = some o → H b = none
  val : ∀ (x : Str) (i : Nat) (v : V) (c : Addr), x ∈ ns → N[i]? = some x → σ[i]? = some (some v) → cells.lookup x = some c → ∃ (o : Obj) (u : Value), cs.lookup c = some o ∧ o.data = .cell (some u) ∧ RelV v u
theorem CellsOf.same {cells : List (Str × Addr)} {N ns : List Str} {σ : L2.St} {H : Hp} {cs : List (Addr × Obj)} (C : CellsOf cells N σ ns H cs) : Same H (adopt cs H) := fun b o e => by
  cases z : cs.lookup b with
  | none => rw [adopt_out z]; exact e
  | some u => rw [C.free b u z] at e; cases e
/-- what stood ahead stands behind -/
theorem CellsOf.back {cells : List (Str × Addr)} {N ns : List Str} {σ : L2.St} {H G : Hp} {cs : List (Addr × Obj)} (C : CellsOf cells N σ ns H cs) (e : Same (adopt cs H) G) : Same H (unadopt cs G) := fun b o h => by
  cases z : cs.lookup b with
  | none => rw [unadopt_out z]; exact e b o (by rw [adopt_out z]; exact h)
  | some u => rw [C.free b u z] at h; cases h
theorem CellsOf.at {cells : List (Str × Addr)} {N ns : List Str} {σ : L2.St} {H G : Hp} {cs : List (Addr × Obj)} (C : CellsOf cells N σ ns H cs) (e : ∀ b o, cs.lookup b = some o → G b = some (cellH o)) {x : Str} {i : Nat} {v : V} {c : Addr} (h1 : x ∈ ns) (h2 : N[i]? = some x) (h3 : σ[i]? = some (some v)) (h4 : cells.lookup x = some c) : CellIn G c v := by
  obtain ⟨o, u, a1, a2, a3⟩ := C.val x i v c h1 h2 h3 h4
  exact ⟨o, u, e _ _ a1, a2, a3⟩
theorem CellsOf.at0 {cells : List (Str × Addr)} {N ns : List Str} {σ : L2.St} {H : Hp} {cs : List (Addr × Obj)} (C : CellsOf cells N σ ns H cs) {x : Str} {i : Nat} {v : V} {c : Addr} (h1 : x ∈ ns) (h2 : N[i]? = some x) (h3 : σ[i]? = some (some v)) (h4 : cells.lookup x = some c) : CellIn (adopt cs H) c v :=
  C.at (fun _ _ z => adopt_in z) h1 h2 h3 h4
section
variable {X : Cx} {pins : List (Addr × Obj)} {σ : L2.St} {H G : Hp} {s s' : Shared} {ns : List Str} {cs : List (Addr × Obj)}
/-- the frame's cells, as they stand -/
structure Mine (X : Cx) (s : Shared) (ns : List Str) (H : Hp) (cs : List (Addr × Obj)) : Prop where
  free : ∀ b o, cs.lookup b = some o → H b = none
  obj : ∀ b o, cs.lookup b = some o → s.heap.get? b = some o
  cell : ∀ b o, cs.lookup b = some o → ∃ x, x ∈ ns ∧ X.env.cells.lookup x = some b
theorem mine_of (I : Inv X pins σ H s) (hns : ∀ x ∈ ns, X.env.scope.names.lookup x = some .cell) : ∃ cs, CellsOf X.env.cells X.N σ ns H cs ∧ Mine X s ns H cs := by
  suffices key : ∀ l : List Str, (∀ x ∈ l, x ∈ ns) → ∃ cs : List (Addr × Obj), (∀ b o, cs.lookup b = some o → s.heap.get? b = some o ∧ ∃ x, x ∈ ns ∧ X.env.cells.lookup x = some b) ∧ ∀ x ∈ l, ∀ c, X.env.cells.lookup x = some c → ∃ o, cs.lookup c = some o by
    obtain ⟨cs, h1, h2⟩ := key ns fun _ h => h
    have fr : ∀ b o, cs.lookup b = some o → H b = none := fun b o e => by
      obtain ⟨_, x, _, z⟩ := h1 b o e
      exact I.freeC x b z
    refine ⟨cs, ⟨fr, fun x i v c hx e1 e2 e3 => ?_⟩, ⟨fr, fun b o e => (h1 b o e).1, fun b o e => (h1 b o e).2⟩⟩
    obtain ⟨o, e⟩ := h2 x hx c e3
    obtain ⟨m, hn, hl⟩ := I.loc
    obtain ⟨u, r, q⟩ := hl i x v e1 e2 (.inr (.inl (hns x hx)))
    rcases q with ⟨k, _⟩ | ⟨_, c', e4, o', z1, z2⟩
    · have k : X.env.scope.names.lookup x = some .local := k
      rw [hns x hx] at k
      cases k
    · rw [e3] at e4
      cases e4
      rw [(h1 c o e).1] at z1
      cases z1
      exact ⟨o, u, e, z2, r⟩
  intro l
  induction l with
  | nil => exact fun _ => ⟨[], fun b o e => by simp at e, fun x hx => absurd hx (by simp)⟩
  | cons x l ih =>
    intro hl
    obtain ⟨cs, h1, h2⟩ := ih fun y hy => hl y (List.mem_cons_of_mem _ hy)
    obtain ⟨c, hc⟩ := I.ok.has x (.inl (hns x (hl x List.mem_cons_self)))
    obtain ⟨v, o, ho, hd⟩ := I.cell x c hc
    refine ⟨(c, o) :: cs, fun b o' e => ?_, fun y hy c' e => ?_⟩
    · rw [List.lookup_cons] at e
      by_cases hb : b = c
      · subst hb
        rw [beq_self_eq_true] at e
        cases e
        exact ⟨ho, x, hl x List.mem_cons_self, hc⟩
      · rw [beq_false_of_ne hb] at e
        exact h1 b o' e
    · rw [List.lookup_cons]
      by_cases hb : c' = c
      · subst hb
        rw [beq_self_eq_true]
        exact ⟨o, rfl⟩
      · rw [beq_false_of_ne hb]
        rcases List.mem_cons.mp hy with z | z
        · rw [z, hc] at e
          exact absurd (Option.some.inj e).symm hb
        · exact h2 y z c' e
theorem hok_adopt (ok : HOk X.prog X.w H s.heap) (M : Mine X s ns H cs) : HOk X.prog X.w (adopt cs H) s.heap := fun b o e => by
  cases z : cs.lookup b with
  | some u =>
    rw [adopt_in z] at e
    cases e
    exact ⟨M.obj b u z, True.intro, ⟨u, M.obj b u z⟩, fun _ _ _ _ => True.intro⟩
  | none =>
    rw [adopt_out z] at e
    refine (ok b o e).stay (fun c u _ q => q) (fun c q => ?_) fun c xs q => ?_
    · rw [adopt_out]
      · exact q
      · cases y : cs.lookup c with
        | none => rfl
        | some u => rw [M.free c u y] at q; cases q
    · rw [adopt_out]
      · exact q
      · cases y : cs.lookup c with
        | none => rfl
        | some u => rw [M.free c u y] at q; cases q
theorem Mine.above (M : Mine X s ns H cs) (I : Inv X pins σ H s) (hfn : ∀ x, X.fn x = true) {b : Addr} {o : Obj} (e : cs.lookup b = some o) : X.s_0.heap.objs.size ≤ b := by
  obtain ⟨x, _, z⟩ := M.cell b o e
  exact I.ok.cab x b (hfn x) z
theorem Mine.nobase (M : Mine X s ns H cs) (I : Inv X pins σ H s) (hfn : ∀ x, X.fn x = true) {b : Addr} {o : Obj} (e : X.base.get? b = some o) : cs.lookup b = none := by
  cases y : cs.lookup b with
  | none => rfl
  | some u => exact absurd (Nat.lt_of_lt_of_le (Heap.lt_size e) (Nat.le_trans I.ok.bsz (M.above I hfn y))) (Nat.lt_irrefl _)
theorem Mine.nofr (M : Mine X s ns H cs) (I : Inv X pins σ H s) (hfn : ∀ x, X.fn x = true) {b : Addr} (hb : b ∈ frs X.stack) : cs.lookup b = none := by
  cases y : cs.lookup b with
  | none => rfl
  | some u =>
    rcases List.mem_cons.mp (I.stkSub b hb) with z | z
    · obtain ⟨x, _, q⟩ := M.cell b u y
      exact absurd z (I.cne x b q)
    · obtain ⟨_, o, ho, _⟩ := I.ok.funs.mem z
      exact absurd (Nat.lt_of_lt_of_le (Heap.lt_size ho) (M.above I hfn y)) (Nat.lt_irrefl _)
theorem env_adopt (M : Mine X s ns H cs) (I : Inv X pins σ H s) (hfn : ∀ x, X.fn x = true) : Env0 X.prog X.w X.K X.mg X.base X.A X.stack s (adopt cs H) :=
  ⟨I.env0.frames, I.env0.mod, fun b o e => ⟨(I.env0.bs b o e).1, by rw [adopt_out (M.nobase I hfn e)]; exact (I.env0.bs b o e).2⟩, I.env0.bsz, I.env0.funs,
    fun b hb => by rw [adopt_out (M.nofr I hfn hb)]; exact I.env0.frf b hb, hok_adopt I.hok M, I.bare⟩
/-- behind: the cells are the frame's own again -/
theorem un_unadopt {fs ex : List Addr} {h' : Heap} (M : Mine X s ns H cs) (ok : HOk X.prog X.w (adopt cs H) s.heap) (un : Un fs ex (adopt cs H) G s.heap h') (ok' : HOk X.prog X.w G h') : Un fs ex H (unadopt cs G) s.heap h' ∧ HOk X.prog X.w (unadopt cs G) h' := by
  have frz : ∀ {b o}, cs.lookup b = some o → G b = some (cellH o) := fun {b o} e => un.frzs b o _ (adopt_in e)
  have obj : ∀ {b o}, cs.lookup b = some o → h'.get? b = some o := fun {b o} e => (ok' b _ (frz e)).1
  have not : ∀ {b u}, H b = some u → cs.lookup b = none := fun {b u} e => by
    cases y : cs.lookup b with
    | none => rfl
    | some o => rw [M.free b o y] at e; cases e
  refine ⟨⟨fun b o e n h1 h2 => ?_, fun b o e n h1 h2 => ?_, fun b o e n h2 => ?_, un.there, fun b xs e => ?_, fun b o x e => ?_, fun b ps e => ?_⟩, fun b o e => ?_⟩
  · cases y : cs.lookup b with
    | none => exact un.keep b o e (by rw [adopt_out y]; exact n) h1 h2
    | some u =>
      have z := M.obj b u y
      rw [e] at z
      cases z
      exact obj y
  · cases y : cs.lookup b with
    | none => exact un.slot b o e (by rw [adopt_out y]; exact n) h1 h2
    | some u =>
      have z := M.obj b u y
      rw [e] at z
      cases z
      exact ⟨o.slots, obj y⟩
  · cases y : cs.lookup b with
    | none =>
      rw [unadopt_out y]
      exact un.free b o e (by rw [adopt_out y]; exact n) h2
    | some u => exact unadopt_in y
  · rw [unadopt_out (not e)]
    exact un.tups b xs (by rw [adopt_out (not e)]; exact e)
  · rw [unadopt_out (not e)]
    exact un.frzs b o x (by rw [adopt_out (not e)]; exact e)
  · rw [unadopt_out (not e)]
    exact un.tbls b ps (by rw [adopt_out (not e)]; exact e)
  · cases y : cs.lookup b with
    | some u =>
      rw [unadopt_in y] at e
      cases e
    | none =>
      rw [unadopt_out y] at e
      refine (ok' b o e).stay (fun c u _ q => q) (fun c q => ?_) fun c xs q => ?_
      · rw [unadopt_out]
        · exact q
        · cases z : cs.lookup c with
          | none => rfl
          | some u => rw [frz z] at q; cases q
      · rw [unadopt_out]
        · exact q
        · cases z : cs.lookup c with
          | none => rfl
          | some u => rw [frz z] at q; cases q
end
/-- f(e, ..): the cells of the names ns known while it runs -/
def tCallC (cells : List (Str × Addr)) (N ns : List Str) (sp : Sp) (t : TA) : TE := fun σ H Q => t σ H fun vs H1 => ∀ cs, CellsOf cells N σ ns H1 cs → sp vs (adopt cs H1) (fun v G => Q v (unadopt cs G)) E0
section
variable {X : Cx}
theorem pe_callC {k : Nat} {f : Addr} {fd : FuncData} {ps ns : List Str} {sp : Sp} {x : Str} {e : Expr} {es : List Expr} {t : TA} {p pos : Pos} (F : FnOk X.prog X.w X.K X.mg X.base CX0 k f fd ps sp) (hr : Room k X.A) (hg : Gl X x) (hm : X.mg x = some (.ref f)) (hk : PySem.W.keepIn X.K (.ref f) = true) (hb : Binds X.K fd ps [])
    (hns : ∀ x ∈ ns, X.env.scope.names.lookup x = some .cell) (hfn : ∀ x, X.fn x = true) (ha : PA X (e :: es) t)
    (hdb : (x == ("__debug__" : Str)) = false := by decide) (he : starEach (e :: es) X.env = (false, eval e X.env) :: starEach es X.env := by rfl) (hpl : (backTo pos (starEach es X.env)).any (·.1) = false := by rfl) :
    PE X (.Call (.Name x p) (e :: es) [] pos) (tCallC X.env.cells X.N ns sp t) := by
  refine ⟨fun pins s σ H Q I h => ?_⟩
  refine wpAny_Call_Name_kw (ld_glob I hg hm ?_ hdb)
  refine PySem.W.callWith_K (h₀ := X.base) I.ok.mod.kin hk (thn (ha.run pos pins s σ H _ I h) fun us s1 ⟨vs, H1, I1, r, q⟩ => ⟨I1.kIn, ?_⟩) he hpl
  obtain ⟨cs, C, M⟩ := mine_of (ns := ns) I1 hns
  have q := q cs C
  have hl : us.length = ps.length := by rw [← r.length]; exact F.len _ _ _ _ q
  have bb := hb s1 us I1.kIn (by rw [List.append_nil]; exact hl)
  rw [List.append_nil] at bb
  refine wpAny_call (codeAny_mono (F.run X.A X.stack s1 _ ⟨us, []⟩ us vs _ _ hr (env_adopt M I1 hfn) bb r q) fun r s2 hq => ?_)
  cases r with
  | error e => exact False.elim hq
  | ok fl =>
    cases fl with
    | ret u =>
      obtain ⟨v, G, os, bare, un, ok', rv, z⟩ := hq
      obtain ⟨un', ok2⟩ := un_unadopt M (hok_adopt I1.hok M) un ok'
      exact ⟨v, _, I1.call' (ch := []) os un' ok2 bare (fun b hb => absurd hb (by simp)), rv, z⟩
    | next => exact False.elim hq
    | brk => exact False.elim hq
    | cont => exact False.elim hq
/-- [elt for y in l if test], the test false at each item; the cells of the names ns known meanwhile; i0: y's slot -/
def tLcN (cells : List (Str × Addr)) (N ns : List Str) (tl : TE) (i0 : Nat) (tt : TT) (vs : List Nat) : TE := fun σ H Q => tl σ H fun v H1 => ∃ (a : Addr) (xs : List V), v = .ref a ∧ H1 a = some (.lst xs) ∧
  ∀ D, H1 D = none → ∀ cs, CellsOf cells N σ ns (upd H1 D (.lst [])) cs → ∃ W : Nat → Hp → Prop, W 0 (adopt cs (upd H1 D (.lst []))) ∧ (∀ i G, W i G → G a = some (.lst xs)) ∧
    (∀ i x G, xs[i]? = some x → W i G → tt ((wipe σ vs).set i0 (some x)) G fun b G' => b = false ∧ W (i + 1) G') ∧ ∀ G, W xs.length G → Q (.ref D) (unadopt cs G)
theorem pe_lcN {elt iter test : Expr} {scope : Scope} {own : List (Str × Nat)} {y : Str} {py pos : Pos} {tl : TE} {tt : TT} {i0 : Nat} {ns : List Str} (hc : X.calm = true) (hN : X.N.Nodup) (hl : PE X iter tl) (ok : BlkOk X.N X.env.scope scope own) (hown : i0 ∈ own.map (·.2))
    (hns : ∀ x ∈ ns, X.env.scope.names.lookup x = some .cell) (hfn : ∀ x, X.fn x = true) (hdis : ∀ x ∈ ns, (x, NameKind.free) ∉ scope.names)
    (hg : ∀ (s : Shared) (H : Hp) (C : Addr) (cl : List (Str × Addr)) (fp : List Addr), PG (X.blk s H scope (compEnvC scope cl C X.env) fp) (.Name y py) (gName i0))
    (ht : ∀ (s : Shared) (H : Hp) (C : Addr) (cl : List (Str × Addr)) (fp : List Addr), PTs (X.blk s H scope (compEnvC scope cl C X.env) fp) [test] tt)
    (hs : ∀ x, foldedSetIterable iter X.env x = pure x := by intro _; rfl) :
    PE X (.ListComp elt [⟨.Name y py, iter, [test], 0⟩] scope pos) (tLcN X.env.cells X.N ns tl i0 tt (own.map (·.2))) := by
  refine ⟨fun pins s σ H Q I h => ?_⟩
  have hfree : ∀ z ∈ scope.names, z.2 = .free → ∃ c, X.env.cells.lookup z.1 = some c := fun z hz e => by
    rcases ok.free z hz e with k | k
    · exact I.ok.has _ (.inl k)
    · exact I.ok.has _ (.inr k)
  rw [eval_ListComp]
  refine wpAny_comprehension_free (use := none) rfl hs (closure_ok hfree) ok.kind (fun z hz e => by rw [ok.uniq z hz, e])
    (thn (hl.run pins s σ H _ I h) fun v s1 hv => ?_)
  obtain ⟨x, H1, I1, rx, a, xs, e, ea, step⟩ := hv
  subst e
  cases rx
  obtain ⟨its, rv, pl, hz⟩ := I1.list (SqL.of ea)
  refine wpAny_pyIter_list pl.isList ?_
  generalize hit : s1.heap.objs.size = it
  generalize hs2 : ({ s1 with heap := s1.heap.push { cls := .type "list_iterator", data := .fields #[.ref a, .int 0 0] } } : Shared) = s2
  have h2h : s2.heap = s1.heap.push { cls := .type "list_iterator", data := .fields #[.ref a, .int 0 0] } := by rw [← hs2]
  have I2 : Inv X pins σ H1 s2 := by
    rw [← hs2]
    exact I1.kept (t' := s1.toks) fun b o z => Heap.get?_push_of_some _ z
  have fit : FpOk X pins H1 it := I1.fpOk (Nat.le_of_eq hit) (I1.hok.fresh (Nat.le_of_eq hit))
  have itlt : it < s2.heap.objs.size := by
    rw [h2h, Heap.size_push, hit]
    exact Nat.lt_succ_self _
  have st2 : s2.heap.IsListIter it a 0 := by
    rw [h2h, ← hit]
    exact ⟨_, Heap.get?_push_size _ rfl, rfl, rfl⟩
  refine wpAny_newObj_type (newEnv_comp ?_) (by show 0 ≤ sizeLine; decide)
  generalize hD : s2.heap.objs.size = D
  have hDn : H1 D = none := I2.hok.fresh (Nat.le_of_eq hD)
  generalize hs3 : ({ s2 with heap := s2.heap.push { cls := .type "list", data := .seq ([] : List Value).toArray } } : Shared) = s3
  have h3h : s3.heap = s2.heap.push { cls := .type "list", data := .seq ([] : List Value).toArray } := by rw [← hs3]
  have I3 : Inv X pins σ (upd H1 D (.lst [])) s3 := by
    rw [← hs3]
    refine I2.laid (t' := s2.toks) (fun b o z => Heap.get?_push_of_some _ z) (Nat.le_of_eq hD) ⟨Nat.zero_le _, [], 0, .nil, ?_⟩
    rw [← hD]
    exact Heap.get?_push_size _ rfl
  have nitD : it ≠ D := by
    rw [← hD]
    exact Nat.ne_of_lt itlt
  have f3 : ∀ b ∈ [it], FpOk X pins (upd H1 D (.lst [])) b ∧ b < s3.heap.objs.size := fun b hb => by
    have e : b = it := by simpa using hb
    rw [e]
    refine ⟨⟨by rw [upd_ne nitD]; exact fit.1, fit.2⟩, ?_⟩
    rw [h3h, Heap.size_push]
    exact Nat.lt_succ_of_lt itlt
  have st3 : s3.heap.IsListIter it a 0 := by
    rw [h3h]
    obtain ⟨o, z, r⟩ := st2
    exact ⟨o, Heap.get?_push_of_some _ z, r⟩
  obtain ⟨cs, C, M⟩ := mine_of (ns := ns) I3 hns
  obtain ⟨W, w0, wl, turn, qq⟩ := step D hDn cs C
  have J0 := block_start I3 ok hN f3
  generalize hH3 : upd H1 D (.lst []) = H3 at I3 f3 C M J0 w0
  have pg := hg s3 (adopt cs H3) s3.heap.objs.size (cellsFrom (s3.heap.objs.size + 1) scope.names (cloFrom X.env.cells scope.names [])) [it]
  have pt := ht s3 (adopt cs H3) s3.heap.objs.size (cellsFrom (s3.heap.objs.size + 1) scope.names (cloFrom X.env.cells scope.names [])) [it]
  show codeAny _ _ (.compStart (.ListComp elt [⟨.Name y py, iter, [test], 0⟩] scope pos) 0 (.ref it) (.ref D) (compEnvC scope (cellsFrom (s3.heap.objs.size + 1) scope.names (cloFrom X.env.cells scope.names [])) s3.heap.objs.size X.env)) (compPost (model X.prog X.w) X.A X.xe none (EP X pins σ Q) (.ref D) s3.heap.objs.size) { s3 with heap := pushCells (s3.heap.push { cls := .type "dict", data := .dict #[] }) scope.names }
  generalize hce : compEnvC scope (cellsFrom (s3.heap.objs.size + 1) scope.names (cloFrom X.env.cells scope.names [])) s3.heap.objs.size X.env = ce at J0 pg pt ⊢
  have cL : ce.locals = s3.heap.objs.size := by subst hce; rfl
  have ccl : ce.cells = cellsFrom (s3.heap.objs.size + 1) scope.names (cloFrom X.env.cells scope.names []) := by subst hce; rfl
  have kp : ∀ b o, s3.heap.get? b = some o → (pushCells (s3.heap.push { cls := .type "dict", data := .dict #[] }) scope.names).get? b = some o := fun b o z => pushCells_keeps _ _ _ _ (Heap.get?_push_of_some _ z)
  generalize hs4 : ({ s3 with heap := pushCells (s3.heap.push { cls := .type "dict", data := .dict #[] }) scope.names } : Shared) = s4 at J0 ⊢
  have h4 : ∀ b o, s3.heap.get? b = some o → s4.heap.get? b = some o := fun b o z => by rw [← hs4]; exact kp b o z
  have csmall : ∀ {b o}, cs.lookup b = some o → b < s3.heap.objs.size := fun {b o} z => Heap.lt_size (M.obj b o z)
  have big : ∀ {b}, s3.heap.objs.size ≤ b → cs.lookup b = none := fun {b} z => by
    cases q : cs.lookup b with
    | none => rfl
    | some u => exact absurd (Nat.lt_of_lt_of_le (csmall q) z) (Nat.lt_irrefl _)
  have hok3 := hok_adopt I3.hok M
  have J1 : Inv (X.blk s3 (adopt cs H3) scope ce [it]) [] (wipe σ (own.map (·.2))) (adopt cs H3) s4 := by
    refine ⟨⟨J0.ok.mod, J0.ok.kind, J0.ok.glob, J0.ok.blt, J0.ok.above, J0.ok.inj, J0.ok.has, J0.ok.cab, J0.ok.hd, J0.ok.frames, J0.ok.stk, J0.ok.exf, fun b o z => ⟨(J0.ok.bs b o z).1, ?_⟩, J0.ok.bsz, J0.ok.noex, J0.ok.exfs, J0.ok.funs, fun b z => ?_⟩,
      J0.os, J0.bare, Un.kept h4, J0.loc, J0.cell, ?_, fun y c z => ?_, fun p hp => absurd (show p ∈ ([] : List (Addr × Obj)) ++ [] from hp) (by simp), hok3.kept h4, J0.len⟩
    · show adopt cs H3 b = none
      rw [adopt_out (M.nobase I3 hfn z)]
      exact (J0.ok.bs b o z).2
    · show adopt cs H3 b = none
      rw [adopt_out (M.nofr I3 hfn z)]
      exact J0.ok.frf b z
    · show adopt cs H3 ce.locals = none
      rw [adopt_out (big (by rw [cL]; exact Nat.le_refl _))]
      exact J0.free
    · have z : ce.cells.lookup y = some c := z
      rw [adopt_out]
      · exact J0.freeC y c z
      · cases q : cs.lookup c with
        | none => rfl
        | some u =>
          obtain ⟨x, hx, ex⟩ := M.cell c u q
          rw [ccl, ← Heap.size_push s3.heap { cls := .type "dict", data := .dict #[] }] at z
          rcases cells_mem (PySem.mem_of_lookup z) with hm | ⟨_, h2, _⟩
          · obtain ⟨m1, m2⟩ := clo_mem hm hfree
            have exy := I3.ok.inj x y c ex m2
            rw [← exy] at m1
            exact absurd m1 (hdis x hx)
          · have h2 : (s3.heap.push { cls := .type "dict", data := .dict #[] }).objs.size ≤ c := h2
            rw [Heap.size_push] at h2
            exact absurd (Nat.lt_of_lt_of_le (csmall q) (Nat.le_of_succ_le h2)) (Nat.lt_irrefl _)
  have fpB : ∀ {σ' : L2.St} {H' : Hp} {s' : Shared}, Inv (X.blk s3 (adopt cs H3) scope ce [it]) [] σ' H' s' → H' it = none → FpOk (X.blk s3 (adopt cs H3) scope ce [it]) [] H' it := fun {σ' H' s'} J hn =>
    have hm : it ∈ (X.blk s3 (adopt cs H3) scope ce [it]).ex := List.mem_singleton.mpr rfl
    ⟨hn, (J.ok.exf it hm).1, J.ok.exfs it hm, .inl hm, fun x c z => (J.ok.exf it hm).2 x c z, fun p hp => absurd (show p ∈ ([] : List (Addr × Obj)) ++ [] from hp) (by simp)⟩
  have nit0 : adopt cs H3 it = none := by
    rw [adopt_out]
    · exact (f3 it (List.mem_singleton.mpr rfl)).1.1
    · cases q : cs.lookup it with
      | none => rfl
      | some u =>
        obtain ⟨x, _, ex⟩ := M.cell it u q
        exact absurd rfl ((f3 it (List.mem_singleton.mpr rfl)).1.2.2.2.2.1 x it ex)
  have loop : codeAny (model X.prog X.w) X.A (.compLoop (.ListComp elt [⟨.Name y py, iter, [test], 0⟩] scope pos) 0 (.ref it) (.ref D) ce) (compPost (model X.prog X.w) X.A X.xe none (EP X pins σ Q) (.ref D) s3.heap.objs.size) s4 := by
    refine compLoop_any (fun n s' => ∃ i G, i + n = xs.length ∧ Inv (X.blk s3 (adopt cs H3) scope ce [it]) [] (wipe σ (own.map (·.2))) G s' ∧ G it = none ∧ W i G ∧ s'.heap.IsListIter it a i) ?_ xs.length ⟨0, adopt cs H3, by omega, J1, nit0, w0, ?_⟩
    · rintro n s5 ⟨i, G5, hin, J5, n5, w5, st5⟩
      obtain ⟨its5, rv5, pl5, hz5⟩ := J5.list (SqL.of (wl i G5 w5))
      obtain ⟨f0, f1, f2, f3', f4, f5⟩ := fpB J5 n5
      by_cases hi : i < xs.length
      · obtain ⟨xv, hxv⟩ : ∃ xv, xs[i]? = some xv := ⟨xs[i], List.getElem?_eq_getElem hi⟩
        obtain ⟨u, hu, ru⟩ := rv5.get hxv
        refine wpAny_pyNext_list_item st5 pl5.isList (x := u) (by simpa using hu) fun h' st' sb => ?_
        have J6 : Inv (X.blk s3 (adopt cs H3) scope ce [it]) [] (wipe σ (own.map (·.2))) G5 { s5 with heap := h' } :=
          J5.turned (t' := s5.toks) (fun b o hb z => (sb.2 b hb).trans z) f0 f1 f3' f4 f5
        obtain ⟨o6, z6, c6, d6⟩ := id st'
        refine go_of (s := { s5 with heap := h' }) z6 c6 d6 (by decide) ?_
        have J7 := J6.pinned (fp := [it]) (fun b hb => by
          have e : b = it := by simpa using hb
          rw [e]
          exact fpB J6 n5) (fun b hb => by
          have e : b = it := by simpa using hb
          rw [e]
          exact ⟨o6, z6, fun v z => by rw [d6] at z; cases z⟩)
        refine thnF (pg.run _ _ _ _ xv u (fun σ2 H2 => σ2 = (wipe σ (own.map (·.2))).set i0 (some xv) ∧ H2 = G5) J7 ru ⟨rfl, rfl⟩) fun _ s8 ⟨σ8, H8, J8, eσ, eH⟩ => ?_
        subst eσ
        subst eH
        refine thnF (pt.run _ s8 _ _ _ J8 (turn i xv H8 hxv w5)) fun b s9 ⟨H9, J9, eb, w9⟩ => ?_
        subst eb
        have pin' := J9.pin (it, o6) (List.mem_append_right _ (List.mem_append_right _ (mem_pinsAt (List.mem_singleton.mpr rfl) z6)))
        show if false = true then _ else _
        rw [if_neg Bool.false_ne_true]
        refine ⟨n - 1, by omega, i + 1, H9, by omega, J9.unpinned.weak (by rw [List.length_set]) (fun j v e => ?_), pin'.2.1, w9, ⟨o6, pin'.1, c6, d6⟩⟩
        by_cases hj : j = i0
        · rw [hj] at e
          exact absurd hown (wipe_some e).2
        · rw [List.getElem?_set_ne (Ne.symm hj)]
          exact e
      · have hie : i = xs.length := by omega
        have hl5 := rv5.length
        refine wpAny_pyNext_list_end (J5.ok.hd hc) st5 pl5.isList (by simp; omega) fun h' eb => ?_
        have J6 : Inv (X.blk s3 (adopt cs H3) scope ce [it]) [] (wipe σ (own.map (·.2))) G5 { s5 with heap := h' } :=
          J5.turned (t' := s5.toks) (fun b o hb z => eb b o hb z) f0 f1 f3' f4 f5
        rw [hie] at w5
        obtain ⟨un', ok2⟩ := un_unadopt M hok3 J6.base J6.hok
        have I7 : Inv X pins σ (unadopt cs G5) { s5 with heap := h' } := I3.call' (ch := [it]) J6.os un' ok2 J6.bare fun b hb => by
          have q := f3 b hb
          exact ⟨q.1.2.2.2.1, q.1.2.1, q.1.2.2.2.2.1, q.1.2.2.2.2.2⟩
        obtain ⟨m, hn, _⟩ := J6.loc
        have hn : Heap.Ns h' ce.locals m := hn
        rw [cL] at hn
        have nC : unadopt cs G5 s3.heap.objs.size = none := by
          rw [unadopt_out (big (Nat.le_refl _))]
          have z : G5 ce.locals = none := J6.free
          rw [cL] at z
          exact z
        obtain ⟨q0, q1, q2, q3, q4, q5⟩ := I3.fpOk (Nat.le_refl _) nC
        exact ⟨m, hn, fun h'' sb => ⟨.ref D, _, I7.turned (t' := s5.toks) (fun b o hb z => (sb.2 b hb).trans z) q0 q1 q3 q4 q5, rfl, qq G5 w5⟩⟩
    · obtain ⟨o, z, r⟩ := st3
      exact ⟨o, h4 _ _ z, r⟩
  refine codeAny_compStart_list loop (wpAny_pyIter_listiter (it := it) (l := a) (i := 0) ?_ loop)
  obtain ⟨o, z, r⟩ := st3
  exact ⟨o, h4 _ _ z, r⟩
end


/-! ### defs, once more -/
open LamX (CodeO Tabs TabB ExtN)
/-- around a body nothing is let out -/
theorem takesN0 {X : Cx} : L2N.Takes X (fun _ _ _ _ => False) := fun _ _ x => by
  obtain ⟨_, _, _, _, _, _, _, _, _, _, _, _, _, _, _, _, z⟩ := x
  exact z.elim
/-- a def whose code object is told -/
structure FunC (K : PySem.W.Frag) (x qual : Str) (st : Stmt) (f : Addr) (fd : FuncData) (c : Addr) : Prop where
  ex : ∃ (oc : Value) (od : Option Addr) (kV doc pm : Value) (an : Option Addr) (ct : Value) (osl : Array (Option Value)),
    fd = PySem.W.fnOf x qual (defArgs st) (defBody st) (defScope st) .none kV doc pm an (.ref c) ct ∧ K.lookup f = some ⟨oc, od, .func fd, osl⟩ ∧ PySem.W.codeIn K (.ref c) qual = true
  kp : PySem.W.keepIn K (.ref f) = true
theorem funC_mk {K : PySem.W.Frag} {x qual : Str} {st : Stmt} {f c : Addr} {oc : Value} {od an : Option Addr} {osl : Array (Option Value)} {kV doc pm ct : Value} (l : K.lookup f = some ⟨oc, od, .func (PySem.W.fnOf x qual (defArgs st) (defBody st) (defScope st) .none kV doc pm an (.ref c) ct), osl⟩)
    (h : PySem.W.codeIn K (.ref c) qual = true) (k : PySem.W.keepIn K (.ref f) = true) : FunC K x qual st f (PySem.W.fnOf x qual (defArgs st) (defBody st) (defScope st) .none kV doc pm an (.ref c) ct) c := ⟨⟨oc, od, kV, doc, pm, an, ct, osl, rfl, l, h⟩, k⟩
theorem FunC.toFun {K : PySem.W.Frag} {x qual : Str} {st : Stmt} {f c : Addr} {fd : FuncData} (F : FunC K x qual st f fd c) : Fun K x qual st f fd := by
  obtain ⟨oc, od, kV, doc, pm, an, ct, osl, e, l, h⟩ := F.ex
  exact ⟨⟨oc, od, kV, doc, pm, an, .ref c, ct, osl, e, l, h⟩, F.kp⟩
/-- a block whose way out by return tells the names' values too -/
abbrev TSA := (V → L2.St → Hp → Prop) → L2.St → Hp → Prop
structure PSsA (X : Cx) (st : List Stmt) (t : TSA) : Prop where
  run : ∀ (pins : List (Addr × Obj)) (s : Shared) (σ : L2.St) (H : Hp) (R : V → L2.St → Hp → Prop), Inv X pins σ H s → t R σ H →
    wpAny (model X.prog X.w) X.A (execs st X.env) (fun f s' => ∃ u, f = .ret u ∧ ∃ v σ' H', Inv X pins σ' H' s' ∧ RelV v u ∧ R v σ' H') X.xe s
def tConsA (t : TS) (u : TSA) : TSA := fun R σ H => t { nx := u R, rt := fun _ _ => False } σ H
theorem pssA_cons {X : Cx} {st : Stmt} {rest : List Stmt} {t : TS} {u : TSA} (h1 : PS X st t) (h2 : PSsA X rest u) : PSsA X (st :: rest) (tConsA t u) := by
  refine ⟨fun pins s σ H R I h => ?_⟩
  refine wpAny_execs_cons (thn (h1.run pins s σ H _ I h) fun f s1 q => ?_)
  cases f with
  | next =>
    obtain ⟨σ', H', J, z⟩ := q
    exact h2.run pins s1 σ' H' R J z
  | ret v =>
    obtain ⟨_, _, _, _, _, z⟩ := q
    exact z.elim
  | brk =>
    obtain ⟨_, _, _, z⟩ := q
    exact z.elim
  | cont =>
    obtain ⟨_, _, _, z⟩ := q
    exact z.elim
def tRetA (te : TE) : TSA := fun R σ H => te σ H fun v H' => R v σ H'
theorem pssA_ret {X : Cx} {e : Expr} {te : TE} {pos : Pos} (he : PE X e te) : PSsA X [.Return (some e) pos] (tRetA te) := by
  refine ⟨fun pins s σ H R I h => ?_⟩
  exact wpAny_execs_cons (wpAny_Return_some (thn (he.run pins s σ H _ I h) fun u s1 ⟨v, H1, I1, r, q⟩ => ⟨u, rfl, v, σ, H1, I1, r, q⟩))
section
variable {P : Program} {w : World} {K : PySem.W.Frag} {mg : Str → Option Value} {base : Heap}
theorem FunC.ok {x qual : Str} {st : Stmt} {f c : Addr} {fd : FuncData} {N ps : List Str} {k : Nat} {sp : Sp} (F : FunC K x qual st f fd c) (S : FnScope N ps (defScope st)) (len : ∀ vs H Q E, sp vs H Q E → vs.length = ps.length)
    (hbody : ∀ (A : Around) (outer : List Env) (s : Shared) (H : Hp) (vs : List V) (Q : VK) (E : XK), Room k (A.deeper (envOfC qual (defScope st) s.heap.objs.size f (.ref c))) → sp vs H Q E →
      ∃ t, PSs (cxOf CX0 P w K mg base N qual (defScope st) f (.ref c) A outer s H E).nox (defBody st) t ∧ t { nx := fun _ H' => Q .non H', rt := Q } (L2.start N vs) H) : FnOk P w K mg base CX0 (k + 1) f fd ps sp := by
  obtain ⟨oc, od, kV, doc, pm, an, ct, osl, rfl, lk, hcd⟩ := F.ex
  refine fn_of lk hcd S len fun A outer s H vs Q E hr hsp => ?_
  obtain ⟨t, h, q⟩ := hbody A outer s H vs Q E hr hsp
  exact ⟨t, h.nox, q⟩
/-- a def whose cells are known to the object behind it -/
theorem FunC.okA {x qual : Str} {st : Stmt} {f c : Addr} {fd : FuncData} {N ps ns : List Str} {k : Nat} {sp : Sp} (F : FunC K x qual st f fd c) (S : FnScope N ps (defScope st)) (len : ∀ vs H Q E, sp vs H Q E → vs.length = ps.length) (hns : ∀ x ∈ ns, (defScope st).names.lookup x = some .cell)
    (hbody : ∀ (A : Around) (outer : List Env) (s : Shared) (H : Hp) (vs : List V) (Q : VK) (E : XK), Room k (A.deeper (envOfC qual (defScope st) s.heap.objs.size f (.ref c))) → sp vs H Q E →
      ∃ t, PSsA (cxOf CX0 P w K mg base N qual (defScope st) f (.ref c) A outer s H E) (defBody st) t ∧ t (fun v σ' H' => ∀ cs, CellsOf (cellsFrom (s.heap.objs.size + 1) (defScope st).names []) N σ' ns H' cs → Q v (adopt cs H')) (L2.start N vs) H) : FnOk P w K mg base CX0 (k + 1) f fd ps sp := by
  obtain ⟨oc, od, kV, doc, pm, an, ct, osl, rfl, lk, hcd⟩ := F.ex
  refine ⟨len, fun A outer s H args us vs Q E hr e0 hb r hsp => ?_⟩
  have hl := len _ _ _ _ hsp
  have KX : K.In s.heap := e0.mod.kin.keeps fun b o e => (e0.bs b o e).1
  have lim : s.heap.NoLimit := e0.mod.nolimit.keeps fun b o e => (e0.bs b o e).1
  have hkd : ∀ y ∈ ps.zip us, (defScope st).names.lookup y.1 = some .local ∨ ((defScope st).names.lookup y.1 = some .cell ∧ ((cellsFrom (s.heap.objs.size + 1) (defScope st).names []).lookup y.1).isSome = true) := fun ⟨n, v⟩ hy => by
    rcases S.par n (List.of_mem_zip hy).1 with q | q
    · exact .inl q
    · exact .inr ⟨q, PySem.W.cellsFrom_some _ _ _ (.inl q)⟩
  refine codeAny_call_function hr.depth (KX _ _ lk) rfl S.co S.gen rfl (PySem.W.codeRec_of KX hcd) (hb _ _ _ _ ?_)
  refine wpAny_newFunctionEnv_cells S.kind hkd fun env he s1 x => ?_
  subst he
  refine ⟨lim.keeps x.toInCall.keep, codeAny_func ?_⟩
  obtain ⟨t, ht, hq⟩ := hbody A outer s H vs Q E (hr.deeper _) hsp
  have I : Inv (cxOf CX0 P w K mg base N qual (defScope st) f (.ref c) A outer s H E) [] (L2.start N vs) H s1 := inv_start S hr.hd e0 hl r x
  refine wpAny_mono (ht.run [] s1 (L2.start N vs) H _ I hq) (fun fl s' hs => ?_) fun e s' hs => hs
  obtain ⟨u, rfl, v, σ', H', J, rv, q⟩ := hs
  obtain ⟨cs, C, M⟩ := mine_of (ns := ns) J hns
  have hok' := hok_adopt J.hok M
  have un : Un (frs outer) [] H H' s.heap s'.heap := J.base
  have not : ∀ {b o}, s.heap.get? b = some o → cs.lookup b = none := fun {b o} e => by
    cases y : cs.lookup b with
    | none => rfl
    | some o2 => exact absurd (Nat.lt_of_lt_of_le (Heap.lt_size e) (M.above J (fun _ => rfl) y)) (Nat.lt_irrefl _)
  have nt : ∀ {b o}, H' b = some o → cs.lookup b = none := fun {b o} e => by
    cases y : cs.lookup b with
    | none => rfl
    | some o2 => rw [M.free b o2 y] at e; cases e
  refine ⟨v, adopt cs H', J.os, J.bare, ⟨un.keep, un.slot, fun b o e n hx => ?_, un.there, fun b xs e => ?_, fun b o y e => ?_, fun b qs e => ?_⟩, hok', rv, q cs C⟩
  · rw [adopt_out (not e)]
    exact un.free b o e n hx
  · have z := un.tups b xs e
    rw [adopt_out (nt z)]
    exact z
  · have z := un.frzs b o y e
    rw [adopt_out (nt z)]
    exact z
  · obtain ⟨more, z⟩ := un.tbls b qs e
    exact ⟨more, by rw [adopt_out (nt z)]; exact z⟩
/-- as Fun.okX, where the context of what is raised is told -/
theorem Fun_okN {x qual : Str} {st : Stmt} {f : Addr} {fd : FuncData} {N ps : List Str} {k : Nat} {sp : Sp} (F : Fun K x qual st f fd) (S : FnScope N ps (defScope st)) (len : ∀ vs H Q E, sp vs H Q E → vs.length = ps.length)
    (hbody : ∀ (cdv : Value) (A : Around) (outer : List Env) (s : Shared) (H : Hp) (vs : List V) (Q : VK) (E : XK), Room k (A.deeper (envOfC qual (defScope st) s.heap.objs.size f cdv)) → sp vs H Q E →
      ∃ t, PSs (cxOf (L2N.CX P w) P w K mg base N qual (defScope st) f cdv A outer s H E) (defBody st) t ∧ t { nx := fun _ H' => Q .non H', rt := Q } (L2.start N vs) H) : FnOk P w K mg base (L2N.CX P w) (k + 1) f fd ps sp := by
  obtain ⟨oc, od, kV, doc, pm, an, cdv, ct, osl, rfl, lk, hcd⟩ := F.ex
  exact fn_of lk hcd S len fun A outer s H vs Q E hr hsp => hbody cdv A outer s H vs Q E hr hsp
/-- a def called while an exception is handled -/
theorem Fun_okH {x qual : Str} {st : Stmt} {f : Addr} {fd : FuncData} {N ps : List Str} {k : Nat} {sp : Sp} (F : Fun K x qual st f fd) (S : FnScope N ps (defScope st)) (len : ∀ vs H Q E, sp vs H Q E → vs.length = ps.length)
    (hbody : ∀ (cdv : Value) (A : Around) (outer : List Env) (s : Shared) (H : Hp) (vs : List V) (Q : VK) (E : XK) (p : Addr × Obj), L2H.Hot1 A p → L2H.RoomH k (A.deeper (envOfC qual (defScope st) s.heap.objs.size f cdv)) → sp vs H Q E →
      ∃ t, PSs (L2H.cxH CX0 P w K mg base N qual (defScope st) f cdv A outer s H E p) (defBody st) t ∧ t { nx := fun _ H' => Q .non H', rt := Q } (L2.start N vs) H) : L2H.FnH P w K mg base CX0 (k + 1) f fd ps sp := by
  obtain ⟨oc, od, kV, doc, pm, an, cdv, ct, osl, rfl, lk, hcd⟩ := F.ex
  exact L2H.fn_ofH lk hcd S len fun A outer s H vs Q E p hot hr hsp => hbody cdv A outer s H vs Q E p hot hr hsp
end


/-- an own class over such a ground, without a field -/
structure NCls (K : PySem.W.Frag) (mg : Str → Option Value) (x : Str) (CT : Addr) where
  C : Addr
  g : mg x = some (.ref C)
  xc : PySem.W.excIn K C [.type "ValueError", .type "Exception", .type "BaseException", .type "object"] "ValueError.__new__" = true
  kp : PySem.W.keepIn K (.ref C) = true
  sb : PySem.W.subIn K (.ref C) (.type "BaseException") = some true
  ty : PySem.W.typeIn K (.ref C) = some (.type "type")
  ec : ExcC K C
  ex : PySem.W.exmOne K (.ref C) (.ref CT) = some true
/-! ### where lambdas stand in a text -/
section
def noE : Expr := .Constant .none 0 ⟨0, 0, 0, 0⟩
def eTest : Stmt → Expr | .If t _ _ _ => t | _ => noE
def eRet : Stmt → Expr | .Return (some e) _ => e | _ => noE
def eVal : Stmt → Expr | .Assign _ e _ => e | .Expr e _ => e | _ => noE
def eBool (i : Nat) : Expr → Expr | .BoolOp _ es _ => es.getD i noE | _ => noE
def eUn : Expr → Expr | .UnaryOp _ e _ => e | _ => noE
def eArg (i : Nat) : Expr → Expr | .Call _ es _ _ => es.getD i noE | _ => noE
def eItem (i : Nat) : Expr → Expr | .List es _ => es.getD i noE | _ => noE
def eRight : Expr → Expr | .BinOp _ _ e _ => e | _ => noE
def lamP : Expr → Arguments | .Lambda p _ _ _ => p | _ => ⟨[], [], none, [], [], none, []⟩
def lamB : Expr → Expr | .Lambda _ b _ _ => b | _ => noE
def lamS : Expr → Scope | .Lambda _ _ s _ => s | _ => { kind := .function, names := [], isGenerator := false, isCoroutine := false }
/-- the lambda e of a maker whose cells are cells -/
abbrev lamOf (e : Expr) (q : Str) (cells : List (Str × Addr)) (c : Addr) (dV : Value) : LW := ⟨q, lamP e, lamB e, lamS e, cloFrom cells (lamS e).names [], c, dV⟩
end


/-! ### what a lambda's call does, by what its cells hold -/
open LamX (CodeO)
theorem hide_at {H : Hp} {cs : List Addr} {b : Addr} {o : HO} (hc : CellsAt H cs) (e : H b = some o) (ne : ∀ u, o ≠ cellH u) : hide cs H b = some o := by
  rw [hide_out (fun hm => by
    obtain ⟨u, z⟩ := hc.kind hm
    rw [e] at z
    exact ne u (Option.some.inj z))]
  exact e
theorem tup_ncell {xs : List V} (u : Obj) : HO.tup xs ≠ cellH u := fun z => by
  unfold cellH at z
  cases z
theorem lst_ncell {xs : List V} (u : Obj) : HO.lst xs ≠ cellH u := fun z => by
  unfold cellH at z
  cases z
def freeIn (sc : Scope) (ks : List Str) : Bool := sc.names.all fun y => !decide (y.2 = .free) || decide (y.1 ∈ ks)
/-- the values that the names hold, as a def's slots -/
def slotsOf (N : List Str) (known : List (Str × V)) : L2.St := N.map fun x => known.lookup x
section
variable {P : Program} {w : World} {K : PySem.W.Frag} {mg : Str → Option Value} {base : Heap}
theorem acts_known {H : Hp} {f c : Addr} {e : Expr} {q : Str} {mk : List (Str × NameKind)} {n k : Nat} {N : List Str} {dV : Value} {tl : XK → VK → Prop} (known : List (Str × V))
    (hf : H f = some (LamO f (lamOf e q (cellsFrom (n + 1) mk []) c dV))) (hc : H c = some (CodeO c q)) (hok : lamOkB N mk (lamS e) = true) (hfree : freeIn (lamS e) (known.map (·.1)) = true)
    (hk : ∀ p ∈ known, ∀ b, (cellsFrom (n + 1) mk []).lookup p.1 = some b → CellIn H b p.2)
    (hb : ∀ s : Shared, HOk P w H s.heap → ∃ binds : List (Str × Value), (∀ y ∈ binds, (lamS e).names.lookup y.1 = some .local) ∧ ∀ doc pm ctv : Value, BindsTo s ((lamOf e q (cellsFrom (n + 1) mk []) c dV).fd doc pm ctv) ⟨[], []⟩ binds)
    (hbody : ∀ (A : Around) (outer : List Env) (s : Shared) (cs : List Addr) (E : XK) (Q : VK), Room k (A.deeper (lamE (lamOf e q (cellsFrom (n + 1) mk []) c dV) s.heap.objs.size f)) → CellsAt H cs → tl E Q →
      ∃ te : TE, PE (lamX P w K mg base N A outer s (hide cs H) (fun cls d H' => (∀ c ∈ cs, H' c = none) → E cls d (unhide cs H H')) (lamOf e q (cellsFrom (n + 1) mk []) c dV) f) (lamB e) te ∧ te (slotsOf N known) (hide cs H) fun v H' => (∀ c ∈ cs, H' c = none) → Q v (unhide cs H H')) :
    Acts P w K mg base (k + 1) H f tl := by
  obtain ⟨L, hfr⟩ := lamOk_by (q := q) (params := lamP e) (body := lamB e) (c := c) (dV := dV) (cells := cellsFrom (n + 1) mk []) rfl hok
  have kn : ∀ {y}, (y, NameKind.free) ∈ (lamS e).names → ∃ v, known.lookup y = some v := fun {y} hm => by
    unfold freeIn at hfree
    have z := List.all_eq_true.mp hfree _ hm
    simp only [decide_true, Bool.not_true, Bool.false_or, decide_eq_true_eq] at z
    obtain ⟨p, hp, rfl⟩ := List.mem_map.mp z
    exact mem_lookup (c := p.2) hp
  have cells : ∀ x b, (x, b) ∈ (lamOf e q (cellsFrom (n + 1) mk []) c dV).cl → ∃ v, CellIn H b v := fun x b hm => by
    obtain ⟨h1, h2⟩ := clo_mem hm hfr
    obtain ⟨v, hv⟩ := kn h1
    exact ⟨v, hk (x, v) (PySem.mem_of_lookup hv) b h2⟩
  refine ⟨⟨_, hf⟩, fun A outer s Q E hr e0 hq => ?_⟩
  obtain ⟨binds, hbl, hbb⟩ := hb s e0.hok
  obtain ⟨te, hte, hq2⟩ := hbody A outer s ((lamOf e q (cellsFrom (n + 1) mk []) c dV).cl.map (·.2)) E Q (hr.deeper _) (fun b hm => by
    obtain ⟨p, hp, rfl⟩ := List.mem_map.mp hm
    exact cells p.1 p.2 hp) hq
  refine lam_run (N := N) (σ := slotsOf N known) (te := te) e0 hr hf hc L (by unfold slotsOf; rw [List.length_map]) cells (fun i x v h1 h2 h3 => ?_) hbb hbl hte hq2
  · unfold slotsOf at h2
    rw [List.getElem?_map, h1] at h2
    have hm : (x, NameKind.free) ∈ (lamS e).names := PySem.mem_of_lookup h3
    obtain ⟨b, e1, e2⟩ := clo_has hm hfr
    exact ⟨b, e1, hk (x, v) (PySem.mem_of_lookup (Option.some.inj h2)) b e2⟩
/-- no defaults -/
theorem binds_none {H : Hp} {F : LW} (h : ∀ doc pm ctv : Value, bindArgs (F.fd doc pm ctv) ⟨[], []⟩ = pure []) : ∀ s : Shared, HOk P w H s.heap → ∃ binds : List (Str × Value), (∀ y ∈ binds, F.scope.names.lookup y.1 = some .local) ∧ ∀ doc pm ctv : Value, BindsTo s (F.fd doc pm ctv) ⟨[], []⟩ binds :=
  fun _ _ => ⟨[], fun _ z => absurd z (by simp), fun doc pm ctv => .of_eq (h doc pm ctv)⟩
/-- one default -/
theorem binds_one {H : Hp} {F : LW} {d : Addr} {v : V} {a : Str} (hd : H d = some (.tup [v])) (hF : F.dV = .ref d) (ha : F.scope.names.lookup a = some .local)
    (h : ∀ doc pm ctv : Value, ∃ k : Option (Array Value) → Sem (List (Str × Value)), bindArgs (F.fd doc pm ctv) ⟨[], []⟩ = seqItems? F.dV >>= k ∧ ∀ u, k (some #[u]) = pure [(a, u)]) :
    ∀ s : Shared, HOk P w H s.heap → ∃ binds : List (Str × Value), (∀ y ∈ binds, F.scope.names.lookup y.1 = some .local) ∧ ∀ doc pm ctv : Value, BindsTo s (F.fd doc pm ctv) ⟨[], []⟩ binds := fun s ok => by
  obtain ⟨_, its, rv, o, ho, hc, n, hdt⟩ := ok d _ hd
  cases rv with
  | @cons _ u _ us r rr =>
    cases rr
    refine ⟨[(a, u)], fun y hy => ?_, fun doc pm ctv => ?_⟩
    · have e : y = (a, u) := by simpa using hy
      rw [e]
      exact ha
    · obtain ⟨k, h1, h2⟩ := h doc pm ctv
      exact BindsTo.of_defaults hF ho hdt h1 (h2 u)
end


/-! ### a list of lambdas that a def makes -/
open LamX (CodeO Tabs ExtN)
structure Works (H0 H : Hp) (T : List (Addr × Str)) (q : Str) (cells : List (Str × Addr)) (p : Addr) (fs : List Addr) (es : List Expr) : Prop where
  lst : H p = some (.lst (fs.map V.ref))
  tabs : Tabs T H
  ext : ExtN H0 H
  new : H0 p = none
  len : fs.length ≤ 20
  few : fs.length = es.length
  mem : ∀ f ∈ fs, ∃ e ∈ es, ∃ c, H f = some (LamO f (lamOf e q cells c .none)) ∧ H c = some (CodeO c q)
theorem lst_ntbl {xs : List V} : ∀ ps : Array Value, HO.lst xs ≠ .tbl ps := fun ps z => by cases z
theorem codeO_ncell {c : Addr} {q : Str} (xs : List V) : CodeO c q ≠ .lst xs := fun z => by
  unfold LamX.CodeO at z
  cases z
theorem lamO_nlst {f : Addr} {F : LW} (xs : List V) : LamO f F ≠ .lst xs := fun z => by
  unfold LamO at z
  cases z
theorem Works.small {H0 H : Hp} {T : List (Addr × Str)} {q : Str} {cells : List (Str × Addr)} {p : Addr} {fs : List Addr} {es : List Expr} (W : Works H0 H T q cells p fs es) : (fs.map V.ref).length < sizeLine := by
  rw [List.length_map]
  exact small1000 (Nat.le_trans W.len (by decide))
theorem Works.lstE {H0 H H1 : Hp} {T : List (Addr × Str)} {q : Str} {cells : List (Str × Addr)} {p : Addr} {fs : List Addr} {es : List Expr} (W : Works H0 H T q cells p fs es) (ext : ExtN H H1) : H1 p = some (.lst (fs.map V.ref)) := ext _ _ W.lst lst_ntbl
theorem Works.first {H0 H1 : Hp} {T : List (Addr × Str)} {q : Str} {cells : List (Str × Addr)} {p f c : Addr} {e : Expr} (ext : ExtN H0 H1) (T1 : Tabs T H1) (ef : H1 f = some (LamO f (lamOf e q cells c .none))) (ec : H1 c = some (CodeO c q)) (hp : H1 p = none) (hn : H0 p = none) :
    Works H0 (upd H1 p (.lst [.ref f])) T q cells p [f] [e] := by
  have sm := Same.new (o := .lst [.ref f]) hp
  refine ⟨upd_same, fun x hx => (T1 x hx).ext sm, ext.trans (ExtN.of sm), hn, (by show 1 ≤ 20; decide), rfl, fun g hg => ?_⟩
  rw [List.mem_singleton.mp hg]
  exact ⟨e, List.mem_cons_self, c, sm _ _ ef, sm _ _ ec⟩
theorem Works.step {H0 H H1 : Hp} {T : List (Addr × Str)} {q : Str} {cells : List (Str × Addr)} {p f c : Addr} {fs : List Addr} {es : List Expr} {e : Expr} (W : Works H0 H T q cells p fs es) (hl : fs.length < 20) (ext : ExtN H H1) (T1 : Tabs T H1)
    (ef : H1 f = some (LamO f (lamOf e q cells c .none))) (ec : H1 c = some (CodeO c q)) : Works H0 (upd H1 p (.lst (fs.map V.ref ++ [.ref f]))) T q cells p (fs ++ [f]) (es ++ [e]) := by
  have ep := W.lstE ext
  have other : ∀ {b o}, H1 b = some o → (∀ xs, o ≠ .lst xs) → upd H1 p (.lst (fs.map V.ref ++ [.ref f])) b = some o := fun {b o} z n => by
    rw [upd_ne (fun e => by
      rw [e, ep] at z
      exact n _ (Option.some.inj z).symm)]
    exact z
  refine ⟨by rw [upd_same, List.map_append]; rfl, fun x hx => ?_, fun b o z n => ?_, W.new, ?_, ?_, fun g hg => ?_⟩
  · obtain ⟨ps, h1, h2, h3⟩ := T1 x hx
    refine ⟨ps, other h1 (fun xs z => by cases z), h2, fun pos cv hc => ?_⟩
    obtain ⟨c', e1, e2⟩ := h3 pos cv hc
    exact ⟨c', e1, other e2 codeO_ncell⟩
  · rw [upd_ne (ne_of_none z W.new)]
    exact ext _ _ (W.ext _ _ z n) n
  · rw [List.length_append]
    simp
    omega
  · rw [List.length_append, List.length_append, W.few]
    rfl
  · rcases List.mem_append.mp hg with hg | hg
    · obtain ⟨e', he, c', e1, e2⟩ := W.mem g hg
      exact ⟨e', List.mem_append_left _ he, c', other (ext _ _ e1 lamO_ne) lamO_nlst, other (ext _ _ e2 LamX.codeO_ne) codeO_ncell⟩
    · rw [List.mem_singleton.mp hg]
      exact ⟨e, List.mem_append_right _ List.mem_cons_self, c, other ef lamO_nlst, other ec codeO_ncell⟩


/-! ### all but lists and tables stay -/
open LamX (CodeO ExtN)
def ExtL (H H' : Hp) : Prop := ∀ b o, H b = some o → (∀ ps, o ≠ .tbl ps) → (∀ xs, o ≠ .lst xs) → H' b = some o
theorem ExtL.refl (H : Hp) : ExtL H H := fun _ _ h _ _ => h
theorem ExtL.trans {H H1 H2 : Hp} (a : ExtL H H1) (b : ExtL H1 H2) : ExtL H H2 := fun x o h n m => b x o (a x o h n m) n m
theorem ExtL.same {H H1 : Hp} (a : Same H H1) : ExtL H H1 := fun x o h _ _ => a x o h
theorem ExtL.ext {H H1 : Hp} (a : ExtN H H1) : ExtL H H1 := fun x o h n _ => a x o h n
theorem ExtL.keep {H H1 : Hp} {d : Addr} {xs : List V} (a : Keep d H H1) (e : H d = some (.lst xs)) : ExtL H H1 := fun x o h _ m => a x o (fun z => by
  rw [z, e] at h
  exact m xs (Option.some.inj h).symm) h
theorem ExtL.put {H : Hp} {d : Addr} {xs : List V} {o : HO} (e : H d = some (.lst xs)) : ExtL H (upd H d o) := ExtL.keep (d := d) Keep.upd e
/-- a lambda of the law, without a default; with one -/
def Live0 (H : Hp) (q : Str) (cells : List (Str × Addr)) (f : Addr) (e : Expr) : Prop := ∃ c, H f = some (LamO f (lamOf e q cells c .none)) ∧ H c = some (CodeO c q)
def Live1 (H : Hp) (q : Str) (cells : List (Str × Addr)) (f : Addr) (e : Expr) : Prop := ∃ c x, H f = some (LamO f (lamOf e q cells c (.ref x))) ∧ H c = some (CodeO c q) ∧ H x = some (.tup [.int 0])
theorem lamO_nl {f : Addr} {F : LW} : ∀ xs, LamO f F ≠ .lst xs := fun xs z => by
  unfold LamO at z
  cases z
theorem codeO_nl {c : Addr} {q : Str} : ∀ xs, CodeO c q ≠ .lst xs := fun xs z => by
  unfold LamX.CodeO at z
  cases z
theorem Live0.to {H H' : Hp} {q : Str} {cells : List (Str × Addr)} {f : Addr} {e : Expr} (h : Live0 H q cells f e) (s : ExtL H H') : Live0 H' q cells f e := by
  obtain ⟨c, h1, h2⟩ := h
  exact ⟨c, s _ _ h1 lamO_ne lamO_nl, s _ _ h2 LamX.codeO_ne codeO_nl⟩
theorem Live1.to {H H' : Hp} {q : Str} {cells : List (Str × Addr)} {f : Addr} {e : Expr} (h : Live1 H q cells f e) (s : ExtL H H') : Live1 H' q cells f e := by
  obtain ⟨c, x, h1, h2, h3⟩ := h
  exact ⟨c, x, s _ _ h1 lamO_ne lamO_nl, s _ _ h2 LamX.codeO_ne codeO_nl, s _ _ h3 (fun ps z => by cases z) (fun xs z => by cases z)⟩
theorem CellIn.to {H H' : Hp} {c : Addr} {v : V} (h : CellIn H c v) (s : ExtL H H') : CellIn H' c v := by
  obtain ⟨o, u, h1, h2⟩ := h
  exact ⟨o, u, s _ _ h1 (fun ps y => by unfold cellH at y; cases y) (fun xs y => by unfold cellH at y; cases y), h2⟩

/-! ### the text by places -/
def topS (i : Nat) : Stmt := PySem.Challenge.pw_shiftrow_k03_tapes_and_states_refused.main.body.getD i (.Pass ⟨0, 0, 0, 0⟩)
abbrev s_p_can_be_set : Stmt := topS 10
abbrev n_p_can_be_set : List Str := ["text"]
theorem sc_p_can_be_set : FnScope ["text"] ["text"] (defScope s_p_can_be_set) := ⟨rfl, rfl, rfl, by decide +kernel, rfl, by decide +kernel, by decide +kernel⟩
abbrev s_p_check_sets : Stmt := topS 11
abbrev n_p_check_sets : List Str := ["sets", "first", "second"]
theorem sc_p_check_sets : FnScope ["sets", "first", "second"] ["sets"] (defScope s_p_check_sets) := ⟨rfl, rfl, rfl, by decide +kernel, rfl, by decide +kernel, by decide +kernel⟩
abbrev s_p_check_tape : Stmt := topS 12
abbrev n_p_check_tape : List Str := ["sets", "tape", "last", "at", "code"]
theorem sc_p_check_tape : FnScope ["sets", "tape", "last", "at", "code"] ["sets", "tape"] (defScope s_p_check_tape) := ⟨rfl, rfl, rfl, by decide +kernel, rfl, by decide +kernel, by decide +kernel⟩
abbrev s_p_check_state : Stmt := topS 13
abbrev n_p_check_state : List Str := ["state"]
theorem sc_p_check_state : FnScope ["state"] ["state"] (defScope s_p_check_state) := ⟨rfl, rfl, rfl, by decide +kernel, rfl, by decide +kernel, by decide +kernel⟩
abbrev s_p_is_common : Stmt := topS 14
abbrev n_p_is_common : List Str := ["sets", "code"]
theorem sc_p_is_common : FnScope ["sets", "code"] ["sets", "code"] (defScope s_p_is_common) := ⟨rfl, rfl, rfl, by decide +kernel, rfl, by decide +kernel, by decide +kernel⟩
abbrev s_p_read : Stmt := topS 15
abbrev n_p_read : List Str := ["sets", "tape", "state", "many", "signs", "now", "code"]
theorem sc_p_read : FnScope ["sets", "tape", "state", "many", "signs", "now", "code"] ["sets", "tape", "state"] (defScope s_p_read) := ⟨rfl, rfl, rfl, by decide +kernel, rfl, by decide +kernel, by decide +kernel⟩
abbrev s_p_spoilt : Stmt := topS 17
abbrev n_p_spoilt : List Str := ["sets", "codes", "many", "signs", "code"]
theorem sc_p_spoilt : FnScope ["sets", "codes", "many", "signs", "code"] ["sets", "codes"] (defScope s_p_spoilt) := ⟨rfl, rfl, rfl, by decide +kernel, rfl, by decide +kernel, by decide +kernel⟩
abbrev s_p_losses : Stmt := topS 18
abbrev n_p_losses : List Str := ["sets", "tape", "state", "many", "found", "now", "at", "code", "signs"]
theorem sc_p_losses : FnScope ["sets", "tape", "state", "many", "found", "now", "at", "code", "signs"] ["sets", "tape", "state"] (defScope s_p_losses) := ⟨rfl, rfl, rfl, by decide +kernel, rfl, by decide +kernel, by decide +kernel⟩
abbrev s_p_worst : Stmt := topS 19
abbrev n_p_worst : List Str := ["sets", "tape", "state", "found", "most"]
theorem sc_p_worst : FnScope ["sets", "tape", "state", "found", "most"] ["sets", "tape", "state"] (defScope s_p_worst) := ⟨rfl, rfl, rfl, by decide +kernel, rfl, by decide +kernel, by decide +kernel⟩
abbrev s_p_by_state : Stmt := topS 20
abbrev n_p_by_state : List Str := ["sets", "tape"]
theorem sc_p_by_state : FnScope ["sets", "tape"] ["sets", "tape"] (defScope s_p_by_state) := ⟨rfl, rfl, rfl, by decide +kernel, rfl, by decide +kernel, by decide +kernel⟩
abbrev s_p_written : Stmt := topS 22
abbrev n_p_written : List Str := ["sets", "tape", "code"]
theorem sc_p_written : FnScope ["sets", "tape", "code"] ["sets", "tape"] (defScope s_p_written) := ⟨rfl, rfl, rfl, by decide +kernel, rfl, by decide +kernel, by decide +kernel⟩
abbrev s_p_check_text : Stmt := topS 27
abbrev n_p_check_text : List Str := ["sets", "text", "at", "sign"]
theorem sc_p_check_text : FnScope ["sets", "text", "at", "sign"] ["sets", "text"] (defScope s_p_check_text) := ⟨rfl, rfl, rfl, by decide +kernel, rfl, by decide +kernel, by decide +kernel⟩
abbrev s_p_sign_step : Stmt := topS 28
abbrev n_p_sign_step : List Str := ["sets", "sign", "state", "left", "code"]
theorem sc_p_sign_step : FnScope ["sets", "sign", "state", "left", "code"] ["sets", "sign", "state", "left"] (defScope s_p_sign_step) := ⟨rfl, rfl, rfl, by decide +kernel, rfl, by decide +kernel, by decide +kernel⟩
abbrev s_p_steps : Stmt := topS 29
abbrev n_p_steps : List Str := ["sets", "sign", "state", "left", "most", "many", "found", "step", "code", "kept", "told"]
theorem sc_p_steps : FnScope ["sets", "sign", "state", "left", "most", "many", "found", "step", "code", "kept", "told"] ["sets", "sign", "state", "left", "most"] (defScope s_p_steps) := ⟨rfl, rfl, rfl, by decide +kernel, rfl, by decide +kernel, by decide +kernel⟩
abbrev s_p_lengths_ahead : Stmt := topS 30
abbrev n_p_lengths_ahead : List Str := ["sets", "sign", "behind", "most", "at_once", "state", "left", "step", "ahead", "other"]
theorem sc_p_lengths_ahead : FnScope ["sets", "sign", "behind", "most", "at_once", "state", "left", "step", "ahead", "other"] ["sets", "sign", "behind", "most"] (defScope s_p_lengths_ahead) := ⟨rfl, rfl, rfl, by decide +kernel, rfl, by decide +kernel, by decide +kernel⟩
abbrev s_p_shortest_lengths : Stmt := topS 31
abbrev n_p_shortest_lengths : List Str := ["sets", "text", "most", "lefts", "row", "rows", "sign", "state", "left"]
theorem sc_p_shortest_lengths : FnScope ["sets", "text", "most", "lefts", "row", "rows", "sign", "state", "left"] ["sets", "text", "most"] (defScope s_p_shortest_lengths) := ⟨rfl, rfl, rfl, by decide +kernel, rfl, by decide +kernel, by decide +kernel⟩
abbrev s_p_shortest : Stmt := topS 32
abbrev n_p_shortest : List Str := ["sets", "text", "state", "most", "rows", "tape", "at", "now", "left", "length", "code", "reads", "told", "kept"]
theorem sc_p_shortest : FnScope ["sets", "text", "state", "most", "rows", "tape", "at", "now", "left", "length", "code", "reads", "told", "kept"] ["sets", "text", "state", "most"] (defScope s_p_shortest) := ⟨rfl, rfl, rfl, by decide +kernel, rfl, by decide +kernel, by decide +kernel⟩
abbrev s_p_least : Stmt := topS 33
abbrev n_p_least : List Str := ["sets", "text", "state"]
theorem sc_p_least : FnScope ["sets", "text", "state"] ["sets", "text", "state"] (defScope s_p_least) := ⟨rfl, rfl, rfl, by decide +kernel, rfl, by decide +kernel, by decide +kernel⟩
abbrev s_p_guarded : Stmt := topS 34
abbrev n_p_guarded : List Str := ["sets", "text", "state", "most"]
theorem sc_p_guarded : FnScope ["sets", "text", "state", "most"] ["sets", "text", "state", "most"] (defScope s_p_guarded) := ⟨rfl, rfl, rfl, by decide +kernel, rfl, by decide +kernel, by decide +kernel⟩
abbrev s_p_trimmed : Stmt := topS 35
abbrev n_p_trimmed : List Str := ["sets", "tape", "state", "many", "short", "now", "short_now", "code"]
theorem sc_p_trimmed : FnScope ["sets", "tape", "state", "many", "short", "now", "short_now", "code"] ["sets", "tape", "state"] (defScope s_p_trimmed) := ⟨rfl, rfl, rfl, by decide +kernel, rfl, by decide +kernel, by decide +kernel⟩
abbrev s_p_is_read_otherwise : Stmt := topS 36
abbrev n_p_is_read_otherwise : List Str := ["sets", "ahead", "behind", "_", "state"]
theorem sc_p_is_read_otherwise : FnScope ["sets", "ahead", "behind", "_", "state"] ["sets", "ahead", "behind"] (defScope s_p_is_read_otherwise) := ⟨rfl, rfl, rfl, by decide +kernel, rfl, by decide +kernel, by decide +kernel⟩
abbrev s_p_joined : Stmt := topS 37
abbrev n_p_joined : List Str := ["sets", "one", "other"]
theorem sc_p_joined : FnScope ["sets", "one", "other"] ["sets", "one", "other"] (defScope s_p_joined) := ⟨rfl, rfl, rfl, by decide +kernel, rfl, by decide +kernel, by decide +kernel⟩
abbrev s_p_cut : Stmt := topS 38
abbrev n_p_cut : List Str := ["sets", "tape", "at", "ahead", "behind"]
theorem sc_p_cut : FnScope ["sets", "tape", "at", "ahead", "behind"] ["sets", "tape", "at"] (defScope s_p_cut) := ⟨rfl, rfl, rfl, by decide +kernel, rfl, by decide +kernel, by decide +kernel⟩
abbrev s_l_dice : Stmt := topS 40
abbrev n_l_dice : List Str := ["_law_script", "_law_k", "_law_found", "_law_cell"]
theorem sc_l_dice : FnScope ["_law_script", "_law_k", "_law_found", "_law_cell"] ["_law_script", "_law_k"] (defScope s_l_dice) := ⟨rfl, rfl, rfl, by decide +kernel, rfl, by decide +kernel, by decide +kernel⟩
abbrev s_l_off : Stmt := topS 41
abbrev n_l_off : List Str := ["_law_d", "_law_most", "_law_found"]
theorem sc_l_off : FnScope ["_law_d", "_law_most", "_law_found"] ["_law_d", "_law_most"] (defScope s_l_off) := ⟨rfl, rfl, rfl, by decide +kernel, rfl, by decide +kernel, by decide +kernel⟩
abbrev s_l_alike : Stmt := topS 42
abbrev n_l_alike : List Str := ["_law_found", "_law_due", "_law_k"]
theorem sc_l_alike : FnScope ["_law_found", "_law_due", "_law_k"] ["_law_found", "_law_due"] (defScope s_l_alike) := ⟨rfl, rfl, rfl, by decide +kernel, rfl, by decide +kernel, by decide +kernel⟩
abbrev s_l_mixed : Stmt := topS 43
abbrev n_l_mixed : List Str := ["_law_d", "_law_row", "_law_left", "_law_found"]
theorem sc_l_mixed : FnScope ["_law_d", "_law_row", "_law_left", "_law_found"] ["_law_d", "_law_row"] (defScope s_l_mixed) := ⟨rfl, rfl, rfl, by decide +kernel, rfl, by decide +kernel, by decide +kernel⟩
abbrev s_l_refused : Stmt := topS 44
abbrev n_l_refused : List Str := ["_law_work", "_law_word", "_law_value", "_law_e", "_law_kinds", "_law_words", "_law_one"]
theorem sc_l_refused : FnScope ["_law_work", "_law_word", "_law_value", "_law_e", "_law_kinds", "_law_words", "_law_one"] ["_law_work", "_law_word", "_law_value"] (defScope s_l_refused) := ⟨rfl, rfl, rfl, by decide +kernel, rfl, by decide +kernel, by decide +kernel⟩
abbrev s_l_sets : Stmt := topS 45
abbrev n_l_sets : List Str := ["_law_d", "_law_many", "_law_signs", "_law_every", "_law_turn", "_law_one", "_law_often", "_law_other", "_law_left", "_law_k", "_law_some", "_law_sign"]
theorem sc_l_sets : FnScope ["_law_d", "_law_many", "_law_signs", "_law_every", "_law_turn", "_law_one", "_law_often", "_law_other", "_law_left", "_law_k", "_law_some", "_law_sign"] ["_law_d"] (defScope s_l_sets) := ⟨rfl, rfl, rfl, by decide +kernel, rfl, by decide +kernel, by decide +kernel⟩
abbrev s_l_text : Stmt := topS 46
abbrev n_l_text : List Str := ["_law_d", "_law_sets_here", "_law_most", "_law_found", "_law_row", "_law_k"]
theorem sc_l_text : FnScope ["_law_d", "_law_sets_here", "_law_most", "_law_found", "_law_row", "_law_k"] ["_law_d", "_law_sets_here", "_law_most"] (defScope s_l_text) := ⟨rfl, rfl, rfl, by decide +kernel, rfl, by decide +kernel, by decide +kernel⟩
abbrev s_l_tape : Stmt := topS 47
abbrev n_l_tape : List Str := ["_law_d", "_law_sets_here", "_law_most", "_law_often", "_law_found", "_law_k", "_law_code"]
theorem sc_l_tape : FnScope ["_law_d", "_law_sets_here", "_law_most", "_law_often", "_law_found", "_law_k", "_law_code"] ["_law_d", "_law_sets_here", "_law_most"] (defScope s_l_tape) := ⟨rfl, rfl, rfl, by decide +kernel, rfl, by decide +kernel, by decide +kernel⟩
abbrev s_l_absent : Stmt := topS 48
abbrev n_l_absent : List Str := ["_law_sets_here", "_law_sign"]
theorem sc_l_absent : FnScope ["_law_sets_here", "_law_sign"] ["_law_sets_here"] (defScope s_l_absent) := ⟨rfl, rfl, rfl, by decide +kernel, rfl, by decide +kernel, by decide +kernel⟩
abbrev s_l_works : Stmt := topS 49
abbrev n_l_works : List Str := ["_law_sets_here", "_law_tape_here", "_law_state", "_law_works_here"]
theorem sc_l_works : FnScope ["_law_sets_here", "_law_tape_here", "_law_state", "_law_works_here"] ["_law_sets_here", "_law_tape_here", "_law_state"] (defScope s_l_works) := ⟨rfl, rfl, rfl, by decide +kernel, rfl, by decide +kernel, by decide +kernel⟩
abbrev s_law : Stmt := topS 50
abbrev n_law : List Str := ["_law_script", "_law_d", "_law_at", "_law_odd", "_law_works_here", "_law_place", "_law_far", "_law_bad", "_law_most", "_law_none", "_law_sets_here", "_law_state", "_law_tape_here", "_law_text_here", "_law_work"]
theorem sc_law : FnScope ["_law_script", "_law_d", "_law_at", "_law_odd", "_law_works_here", "_law_place", "_law_far", "_law_bad", "_law_most", "_law_none", "_law_sets_here", "_law_state", "_law_tape_here", "_law_text_here", "_law_work"] ["_law_script"] (defScope s_law) := ⟨rfl, rfl, rfl, by decide +kernel, rfl, by decide +kernel, by decide +kernel⟩
abbrev sI_BadSets : Stmt := inCls (topS 2) 0
theorem scI_BadSets : FnScope ["self", "why"] ["self", "why"] (defScope sI_BadSets) := ⟨rfl, rfl, rfl, by decide +kernel, rfl, by decide +kernel, by decide +kernel⟩
abbrev sI_BadTape : Stmt := inCls (topS 3) 0
theorem scI_BadTape : FnScope ["self", "at"] ["self", "at"] (defScope sI_BadTape) := ⟨rfl, rfl, rfl, by decide +kernel, rfl, by decide +kernel, by decide +kernel⟩
abbrev sI_NoSign : Stmt := inCls (topS 4) 0
theorem scI_NoSign : FnScope ["self", "at"] ["self", "at"] (defScope sI_NoSign) := ⟨rfl, rfl, rfl, by decide +kernel, rfl, by decide +kernel, by decide +kernel⟩
abbrev sI_BadText : Stmt := inCls (topS 6) 0
theorem scI_BadText : FnScope ["self", "place"] ["self", "place"] (defScope sI_BadText) := ⟨rfl, rfl, rfl, by decide +kernel, rfl, by decide +kernel, by decide +kernel⟩
/-- what the top has left -/
structure Txt (K : PySem.W.Frag) (mg : Str → Option Value) where
  a_p_can_be_set : Addr
  d_p_can_be_set : FuncData
  F_p_can_be_set : Fun K "can_be_set" "can_be_set" s_p_can_be_set a_p_can_be_set d_p_can_be_set
  g_p_can_be_set : mg "can_be_set" = some (.ref a_p_can_be_set)
  b_p_can_be_set : Binds K d_p_can_be_set ["text"] []
  a_p_check_sets : Addr
  d_p_check_sets : FuncData
  F_p_check_sets : Fun K "check_sets" "check_sets" s_p_check_sets a_p_check_sets d_p_check_sets
  g_p_check_sets : mg "check_sets" = some (.ref a_p_check_sets)
  b_p_check_sets : Binds K d_p_check_sets ["sets"] []
  a_p_check_tape : Addr
  d_p_check_tape : FuncData
  F_p_check_tape : Fun K "check_tape" "check_tape" s_p_check_tape a_p_check_tape d_p_check_tape
  g_p_check_tape : mg "check_tape" = some (.ref a_p_check_tape)
  b_p_check_tape : Binds K d_p_check_tape ["sets", "tape"] []
  a_p_check_state : Addr
  d_p_check_state : FuncData
  F_p_check_state : Fun K "check_state" "check_state" s_p_check_state a_p_check_state d_p_check_state
  g_p_check_state : mg "check_state" = some (.ref a_p_check_state)
  b_p_check_state : Binds K d_p_check_state ["state"] []
  a_p_is_common : Addr
  d_p_is_common : FuncData
  F_p_is_common : Fun K "is_common" "is_common" s_p_is_common a_p_is_common d_p_is_common
  g_p_is_common : mg "is_common" = some (.ref a_p_is_common)
  b_p_is_common : Binds K d_p_is_common ["sets", "code"] []
  a_p_read : Addr
  d_p_read : FuncData
  F_p_read : Fun K "read" "read" s_p_read a_p_read d_p_read
  g_p_read : mg "read" = some (.ref a_p_read)
  b_p_read : Binds K d_p_read ["sets", "tape", "state"] []
  a_p_spoilt : Addr
  d_p_spoilt : FuncData
  F_p_spoilt : Fun K "spoilt" "spoilt" s_p_spoilt a_p_spoilt d_p_spoilt
  g_p_spoilt : mg "spoilt" = some (.ref a_p_spoilt)
  b_p_spoilt : Binds K d_p_spoilt ["sets", "codes"] []
  a_p_losses : Addr
  d_p_losses : FuncData
  F_p_losses : Fun K "losses" "losses" s_p_losses a_p_losses d_p_losses
  g_p_losses : mg "losses" = some (.ref a_p_losses)
  b_p_losses : Binds K d_p_losses ["sets", "tape", "state"] []
  a_p_worst : Addr
  d_p_worst : FuncData
  F_p_worst : Fun K "worst" "worst" s_p_worst a_p_worst d_p_worst
  g_p_worst : mg "worst" = some (.ref a_p_worst)
  b_p_worst : Binds K d_p_worst ["sets", "tape", "state"] []
  a_p_by_state : Addr
  d_p_by_state : FuncData
  F_p_by_state : Fun K "by_state" "by_state" s_p_by_state a_p_by_state d_p_by_state
  g_p_by_state : mg "by_state" = some (.ref a_p_by_state)
  b_p_by_state : Binds K d_p_by_state ["sets", "tape"] []
  a_p_written : Addr
  d_p_written : FuncData
  F_p_written : Fun K "written" "written" s_p_written a_p_written d_p_written
  g_p_written : mg "written" = some (.ref a_p_written)
  b_p_written : Binds K d_p_written ["sets", "tape"] []
  a_p_check_text : Addr
  d_p_check_text : FuncData
  F_p_check_text : Fun K "check_text" "check_text" s_p_check_text a_p_check_text d_p_check_text
  g_p_check_text : mg "check_text" = some (.ref a_p_check_text)
  b_p_check_text : Binds K d_p_check_text ["sets", "text"] []
  a_p_sign_step : Addr
  d_p_sign_step : FuncData
  F_p_sign_step : Fun K "sign_step" "sign_step" s_p_sign_step a_p_sign_step d_p_sign_step
  g_p_sign_step : mg "sign_step" = some (.ref a_p_sign_step)
  b_p_sign_step : Binds K d_p_sign_step ["sets", "sign", "state", "left"] []
  a_p_steps : Addr
  d_p_steps : FuncData
  F_p_steps : Fun K "steps" "steps" s_p_steps a_p_steps d_p_steps
  g_p_steps : mg "steps" = some (.ref a_p_steps)
  b_p_steps : Binds K d_p_steps ["sets", "sign", "state", "left", "most"] []
  a_p_lengths_ahead : Addr
  d_p_lengths_ahead : FuncData
  F_p_lengths_ahead : Fun K "lengths_ahead" "lengths_ahead" s_p_lengths_ahead a_p_lengths_ahead d_p_lengths_ahead
  g_p_lengths_ahead : mg "lengths_ahead" = some (.ref a_p_lengths_ahead)
  b_p_lengths_ahead : Binds K d_p_lengths_ahead ["sets", "sign", "behind", "most"] []
  a_p_shortest_lengths : Addr
  d_p_shortest_lengths : FuncData
  F_p_shortest_lengths : Fun K "shortest_lengths" "shortest_lengths" s_p_shortest_lengths a_p_shortest_lengths d_p_shortest_lengths
  g_p_shortest_lengths : mg "shortest_lengths" = some (.ref a_p_shortest_lengths)
  b_p_shortest_lengths : Binds K d_p_shortest_lengths ["sets", "text", "most"] []
  a_p_shortest : Addr
  d_p_shortest : FuncData
  F_p_shortest : Fun K "shortest" "shortest" s_p_shortest a_p_shortest d_p_shortest
  g_p_shortest : mg "shortest" = some (.ref a_p_shortest)
  b_p_shortest : Binds K d_p_shortest ["sets", "text", "state", "most"] []
  a_p_least : Addr
  d_p_least : FuncData
  F_p_least : Fun K "least" "least" s_p_least a_p_least d_p_least
  g_p_least : mg "least" = some (.ref a_p_least)
  b_p_least : Binds K d_p_least ["sets", "text", "state"] []
  a_p_guarded : Addr
  d_p_guarded : FuncData
  F_p_guarded : Fun K "guarded" "guarded" s_p_guarded a_p_guarded d_p_guarded
  g_p_guarded : mg "guarded" = some (.ref a_p_guarded)
  b_p_guarded : Binds K d_p_guarded ["sets", "text", "state", "most"] []
  a_p_trimmed : Addr
  d_p_trimmed : FuncData
  F_p_trimmed : Fun K "trimmed" "trimmed" s_p_trimmed a_p_trimmed d_p_trimmed
  g_p_trimmed : mg "trimmed" = some (.ref a_p_trimmed)
  b_p_trimmed : Binds K d_p_trimmed ["sets", "tape", "state"] []
  a_p_is_read_otherwise : Addr
  d_p_is_read_otherwise : FuncData
  F_p_is_read_otherwise : Fun K "is_read_otherwise" "is_read_otherwise" s_p_is_read_otherwise a_p_is_read_otherwise d_p_is_read_otherwise
  g_p_is_read_otherwise : mg "is_read_otherwise" = some (.ref a_p_is_read_otherwise)
  b_p_is_read_otherwise : Binds K d_p_is_read_otherwise ["sets", "ahead", "behind"] []
  a_p_joined : Addr
  d_p_joined : FuncData
  F_p_joined : Fun K "joined" "joined" s_p_joined a_p_joined d_p_joined
  g_p_joined : mg "joined" = some (.ref a_p_joined)
  b_p_joined : Binds K d_p_joined ["sets", "one", "other"] []
  a_p_cut : Addr
  d_p_cut : FuncData
  F_p_cut : Fun K "cut" "cut" s_p_cut a_p_cut d_p_cut
  g_p_cut : mg "cut" = some (.ref a_p_cut)
  b_p_cut : Binds K d_p_cut ["sets", "tape", "at"] []
  a_l_dice : Addr
  d_l_dice : FuncData
  F_l_dice : Fun K "_law_dice" "_law_dice" s_l_dice a_l_dice d_l_dice
  g_l_dice : mg "_law_dice" = some (.ref a_l_dice)
  b_l_dice : Binds K d_l_dice ["_law_script", "_law_k"] []
  a_l_off : Addr
  d_l_off : FuncData
  F_l_off : Fun K "_law_off" "_law_off" s_l_off a_l_off d_l_off
  g_l_off : mg "_law_off" = some (.ref a_l_off)
  b_l_off : Binds K d_l_off ["_law_d", "_law_most"] []
  a_l_alike : Addr
  d_l_alike : FuncData
  F_l_alike : Fun K "_law_alike" "_law_alike" s_l_alike a_l_alike d_l_alike
  g_l_alike : mg "_law_alike" = some (.ref a_l_alike)
  b_l_alike : Binds K d_l_alike ["_law_found", "_law_due"] []
  a_l_mixed : Addr
  d_l_mixed : FuncData
  F_l_mixed : Fun K "_law_mixed" "_law_mixed" s_l_mixed a_l_mixed d_l_mixed
  g_l_mixed : mg "_law_mixed" = some (.ref a_l_mixed)
  b_l_mixed : Binds K d_l_mixed ["_law_d", "_law_row"] []
  a_l_refused : Addr
  d_l_refused : FuncData
  F_l_refused : Fun K "_law_refused" "_law_refused" s_l_refused a_l_refused d_l_refused
  g_l_refused : mg "_law_refused" = some (.ref a_l_refused)
  b_l_refused : Binds K d_l_refused ["_law_work", "_law_word", "_law_value"] []
  a_l_sets : Addr
  d_l_sets : FuncData
  F_l_sets : Fun K "_law_sets" "_law_sets" s_l_sets a_l_sets d_l_sets
  g_l_sets : mg "_law_sets" = some (.ref a_l_sets)
  b_l_sets : Binds K d_l_sets ["_law_d"] []
  a_l_text : Addr
  d_l_text : FuncData
  F_l_text : Fun K "_law_text" "_law_text" s_l_text a_l_text d_l_text
  g_l_text : mg "_law_text" = some (.ref a_l_text)
  b_l_text : Binds K d_l_text ["_law_d", "_law_sets_here", "_law_most"] []
  a_l_tape : Addr
  d_l_tape : FuncData
  F_l_tape : Fun K "_law_tape" "_law_tape" s_l_tape a_l_tape d_l_tape
  g_l_tape : mg "_law_tape" = some (.ref a_l_tape)
  b_l_tape : Binds K d_l_tape ["_law_d", "_law_sets_here", "_law_most"] []
  a_l_absent : Addr
  d_l_absent : FuncData
  F_l_absent : Fun K "_law_absent" "_law_absent" s_l_absent a_l_absent d_l_absent
  g_l_absent : mg "_law_absent" = some (.ref a_l_absent)
  b_l_absent : Binds K d_l_absent ["_law_sets_here"] []
  a_l_works : Addr
  d_l_works : FuncData
  F_l_works : Fun K "_law_works" "_law_works" s_l_works a_l_works d_l_works
  c_l_works : Addr
  P_l_works : Addr
  FC_l_works : FunC K "_law_works" "_law_works" s_l_works a_l_works d_l_works c_l_works
  g_l_works : mg "_law_works" = some (.ref a_l_works)
  b_l_works : Binds K d_l_works ["_law_sets_here", "_law_tape_here", "_law_state"] []
  a_law : Addr
  d_law : FuncData
  F_law : Fun K "law" "law" s_law a_law d_law
  c_law : Addr
  P_law : Addr
  FC_law : FunC K "law" "law" s_law a_law d_law c_law
  g_law : mg "law" = some (.ref a_law)
  b_law : Binds K d_law ["_law_script"] []
  m_ValueError : mg "ValueError" = none
  m_abs : mg "abs" = none
  m_all : mg "all" = none
  m_bool : mg "bool" = none
  m_enumerate : mg "enumerate" = none
  m_int : mg "int" = none
  m_isinstance : mg "isinstance" = none
  m_len : mg "len" = none
  m_list : mg "list" = none
  m_max : mg "max" = none
  m_min : mg "min" = none
  m_range : mg "range" = none
  m_reversed : mg "reversed" = none
  m_set : mg "set" = none
  m_str : mg "str" = none
  m_tuple : mg "tuple" = none
  TE : TCls K mg "TapeError"
  X_BadSets : XCls K mg "BadSets" "why" "BadSets.__init__" sI_BadSets TE.C
  X_BadTape : XCls K mg "BadTape" "at" "BadTape.__init__" sI_BadTape TE.C
  X_NoSign : XCls K mg "NoSign" "at" "NoSign.__init__" sI_NoSign TE.C
  X_BadNumber : NCls K mg "BadNumber" TE.C
  X_BadText : XCls K mg "BadText" "place" "BadText.__init__" sI_BadText TE.C
  k_BadSets_V : PySem.W.kitOne K (.ref X_BadSets.C) (.type "ValueError") = some true
  k_BadSets_BadSets : PySem.W.kitOne K (.ref X_BadSets.C) (.ref X_BadSets.C) = some true
  k_BadSets_BadTape : PySem.W.kitOne K (.ref X_BadSets.C) (.ref X_BadTape.C) = some false
  k_BadSets_NoSign : PySem.W.kitOne K (.ref X_BadSets.C) (.ref X_NoSign.C) = some false
  k_BadSets_BadNumber : PySem.W.kitOne K (.ref X_BadSets.C) (.ref X_BadNumber.C) = some false
  k_BadSets_BadText : PySem.W.kitOne K (.ref X_BadSets.C) (.ref X_BadText.C) = some false
  k_BadTape_V : PySem.W.kitOne K (.ref X_BadTape.C) (.type "ValueError") = some true
  k_BadTape_BadSets : PySem.W.kitOne K (.ref X_BadTape.C) (.ref X_BadSets.C) = some false
  k_BadTape_BadTape : PySem.W.kitOne K (.ref X_BadTape.C) (.ref X_BadTape.C) = some true
  k_BadTape_NoSign : PySem.W.kitOne K (.ref X_BadTape.C) (.ref X_NoSign.C) = some false
  k_BadTape_BadNumber : PySem.W.kitOne K (.ref X_BadTape.C) (.ref X_BadNumber.C) = some false
  k_BadTape_BadText : PySem.W.kitOne K (.ref X_BadTape.C) (.ref X_BadText.C) = some false
  k_NoSign_V : PySem.W.kitOne K (.ref X_NoSign.C) (.type "ValueError") = some true
  k_NoSign_BadSets : PySem.W.kitOne K (.ref X_NoSign.C) (.ref X_BadSets.C) = some false
  k_NoSign_BadTape : PySem.W.kitOne K (.ref X_NoSign.C) (.ref X_BadTape.C) = some false
  k_NoSign_NoSign : PySem.W.kitOne K (.ref X_NoSign.C) (.ref X_NoSign.C) = some true
  k_NoSign_BadNumber : PySem.W.kitOne K (.ref X_NoSign.C) (.ref X_BadNumber.C) = some false
  k_NoSign_BadText : PySem.W.kitOne K (.ref X_NoSign.C) (.ref X_BadText.C) = some false
  k_BadNumber_V : PySem.W.kitOne K (.ref X_BadNumber.C) (.type "ValueError") = some true
  k_BadNumber_BadSets : PySem.W.kitOne K (.ref X_BadNumber.C) (.ref X_BadSets.C) = some false
  k_BadNumber_BadTape : PySem.W.kitOne K (.ref X_BadNumber.C) (.ref X_BadTape.C) = some false
  k_BadNumber_NoSign : PySem.W.kitOne K (.ref X_BadNumber.C) (.ref X_NoSign.C) = some false
  k_BadNumber_BadNumber : PySem.W.kitOne K (.ref X_BadNumber.C) (.ref X_BadNumber.C) = some true
  k_BadNumber_BadText : PySem.W.kitOne K (.ref X_BadNumber.C) (.ref X_BadText.C) = some false
  k_BadText_V : PySem.W.kitOne K (.ref X_BadText.C) (.type "ValueError") = some true
  k_BadText_BadSets : PySem.W.kitOne K (.ref X_BadText.C) (.ref X_BadSets.C) = some false
  k_BadText_BadTape : PySem.W.kitOne K (.ref X_BadText.C) (.ref X_BadTape.C) = some false
  k_BadText_NoSign : PySem.W.kitOne K (.ref X_BadText.C) (.ref X_NoSign.C) = some false
  k_BadText_BadNumber : PySem.W.kitOne K (.ref X_BadText.C) (.ref X_BadNumber.C) = some false
  k_BadText_BadText : PySem.W.kitOne K (.ref X_BadText.C) (.ref X_BadText.C) = some true
  t_MOST_SIGNS : Tok
  c_MOST_SIGNS : mg "MOST_SIGNS" = some (.int (10) t_MOST_SIGNS)
  t_MOST_CODES : Tok
  c_MOST_CODES : mg "MOST_CODES" = some (.int (200) t_MOST_CODES)
  t_MOST_SPOILT : Tok
  c_MOST_SPOILT : mg "MOST_SPOILT" = some (.int (20) t_MOST_SPOILT)
  t_FREE : Tok
  c_FREE : mg "FREE" = some (.int (-1) t_FREE)
  t_NEVER : Tok
  c_NEVER : mg "NEVER" = some (.int (1000000) t_NEVER)
theorem okI_BadSets {P : Program} {w : World} {K : PySem.W.Frag} {mg : Str → Option Value} {base : Heap} (T : Txt K mg) : FnOk P w K mg base CX0 1 T.X_BadSets.fI T.X_BadSets.fd ["self", "why"] (spXI T.X_BadSets.C "why") :=
  T.X_BadSets.F.ok scI_BadSets (fun vs H Q E h => by
    obtain ⟨p, v, rfl, _⟩ := h
    rfl) (fun cdv A outer s H vs Q E hr h => ⟨_, pss_cons (ps_expr (pe_teinit (by rfl) T.TE.g T.TE.ty T.TE.ns T.TE.fi (pa_cons (pv 0) (pa_cons (pe_joined (.cons pe_str (.cons (pe_fmt (pv 1)) (.cons pe_str .nil)))) pa_nil)))) (pss_one (ps_ost (pv 0) (pv 1))), xi_rd T.X_BadSets.ox T.X_BadSets.nf (by decide) (by decide) h⟩)
theorem okI_BadTape {P : Program} {w : World} {K : PySem.W.Frag} {mg : Str → Option Value} {base : Heap} (T : Txt K mg) : FnOk P w K mg base CX0 1 T.X_BadTape.fI T.X_BadTape.fd ["self", "at"] (spXI T.X_BadTape.C "at") :=
  T.X_BadTape.F.ok scI_BadTape (fun vs H Q E h => by
    obtain ⟨p, v, rfl, _⟩ := h
    rfl) (fun cdv A outer s H vs Q E hr h => ⟨_, pss_cons (ps_expr (pe_teinit (by rfl) T.TE.g T.TE.ty T.TE.ns T.TE.fi (pa_cons (pv 0) (pa_cons (pe_joined (.cons pe_str (.cons (pe_fmt (pv 1)) (.cons pe_str .nil)))) pa_nil)))) (pss_one (ps_ost (pv 0) (pv 1))), xi_rd T.X_BadTape.ox T.X_BadTape.nf (by decide) (by decide) h⟩)
theorem okI_NoSign {P : Program} {w : World} {K : PySem.W.Frag} {mg : Str → Option Value} {base : Heap} (T : Txt K mg) : FnOk P w K mg base CX0 1 T.X_NoSign.fI T.X_NoSign.fd ["self", "at"] (spXI T.X_NoSign.C "at") :=
  T.X_NoSign.F.ok scI_NoSign (fun vs H Q E h => by
    obtain ⟨p, v, rfl, _⟩ := h
    rfl) (fun cdv A outer s H vs Q E hr h => ⟨_, pss_cons (ps_expr (pe_teinit (by rfl) T.TE.g T.TE.ty T.TE.ns T.TE.fi (pa_cons (pv 0) (pa_cons (pe_joined (.cons pe_str (.cons (pe_fmt (pv 1)) (.cons pe_str .nil)))) pa_nil)))) (pss_one (ps_ost (pv 0) (pv 1))), xi_rd T.X_NoSign.ox T.X_NoSign.nf (by decide) (by decide) h⟩)
theorem okI_BadText {P : Program} {w : World} {K : PySem.W.Frag} {mg : Str → Option Value} {base : Heap} (T : Txt K mg) : FnOk P w K mg base CX0 1 T.X_BadText.fI T.X_BadText.fd ["self", "place"] (spXI T.X_BadText.C "place") :=
  T.X_BadText.F.ok scI_BadText (fun vs H Q E h => by
    obtain ⟨p, v, rfl, _⟩ := h
    rfl) (fun cdv A outer s H vs Q E hr h => ⟨_, pss_cons (ps_expr (pe_teinit (by rfl) T.TE.g T.TE.ty T.TE.ns T.TE.fi (pa_cons (pv 0) (pa_cons (pe_joined (.cons pe_str (.cons (pe_fmt (pv 1)) (.cons pe_str .nil)))) pa_nil)))) (pss_one (ps_ost (pv 0) (pv 1))), xi_rd T.X_BadText.ox T.X_BadText.nf (by decide) (by decide) h⟩)

section
variable {P : Program} {w : World} {K : PySem.W.Frag} {mg : Str → Option Value} {base : Heap}
def spOff : Sp := fun vs H Q _ => ∃ (d : Addr) (ds : List Int) (m : Int), vs = [.ref d, .int m] ∧ H d = some (.lst (Ints ds)) ∧ Dice ds ∧ 1 ≤ m ∧ m < 1000000 ∧
  ∀ k ds', 0 ≤ k → k < m → Dice ds' → Q (.int k) (upd H d (.lst (Ints ds')))
theorem ok_l_off (T : Txt K mg) : FnOk P w K mg base CX0 1 T.a_l_off T.d_l_off ["_law_d", "_law_most"] spOff := by
  refine T.F_l_off.ok sc_l_off (fun vs H Q E h => ?_) (fun cdv A outer s H vs Q E hr h => ?_)
  · obtain ⟨d, ds, m, rfl, _⟩ := h
    rfl
  · obtain ⟨d, ds, m, rfl, hd, ⟨f, r, bs, rfl, hf0, hf1, hr0, hb, hl⟩, hm1, hm2, q⟩ := h
    refine ⟨_,
    (C8.pss_cut (ps_if (PW.pt (pw_and (pt_cmpR op_eq (pe_ix ix_list (pv 0) pe_int (fun _ _ => rfl)) pe_int (nomark _)) (pw_and1 (pt_cmpR op_gt (pe_callB call_len_seq (by rfl) T.m_len PySem.boot_len (pa_cons (pv 0) pa_nil)) pe_int (nomark _))))) 
      (pss_one (ps_asg (pe_bm PySem.F.plainAttrs_list PySem.F.slot_list_pop PySem.F.type_list_pop mt_popAt (pv 0) (pa_cons pe_int pa_nil)) (pg_sub (pv 0) pe_int set_list))) pss_nil) 
    (pss_cons (ps_if (pt_cmpR op_gt (pe_ix ix_list (pv 0) pe_int (fun _ _ => rfl)) pe_int (nomark _)) 
      (pss_cons (ps_set (i := 2) sc_l_off.nd rfl (Or.inl rfl) (pe_op op_mod (pe_ix ix_list (pv 0) pe_int (fun _ _ => rfl)) (pv 1))) 
      (pss_cons (ps_asg (pe_op op_fdiv (pe_ix ix_list (pv 0) pe_int (fun _ _ => rfl)) (pv 1)) (pg_sub (pv 0) pe_int set_list)) 
      (pss_one (ps_ret (pv 2))))) pss_nil) 
    (pss_cons (ps_asg (pe_op op_mod (pe_op op_add (pe_op op_mul (pe_ix ix_list (pv 0) pe_int (fun _ _ => rfl)) pe_int) pe_int) pe_int) (pg_sub (pv 0) pe_int set_list)) 
    (pss_one (ps_ret (pe_op op_mod (pe_op op_fdiv (pe_ix ix_list (pv 0) pe_int (fun _ _ => rfl)) pe_int) (pv 1))))))), ?_⟩
    refine ⟨fun σ' H' => ∃ r bs, σ' = [some (.ref d), some (.int m), none] ∧ 0 ≤ r ∧ (∀ b ∈ bs, 0 ≤ b) ∧ bs.length ≤ 63 ∧ H' = upd H d (.lst (Ints (f :: r :: bs))), ?_, ?_⟩
    · -- the second number, taken from behind when it is 0
      refine ⟨.ref d, rfl, d, _, 1, .int r, rfl, rfl, SqL.of hd, atI_nat (j := 1) rfl, rfl, _, rfl, ite2 (fun h0 => ?_) (fun h0 => ?_)⟩
      · have e0 : r = 0 := V.int.inj (of_decide_eq_true h0)
        subst e0
        refine ⟨.ref d, rfl, d, _, rfl, .inl (SqL.of hd), _, _, rfl, rfl, _, rfl, ite2 (fun h2 => ?_) (fun h2 => ?_)⟩
        · cases bs with
          | nil =>
            have := of_decide_eq_true h2
            simp at this
          | cons b bs =>
            refine ⟨.ref d, rfl, .inl ⟨rfl, _, SqL.of hd⟩, d, _, 2, 2, .int b, rfl, rfl, hd, by decide, by decide, ?_, rfl, ?_⟩
            · simp [seqIndex?]
              omega
            · refine ⟨.ref d, rfl, d, _, 1, 1, rfl, rfl, upd_same, ?_, b, bs, rfl, hb b (by simp), fun c hc => hb c (by simp [hc]), by simp at hl; omega, ?_⟩
              · exact ixn (j := 1) (by simp)
              · rw [upd_upd]
                rfl
        · exact ⟨0, bs, rfl, hr0, hb, hl, (upd_self hd).symm⟩
      · refine iteF ?_
        exact ⟨r, bs, rfl, hr0, hb, hl, (upd_self hd).symm⟩
    · rintro σ' H' ⟨r, bs, rfl, hr0, hb, hl, rfl⟩
      have hd1 : (upd H d (.lst (Ints (f :: r :: bs)))) d = some (.lst (Ints (f :: r :: bs))) := upd_same
      refine ⟨.ref d, rfl, d, _, 1, .int r, rfl, rfl, SqL.of hd1, atI_nat (j := 1) rfl, _, _, rfl, rfl, _, rfl, ite2 (fun h2 => ?_) (fun h2 => ?_)⟩
      · have hm : 0 < m := by omega
        refine ⟨.ref d, rfl, d, _, 1, .int r, rfl, rfl, SqL.of hd1, atI_nat (j := 1) rfl, .int m, rfl, _, _, rfl, rfl, hm, ?_⟩
        refine ⟨.ref d, rfl, d, _, 1, .int r, rfl, rfl, SqL.of hd1, atI_nat (j := 1) rfl, .int m, rfl, _, _, rfl, rfl, ⟨hm, by omega⟩, ?_⟩
        refine ⟨.ref d, rfl, d, _, 1, 1, rfl, rfl, upd_same, ixn (j := 1) (by simp), .int (r % m), rfl, ?_⟩
        rw [upd_upd]
        exact q _ (f :: (r / m) :: bs) (Int.emod_nonneg _ (by omega)) (Int.emod_lt_of_pos _ hm) ⟨f, r / m, bs, rfl, hf0, hf1, Int.ediv_nonneg hr0 (by omega), hb, hl⟩
      · refine ⟨.ref d, rfl, d, _, 0, .int f, rfl, rfl, SqL.of hd1, atI_nat (j := 0) rfl, _, _, rfl, rfl, .inl ⟨by omega, by omega⟩, _, _, rfl, rfl, _, _, rfl, rfl, (by show (0 : Int) < 2147483647; decide), ?_⟩
        refine ⟨.ref d, rfl, d, _, 0, 0, rfl, rfl, upd_same, ixn (j := 0) (by simp), ?_⟩
        rw [upd_upd]
        have g0 := Int.emod_nonneg (f * 48271 + 11) (show (2147483647 : Int) ≠ 0 by decide)
        have g1 := Int.emod_lt_of_pos (f * 48271 + 11) (show (0 : Int) < 2147483647 by decide)
        refine ⟨.ref d, rfl, d, _, 0, .int ((f * 48271 + 11) % 2147483647), rfl, rfl, SqL.of upd_same, atI_nat (j := 0) rfl, _, _, rfl, rfl, ⟨by decide, by decide⟩, .int m, rfl, _, _, rfl, rfl, (by show 0 < m; omega), ?_⟩
        exact q _ (_ :: r :: bs) (Int.emod_nonneg _ (by omega)) (Int.emod_lt_of_pos _ (by omega)) ⟨_, r, bs, rfl, g0, g1, hr0, hb, hl⟩
/-- .. by what is kept -/
def spOffK : Sp := fun vs H Q _ => ∃ (d : Addr) (ds : List Int) (m : Int), vs = [.ref d, .int m] ∧ H d = some (.lst (Ints ds)) ∧ Dice ds ∧ 1 ≤ m ∧ m < 1000000 ∧
  ∀ k ds' H', 0 ≤ k → k < m → Dice ds' → Keep d H H' → H' d = some (.lst (Ints ds')) → Q (.int k) H'
theorem ok_l_offK (T : Txt K mg) : FnOk P w K mg base CX0 1 T.a_l_off T.d_l_off ["_law_d", "_law_most"] spOffK :=
  (ok_l_off T).imp fun vs H Q E h => by
    obtain ⟨d, ds, m, rfl, hd, hD, h1, h2, q⟩ := h
    exact ⟨d, ds, m, rfl, hd, hD, h1, h2, fun k ds' h3 h4 h5 => q k ds' _ h3 h4 h5 Keep.upd upd_same⟩

def spDice (K : PySem.W.Frag) : Sp := fun vs H Q _ => ∃ (a : Addr) (ns : List Int), vs = [.ref a, .int 0] ∧ SqL K H a (Ints ns) ∧ ns.length ≤ 63 ∧
  ∀ H' p ds, Same H H' → H p = none → H' p = some (.lst (Ints ds)) → Dice ds → Q (.ref p) H'
theorem ok_l_dice (T : Txt K mg) : FnOk P w K mg base CX0 1 T.a_l_dice T.d_l_dice ["_law_script", "_law_k"] (spDice K) := by
  refine T.F_l_dice.ok sc_l_dice (fun vs H Q E h => ?_) (fun cdv A outer s H vs Q E hr h => ?_)
  · obtain ⟨a, ns, rfl, _⟩ := h
    rfl
  · obtain ⟨a, ns, rfl, hS, hn, q⟩ := h
    refine ⟨_,
    (pss_cons (ps_set (i := 2) sc_l_dice.nd rfl (Or.inl rfl) (pv 1)) 
    (pss_cons (ps_for PassesOwn.never rfl (pi_list (pv 0)) (pg_name (i := 3) sc_l_dice.nd rfl (Or.inl rfl)) 
      (pss_one (ps_set (i := 2) sc_l_dice.nd rfl (Or.inl rfl) (pe_op op_mod (pe_op op_add (pe_op op_mul (pv 2) pe_int) (pe_callB call_abs (by rfl) T.m_abs (by decide +kernel) (pa_cons (pv 3) pa_nil))) pe_int)))) 
    (pss_one (ps_ret (pe_op op_cat (pe_lst (pa_cons (pv 2) (pa_cons pe_int pa_nil))) (pe_lc (own := [("_law_cell", 3)]) (g := gName 3) rfl sc_l_dice.nd (pi_list (pv 0)) (blkOk_by (own := [("_law_cell", 3)]) (N := n_l_dice) (sc := (defScope s_l_dice)) (by decide +kernel)) (fun _ _ _ _ _ => (pg_name (i := 3) sc_l_dice.nd rfl (Or.inl rfl))) (fun _ _ _ _ _ => (pts_one (pt_cmpR op_ge (pv 3) (pe_op op_pow pe_int pe_int) (nomark _)))) (fun _ _ _ _ _ => (pv 3)))))))), ?_⟩
    refine ⟨.int 0, rfl, .ref a, rfl, a, rfl, ⟨_, hS⟩, for_list (xs := Ints ns) (fun i σ H' => ∃ y3 f, σ = [some (.ref a), some (.int 0), some (.int f), y3] ∧ 0 ≤ f ∧ f < 2147483647 ∧ H = H') ⟨none, 0, rfl, by decide, by decide, rfl⟩ ?_ ?_ ?_⟩
    · rintro i σ H' _ ⟨y3, f, rfl, h0, h1, rfl⟩
      exact hS
    · rintro i x σ H' hx ⟨y3, f, rfl, h0, h1, rfl⟩
      rw [List.getElem?_map] at hx
      obtain ⟨c, hc, rfl⟩ := Option.map_eq_some_iff.mp hx
      refine ⟨_, rfl, _, _, rfl, rfl, .inl ⟨by omega, by omega⟩, _, rfl, c, rfl, _, _, rfl, rfl, _, _, rfl, rfl, (by show (0 : Int) < 2147483647; decide), ?_⟩
      exact ⟨_, _, rfl, Int.emod_nonneg _ (by decide), Int.emod_lt_of_pos _ (by decide), rfl⟩
    · rintro σ H' ⟨y3, f, rfl, h0, h1, rfl⟩
      refine ⟨_, rfl, (by show 2 ≤ sizeLine; decide), fun l hl => ?_⟩
      have hS' := (Same.new (o := .lst [.int f, .int 0]) hl).seq hS
      refine ⟨_, rfl, a, rfl, ⟨_, hS'⟩, fun D hD => lc_list (xs := Ints ns) (fun i H' => ∃ bs, H' D = some (.lst (Ints bs)) ∧ (∀ b ∈ bs, 0 ≤ b) ∧ bs.length ≤ i ∧ H' l = some (.lst [.int f, .int 0]) ∧ Same H H') ?_ ?_ ?_ ?_⟩
      · have hlD : l ≠ D := ne_of_none upd_same hD
        exact ⟨[], upd_same, by simp, Nat.le_refl _, by rw [upd_ne hlD, upd_same], (Same.new hl).trans (Same.new hD)⟩
      · rintro i H' _ ⟨bs, _, _, _, _, sm⟩
        exact sm.seq hS
      · rintro i x H' hx ⟨bs, eD, hb, hbl, el, sm⟩
        rw [List.getElem?_map] at hx
        obtain ⟨c, hc, rfl⟩ := Option.map_eq_some_iff.mp hx
        have hi : i < ns.length := (List.getElem?_eq_some_iff.mp hc).1
        refine ⟨rfl, _, rfl, _, _, rfl, rfl, ⟨by decide, by decide, by decide⟩, _, _, rfl, rfl, _, rfl, ?_⟩
        refine ite2 (fun h => ?_) (fun h => ?_)
        · have hc : (10 : Int) ^ 18 ≤ c := of_decide_eq_true h
          refine ⟨_, rfl, _, eD, (by rw [List.length_map]; exact small1000 (by omega)), bs ++ [c], ?_, ?_, ?_, ?_, ?_⟩
          · rw [upd_same]
            simp
          · intro b hm
            rcases List.mem_append.mp hm with hm | hm
            · exact hb b hm
            · rw [List.mem_singleton.mp hm]
              have : (0 : Int) ≤ (10 : Int) ^ 18 := by decide
              omega
          · rw [List.length_append]
            simp
            omega
          · have hlD : l ≠ D := ne_of_none upd_same hD
            rw [upd_ne hlD]
            exact el
          · exact Same.mut sm (Same.free (Same.new hl) hD)
        · exact ⟨bs, eD, hb, by omega, el, sm⟩
      · rintro H' ⟨bs, eD, hb, hbl, el, sm⟩
        rw [List.length_map] at hbl
        refine ⟨l, D, _, _, rfl, rfl, el, eD, ?_, fun p hp => ?_⟩
        · simp only [List.length_map, List.length_cons, List.length_nil]
          exact Nat.le_of_lt (small1000 (by omega))
        · exact q _ p (f :: 0 :: bs) (sm.trans (Same.new hp)) (sm.free hp) (by rw [upd_same]; rfl) ⟨f, 0, bs, rfl, h0, h1, by decide, hb, by omega⟩

/-- a def that draws: the dice at d turns, all else stands -/
def spMixed : Sp := fun vs H Q _ => ∃ (d r : Addr) (ds : List Int) (cs : List Nat), vs = [.ref d, .ref r] ∧ H d = some (.lst (Ints ds)) ∧ Dice ds ∧ H r = some (.lst (Sgs cs)) ∧ cs.length ≤ 1000 ∧ (∀ c ∈ cs, c < 1114112) ∧
  ∀ H' p ds' ps, Keep d H H' → H p = none → H' d = some (.lst (Ints ds')) → Dice ds' → H' p = some (.lst (Sgs ps)) → ps.Perm cs → Q (.ref p) H'
def MixInv (d r l o : Addr) (H : Hp) (cs ls : List Nat) (σ : L2.St) (H' : Hp) : Prop :=
  ∃ ps ds', σ = [some (.ref d), some (.ref r), some (.ref l), some (.ref o)] ∧ Keep d H H' ∧ H' d = some (.lst (Ints ds')) ∧ Dice ds' ∧ H' l = some (.lst (Sgs ls)) ∧ H' o = some (.lst (Sgs ps)) ∧ (ps ++ ls).Perm cs
theorem erase_map {α β : Type} (f : α → β) (l : List α) (k : Nat) : (l.map f).eraseIdx k = (l.eraseIdx k).map f := by
  rw [List.eraseIdx_eq_take_drop_succ, List.eraseIdx_eq_take_drop_succ, List.map_append, List.map_take, List.map_drop]
theorem perm_take {ps ls : List Nat} {k : Nat} (h : k < ls.length) : ((ps ++ [ls[k]]) ++ ls.eraseIdx k).Perm (ps ++ ls) := by
  rw [List.append_assoc]
  refine List.Perm.append_left ps ?_
  show (ls[k] :: ls.eraseIdx k).Perm ls
  have e := List.eraseIdx_eq_take_drop_succ ls k
  rw [e]
  have e2 : ls = ls.take k ++ ls[k] :: ls.drop (k + 1) := by
    rw [List.getElem_cons_drop, List.take_append_drop]
  conv => rhs; rw [e2]
  exact List.perm_middle.symm
theorem ok_l_mixed (T : Txt K mg) : FnOk P w K mg base CX0 2 T.a_l_mixed T.d_l_mixed ["_law_d", "_law_row"] spMixed := by
  refine T.F_l_mixed.ok sc_l_mixed (fun vs H Q E h => ?_) (fun cdv A outer s H vs Q E hr h => ?_)
  · obtain ⟨d, r, ds, cs, rfl, _⟩ := h
    rfl
  · obtain ⟨d, r, ds, cs, rfl, hd, hD, hR, hlen, hcs, q⟩ := h
    refine ⟨_,
    (pss_cons (ps_set (i := 2) sc_l_mixed.nd rfl (Or.inl rfl) (pe_callTy call_list_of (by rfl) T.m_list (by decide +kernel) (pa_cons (pv 1) pa_nil))) 
    (pss_cons (ps_set (i := 3) sc_l_mixed.nd rfl (Or.inl rfl) (pe_lst pa_nil)) 
    (pss_cons (ps_while PassesOwn.never (pt_cmpR (op_neD hr.units) (pv 2) (pe_lst pa_nil) (nomark _)) 
      (pss_one (ps_expr (pe_bm PySem.F.plainAttrs_list PySem.F.slot_list_append PySem.F.type_list_append mt_append (pv 3) (pa_cons (pe_bm PySem.F.plainAttrs_list PySem.F.slot_list_pop PySem.F.type_list_pop mt_popAt (pv 2) (pa_cons (pe_call (ok_l_off T) (hr.mono (by decide)) (by rfl) T.g_l_off T.F_l_off.kp T.b_l_off .nil pass0 (pa_cons (pv 0) (pa_cons (pe_callB call_len_seq (by rfl) T.m_len PySem.boot_len (pa_cons (pv 2) pa_nil)) pa_nil))) pa_nil)) pa_nil))))) 
    (pss_one (ps_ret (pv 3)))))), ?_⟩
    refine ⟨.ref r, rfl, r, _, rfl, .inl (SqL.of hR), fun l hl => ⟨Nat.zero_le _, fun o ho => ?_⟩⟩
    have hlo : l ≠ o := ne_of_none upd_same ho
    have hdl : d ≠ l := ne_of_none hd hl
    have hdo : d ≠ o := ne_of_none (by rw [upd_ne hdl]; exact hd) ho
    have hoN : H o = none := Same.free (Same.new hl) ho
    refine ⟨fun m σ H' => ∃ ls, m = ls.length ∧ MixInv d r l o H cs ls σ H', ⟨_, cs, rfl, [], ds, rfl, Keep.same ((Same.new hl).trans (Same.new ho)), ?_, hD, ?_, upd_same, List.Perm.refl _⟩, ?_⟩
    · rw [upd_ne hdo, upd_ne hdl]
      exact hd
    · rw [upd_ne hlo, upd_same]
    · rintro m σ H' ⟨ls, rfl, ps, ds', rfl, kp, ed, hD', el, eo, pm⟩
      have hls : ∀ c ∈ ls, c < 1114112 := fun c hc => hcs c (pm.mem_iff.mp (List.mem_append_right _ hc))
      have hll : ps.length + ls.length = cs.length := by
        rw [← List.length_append]
        exact pm.length_eq
      refine ⟨_, rfl, Nat.zero_le _, fun t ht => ?_⟩
      have st : Same H' (upd H' t (.lst [])) := Same.new ht
      have kt : Keep d H (upd H' t (.lst [])) := kp.trans (Keep.same st)
      refine ⟨dSgs ls, .list [], Dp.sgs (st _ _ el), .lst (SqL.of upd_same) .nil, shaped_sgs hls, rfl, _, rfl, ite2 (fun h => ?_) (fun h => ?_)⟩
      · have hne : ls ≠ [] := by
          rintro rfl
          simp [eqv_nil] at h
        have hpos : 0 < ls.length := List.length_pos_iff.mpr hne
        refine ⟨fun σ' H' => ∃ ls', ls'.length < ls.length ∧ MixInv d r l o H cs ls' σ' H', fun σ' H' hN => ?_, ?_⟩
        · obtain ⟨ls', h1, h2⟩ := hN
          exact ⟨ls'.length, h1, ls', rfl, h2⟩
        · refine ⟨_, rfl, .inl ⟨rfl, _, SqL.of (st _ _ eo)⟩, _, rfl, .inl ⟨rfl, _, SqL.of (st _ _ el)⟩, _, rfl, _, rfl, l, _, rfl, .inl (SqL.of (st _ _ el)), ?_⟩
          refine ⟨d, ds', _, rfl, st _ _ ed, hD', by simp; omega, by simp; omega, fun k ds2 hk0 hk1 hD2 => ?_⟩
          have hlk : k.toNat < ls.length := by
            simp at hk1
            omega
          have el2 : (upd (upd H' t (.lst [])) d (.lst (Ints ds2))) l = some (.lst (Sgs ls)) := by
            rw [upd_ne hdl.symm]
            exact st _ _ el
          have eo2 : (upd (upd H' t (.lst [])) d (.lst (Ints ds2))) o = some (.lst (Sgs ps)) := by
            rw [upd_ne hdo.symm]
            exact st _ _ eo
          refine ⟨l, _, k, k.toNat, sg ls[k.toNat], rfl, rfl, el2, by omega, by omega, ?_, ?_, ?_⟩
          · simp [seqIndex?]
            simp at hk1
            omega
          · rw [List.getElem?_map, List.getElem?_eq_getElem hlk]
            rfl
          · refine ⟨o, _, _, rfl, rfl, (by rw [upd_ne hlo.symm]; exact eo2), ?_, ls.eraseIdx k.toNat, ?_, ps ++ [ls[k.toNat]], ds2, rfl, ?_, ?_, hD2, ?_, ?_, ?_⟩
            · rw [List.length_map]
              exact small1000 (by omega)
            · rw [List.length_eraseIdx_of_lt hlk]
              omega
            · exact ((kt.trans Keep.upd).mut hl).mut hoN
            · rw [upd_ne hdo, upd_ne hdl, upd_same]
            · rw [upd_ne hlo, upd_same, erase_map]
            · rw [upd_same]
              simp
            · exact (perm_take hlk).trans pm
      · have e : ls = [] := by
          have : PyData.eqv (dSgs ls) (.list []) = true := by
            cases hh : PyData.eqv (dSgs ls) (.list []) with
            | true => rfl
            | false =>
              rw [hh] at h
              exact absurd rfl h
          rw [eqv_nil] at this
          cases ls with
          | nil => rfl
          | cons _ _ => cases this
        subst e
        rw [List.append_nil] at pm
        exact ⟨_, rfl, q _ o ds' ps kt hoN (st _ _ ed) hD' (st _ _ eo) pm⟩

/-! ### the drawn sets -/
def sg0 : List Nat := (List.range 10).map (· + 97) ++ [32] ++ (List.range 7).map (· + 48) ++ [46, 44, 45, 120]
def sg1 : List Nat := (List.range 127).filter fun c => decide (32 ≤ c) && !decide (c = 34) && !decide (c = 37) && !decide (c = 92)
theorem sg0_ok : sg0.length = 22 ∧ sg0.Nodup ∧ ∀ c ∈ sg0, c < 127 := by decide +kernel
theorem sg1_ok : sg1.length = 92 ∧ sg1.Nodup ∧ ∀ c ∈ sg1, c < 127 := by decide +kernel
/-- 22 signs -/
def Signs (cs : List Nat) : Prop := cs.length = 22 ∧ cs.Nodup ∧ ∀ c ∈ cs, c < 127
theorem Signs.turn {cs : List Nat} (h : Signs cs) (n : Nat) : Signs (cs.drop n ++ cs.take n) := by
  have pm : (cs.drop n ++ cs.take n).Perm cs := by
    have := List.perm_append_comm (l₁ := cs.drop n) (l₂ := cs.take n)
    rw [List.take_append_drop] at this
    exact this
  exact ⟨by rw [pm.length_eq]; exact h.1, pm.nodup_iff.mpr h.2.1, fun c hc => h.2.2 c (pm.mem_iff.mp hc)⟩
theorem join_cut (ps : List Nat) (n : Int) (h : 0 ≤ n) : cutV (Sgs ps) none (some n) = ((ps.take n.toNat).map fun c => S [c]).map V.str := by
  rw [cutV_to h, ← Sgs_eq]
  exact List.map_take.symm
theorem at_many {k0 k1 : Int} (h0 : 0 ≤ k0) (h1 : k0 < 10) (h2 : 0 ≤ k1) (h3 : k1 < 4) : ∃ m : Int, atI [V.int 3, V.int 4, V.int 6, V.int (1 + k0)] k1 = some (.int m) ∧ 1 ≤ m ∧ m ≤ 10 := by
  have : k1 = 0 ∨ k1 = 1 ∨ k1 = 2 ∨ k1 = 3 := by omega
  rcases this with rfl | rfl | rfl | rfl
  · exact ⟨3, atI_nat (j := 0) rfl, by decide, by decide⟩
  · exact ⟨4, atI_nat (j := 1) rfl, by decide, by decide⟩
  · exact ⟨6, atI_nat (j := 2) rfl, by decide, by decide⟩
  · exact ⟨1 + k0, atI_nat (j := 3) rfl, by omega, by omega⟩
def spSets : Sp := fun vs H Q _ => ∃ (d : Addr) (ds : List Int), vs = [.ref d] ∧ H d = some (.lst (Ints ds)) ∧ Dice ds ∧
  ∀ H' p ds' one two, Keep d H H' → H p = none → H' d = some (.lst (Ints ds')) → Dice ds' → SetsAt H' p one two → Sets one two → Q (.ref p) H'
theorem ok_l_sets (T : Txt K mg) : FnOk P w K mg base CX0 3 T.a_l_sets T.d_l_sets ["_law_d"] spSets := by
  refine T.F_l_sets.ok sc_l_sets (fun vs H Q E h => ?_) (fun cdv A outer s H vs Q E hr h => ?_)
  · obtain ⟨d, ds, rfl, _⟩ := h
    rfl
  · obtain ⟨d, ds, rfl, hd, hD, q⟩ := h
    refine ⟨_,
    (pss_cons (ps_set (i := 1) sc_l_sets.nd rfl (Or.inl rfl) (pe_ix ix_list (pe_lst (pa_cons pe_int (pa_cons pe_int (pa_cons pe_int (pa_cons (pe_op op_add pe_int (pe_call (ok_l_offK T) (hr.mono (by decide)) (by rfl) T.g_l_off T.F_l_off.kp T.b_l_off .nil pass0 (pa_cons (pv 0) (pa_cons pe_int pa_nil)))) pa_nil))))) (pe_call (ok_l_offK T) (hr.mono (by decide)) (by rfl) T.g_l_off T.F_l_off.kp T.b_l_off .nil pass0 (pa_cons (pv 0) (pa_cons pe_int pa_nil))) (fun _ _ => rfl))) 
    (pss_cons (ps_set (i := 2) sc_l_sets.nd rfl (Or.inl rfl) pe_str) 
    (C8.pss_cut (ps_if (pt_cmpR op_eq (pe_call (ok_l_offK T) (hr.mono (by decide)) (by rfl) T.g_l_off T.F_l_off.kp T.b_l_off .nil pass0 (pa_cons (pv 0) (pa_cons pe_int pa_nil))) pe_int (nomark _)) 
      (pss_cons (ps_set (i := 3) sc_l_sets.nd rfl (Or.inl rfl) pe_str) 
      (pss_one (ps_set (i := 2) sc_l_sets.nd rfl (Or.inl rfl) (pe_join pe_str (pe_slice sl_list (pe_call (ok_l_mixed T) (hr.mono (by decide)) (by rfl) T.g_l_mixed T.F_l_mixed.kp T.b_l_mixed .nil pass0 (pa_cons (pv 0) (pa_cons (pe_callTy (call_list_text rfl) (by rfl) T.m_list (by decide +kernel) (pa_cons (pv 3) pa_nil)) pa_nil))) po_none (po_some pe_int)))))) pss_nil) 
    (pss_cons (ps_set (i := 4) sc_l_sets.nd rfl (Or.inl rfl) (pe_call (ok_l_offK T) (hr.mono (by decide)) (by rfl) T.g_l_off T.F_l_off.kp T.b_l_off .nil pass0 (pa_cons (pv 0) (pa_cons pe_int pa_nil)))) 
    (pss_cons (ps_set (i := 2) sc_l_sets.nd rfl (Or.inl rfl) (pe_op op_add_str (pe_slice sl_str (pv 2) (po_some (pv 4)) po_none) (pe_slice sl_str (pv 2) po_none (po_some (pv 4))))) 
    (pss_cons (ps_set (i := 5) sc_l_sets.nd rfl (Or.inl rfl) (pe_join pe_str (pe_slice sl_list (pe_call (ok_l_mixed T) (hr.mono (by decide)) (by rfl) T.g_l_mixed T.F_l_mixed.kp T.b_l_mixed .nil pass0 (pa_cons (pv 0) (pa_cons (pe_callTy (call_list_text rfl) (by rfl) T.m_list (by decide +kernel) (pa_cons (pe_slice sl_str (pv 2) po_none (po_some (pe_op op_add (pv 1) (pe_call (ok_l_offK T) (hr.mono (by decide)) (by rfl) T.g_l_off T.F_l_off.kp T.b_l_off .nil pass0 (pa_cons (pv 0) (pa_cons pe_int pa_nil)))))) pa_nil)) pa_nil))) po_none (po_some (pv 1))))) 
    (pss_cons (ps_set (i := 6) sc_l_sets.nd rfl (Or.inl rfl) (pe_op op_add pe_int (pe_call (ok_l_offK T) (hr.mono (by decide)) (by rfl) T.g_l_off T.F_l_off.kp T.b_l_off .nil pass0 (pa_cons (pv 0) (pa_cons pe_int pa_nil))))) 
    (pss_cons (ps_set (i := 7) sc_l_sets.nd rfl (Or.inr rfl) pe_str) 
    (pss_cons (ps_set (i := 8) sc_l_sets.nd rfl (Or.inl rfl) (pe_call (ok_l_mixed T) (hr.mono (by decide)) (by rfl) T.g_l_mixed T.F_l_mixed.kp T.b_l_mixed .nil pass0 (pa_cons (pv 0) (pa_cons (pe_callTy (call_list_text rfl) (by rfl) T.m_list (by decide +kernel) (pa_cons (pv 2) pa_nil)) pa_nil)))) 
    (pss_cons (ps_for PassesOwn.never rfl (pi_range1 (by rfl) T.m_range (pa_cons (pv 1) pa_nil)) (pg_name (i := 9) sc_l_sets.nd rfl (Or.inl rfl)) 
      (pss_one (ps_if (pt_cut (PW.pt (pw_and (pt_cmpR op_eq (pe_call (ok_l_offK T) (hr.mono (by decide)) (by rfl) T.g_l_off T.F_l_off.kp T.b_l_off .nil pass0 (pa_cons (pv 0) (pa_cons (pv 6) pa_nil))) pe_int (nomark _)) (pw_and1 (pt_cmpR op_notIn_sign (pe_ix ix_str (pv 5) (pv 9) (fun _ _ => rfl)) (pv 7) (by rfl)))))) 
        (pss_one (ps_set (i := 7) sc_l_sets.nd rfl (Or.inr rfl) (pe_op op_add_str (pv 7) (pe_ix ix_str (pv 5) (pv 9) (fun _ _ => rfl))))) 
        (pss_cons (ps_setLc (i := 10) (own := [("_law_sign", 11)]) (g := gName 11) rfl sc_l_sets.nd rfl rfl (sw_true rfl rfl rfl (by decide +kernel)) (pi_list (pv 8)) (blkOk_by (own := [("_law_sign", 11)]) (N := n_l_sets) (sc := (defScope s_l_sets)) (by decide +kernel)) (fun _ _ _ _ _ => (pg_name (i := 11) sc_l_sets.nd rfl (Or.inl rfl))) (fun _ _ _ _ _ => (pts_one (pt_cmpR op_notIn_sign (pv 11) (pv 7) (by rfl)))) (fun _ _ _ _ _ => (pv 11))) 
        (pss_one (ps_set (i := 7) sc_l_sets.nd rfl (Or.inr rfl) (pe_op op_add_str (pv 7) (pe_ix ix_list (pv 10) pe_int (fun _ _ => rfl))))))))) 
    (pss_one (ps_ret (pe_tup (pa_cons (pv 5) (pa_cons (pv 7) pa_nil))))))))))))))), ?_⟩
    -- how many signs
    refine ⟨_, rfl, d, ds, 10, rfl, hd, hD, by decide, by decide, fun k0 ds0 H0 hk0 hk0' hD0 kp0 e0 => ?_⟩
    refine ⟨_, _, rfl, rfl, (by show 4 ≤ sizeLine; decide), fun l hl => ?_⟩
    have hdl : d ≠ l := ne_of_none e0 hl
    refine ⟨_, rfl, d, ds0, 4, rfl, (by rw [upd_ne hdl]; exact e0), hD0, by decide, by decide, fun k1 ds1 H1 hk1 hk1' hD1 kp1 e1 => ?_⟩
    obtain ⟨m, hm, hm1, hm2⟩ := at_many hk0 hk0' hk1 hk1'
    refine ⟨l, _, k1, .int m, rfl, rfl, SqL.of (kp1 l _ hdl.symm upd_same), hm, ?_⟩
    have kpA : Keep d H H1 := kp0.trans ((Keep.same (Same.new hl)).trans kp1)
    -- which signs
    refine ⟨fun σ' H' => ∃ cs y3 ds', σ' = [some (.ref d), some (.int m), some (.str (S cs)), y3, none, none, none, none, none, none, none, none] ∧ Keep d H H' ∧ H' d = some (.lst (Ints ds')) ∧ Dice ds' ∧ Signs cs, ?_, ?_⟩
    · refine ⟨_, rfl, d, ds1, 4, rfl, e1, hD1, by decide, by decide, fun k2 ds2 H2 hk2 hk2' hD2 kp2 e2 => ?_⟩
      refine ⟨rfl, _, rfl, ite2 (fun h => ?_) (fun h => ?_)⟩
      · refine ⟨⟨_, rfl⟩, _, rfl, _, rfl, sg1, by rfl, small_le (by rw [sg1_ok.1]; decide), fun r hr => ?_⟩
        have hdr : d ≠ r := ne_of_none e2 hr
        refine ⟨d, r, ds2, sg1, rfl, (by rw [upd_ne hdr]; exact e2), hD2, upd_same, (by rw [sg1_ok.1]; decide), fun c hc => Nat.lt_trans (sg1_ok.2.2 c hc) (by decide), fun H3 p ds3 ps kp3 hp e3 hD3 ep pm => ?_⟩
        refine ⟨22, rfl, p, _, rfl, SqL.of ep, fun z hz => ?_⟩
        have hdz : d ≠ z := ne_of_none e3 hz
        have hl3 : ps.length = 92 := by rw [pm.length_eq, sg1_ok.1]
        refine ⟨S [], z, (ps.take 22).map (fun c => S [c]), rfl, rfl, .inl (SqL.of (by rw [upd_same, join_cut ps 22 (by decide)]; rfl)), ?_, ?_⟩
        · rw [len_sgs, List.length_map, List.length_take, S_len]
          simp
          omega
        · rw [join_sgs]
          refine ⟨_, _, ds3, rfl, (kpA.trans (kp2.trans ((Keep.same (Same.new hr)).trans kp3))).trans (Keep.same (Same.new hz)), by rw [upd_ne hdz]; exact e3, hD3, ?_, ?_, ?_⟩
          · rw [List.length_take, hl3]
            rfl
          · exact (List.take_sublist 22 ps).nodup (pm.nodup_iff.mpr sg1_ok.2.1)
          · exact fun c hc => sg1_ok.2.2 c (pm.mem_iff.mp (List.mem_of_mem_take hc))
      · exact ⟨sg0, none, ds2, by rfl, kpA.trans kp2, e2, hD2, sg0_ok⟩
    · rintro σ' H2 ⟨cs0, y3, ds2, rfl, kp2, e2, hD2, hs0⟩
      -- turned
      refine ⟨_, rfl, d, ds2, 20, rfl, e2, hD2, by decide, by decide, fun k3 ds3 H3 hk3 hk3' hD3 kp3 e3 => ?_⟩
      refine ⟨_, rfl, _, rfl, k3, rfl, S cs0, rfl, small_le (by rw [S_len, hs0.1]; decide), ?_⟩
      refine ⟨_, rfl, _, rfl, k3, rfl, S cs0, rfl, small_le (by rw [S_len, hs0.1]; decide), ?_⟩
      rw [cut_from hk3, cut_to hk3]
      have hs1 := hs0.turn k3.toNat
      refine ⟨_, _, rfl, rfl, small_le ?_, ?_⟩
      · rw [S_len, S_len, ← List.length_append, hs1.1]
        decide
      rw [S_cat]
      generalize cs0.drop k3.toNat ++ cs0.take k3.toNat = cs at hs1 ⊢
      have kpB : Keep d H H3 := kp2.trans kp3
      -- the first set
      refine ⟨⟨_, rfl⟩, _, rfl, _, rfl, _, rfl, _, rfl, d, ds3, 3, rfl, e3, hD3, by decide, by decide, fun k4 ds4 H4 hk4 hk4' hD4 kp4 e4 => ?_⟩
      refine ⟨_, _, rfl, rfl, m + k4, rfl, S cs, rfl, small_le (by rw [S_len, hs1.1]; decide), ?_⟩
      rw [cut_to (by omega)]
      refine ⟨_, rfl, small_le (by rw [List.length_take, hs1.1]; omega), fun r hr => ?_⟩
      have hdr : d ≠ r := ne_of_none e4 hr
      refine ⟨d, r, ds4, _, rfl, (by rw [upd_ne hdr]; exact e4), hD4, upd_same, (by rw [List.length_take, hs1.1]; omega), fun c hc => Nat.lt_trans (hs1.2.2 c (List.mem_of_mem_take hc)) (by decide), fun H5 p ds5 ps kp5 hp e5 hD5 ep pm => ?_⟩
      refine ⟨_, rfl, m, rfl, p, _, rfl, SqL.of ep, fun z hz => ?_⟩
      have hdz : d ≠ z := ne_of_none e5 hz
      have hl5 : ps.length = min (m + k4).toNat 22 := by rw [pm.length_eq, List.length_take, hs1.1]
      refine ⟨S [], z, (ps.take m.toNat).map (fun c => S [c]), rfl, rfl, .inl (SqL.of (by rw [upd_same, join_cut ps m (by omega)])), ?_, ?_⟩
      · rw [len_sgs, List.length_map, List.length_take, S_len]
        simp
        omega
      rw [join_sgs]
      have hone : (ps.take m.toNat).length = m.toNat ∧ (ps.take m.toNat).Nodup ∧ ∀ c ∈ ps.take m.toNat, c < 127 := by
        refine ⟨by rw [List.length_take, hl5]; omega, ?_, fun c hc => hs1.2.2 c (List.mem_of_mem_take (pm.mem_iff.mp (List.mem_of_mem_take hc)))⟩
        exact (List.take_sublist _ _).nodup (pm.nodup_iff.mpr ((List.take_sublist _ _).nodup hs1.2.1))
      generalize ps.take m.toNat = one at hone ⊢
      have kpC : Keep d H (upd H5 z (.lst (cutV (Sgs ps) none (some m)))) := (kpB.trans (kp4.trans ((Keep.same (Same.new hr)).trans kp5))).trans (Keep.same (Same.new hz))
      have eC : (upd H5 z (.lst (cutV (Sgs ps) none (some m)))) d = some (.lst (Ints ds5)) := by
        rw [upd_ne hdz]
        exact e5
      generalize upd H5 z (.lst (cutV (Sgs ps) none (some m))) = H6 at kpC eC ⊢
      -- the second one
      refine ⟨_, rfl, d, ds5, 4, rfl, eC, hD5, by decide, by decide, fun k6 ds6 H7 hk6 hk6' hD6 kp6 e6 => ?_⟩
      refine ⟨_, _, rfl, rfl, ?_⟩
      refine ⟨_, rfl, _, rfl, cs, rfl, small_le (by rw [hs1.1]; decide), fun r2 hr2 => ?_⟩
      have hdr2 : d ≠ r2 := ne_of_none e6 hr2
      refine ⟨d, r2, ds6, cs, rfl, (by rw [upd_ne hdr2]; exact e6), hD6, upd_same, (by rw [hs1.1]; decide), fun c hc => Nat.lt_trans (hs1.2.2 c hc) (by decide), fun H8 lf ds8 ls kp8 hlf e8 hD8 elf pm2 => ?_⟩
      have kpD : Keep d H H8 := kpC.trans (kp6.trans ((Keep.same (Same.new hr2)).trans kp8))
      have hln : ls.Nodup := pm2.nodup_iff.mpr hs1.2.1
      have hll : ls.length = 22 := by rw [pm2.length_eq, hs1.1]
      have hlc : ∀ c ∈ ls, c < 127 := fun c hc => hs1.2.2 c (pm2.mem_iff.mp hc)
      have hdlf : d ≠ lf := ne_of_none (by rw [upd_ne hdr2]; exact e6) hlf
      have hoff : 1 ≤ 1 + k6 ∧ 1 + k6 < 1000000 := by omega
      refine ⟨_, rfl, m, rfl, by omega, by omega, for_range (n := m.toNat) (fun i σ H' => ∃ ot y9 y10 y11 ds', σ = [some (.ref d), some (.int m), some (.str (S cs)), y3, some (.int k3), some (.str (S one)), some (.int (1 + k6)), some (.str (S ot)), some (.ref lf), y9, y10, y11] ∧
        Keep d H H' ∧ H' d = some (.lst (Ints ds')) ∧ Dice ds' ∧ H' lf = some (.lst (Sgs ls)) ∧ ot.length = i ∧ ot.Nodup ∧ ∀ c ∈ ot, c < 127) ⟨[], none, none, none, ds8, rfl, kpD, e8, hD8, elf, rfl, List.nodup_nil, by simp⟩ ?_ ?_⟩
      · rintro i σ H' hi ⟨ot, y9, y10, y11, ds', rfl, kp, ed, hD', ef, hol, hon, hoc⟩
        have hio : i < one.length := by omega
        have hiz : (0 : Int) ≤ 0 + (i : Nat) ∧ (0 : Int) + (i : Nat) < (one.length : Int) := by omega
        have hic : one.getD ((0 : Int) + (i : Nat)).toNat 0 ∈ one := by
          rw [show ((0 : Int) + (i : Nat)).toNat = i by omega, List.getD_eq_getElem?_getD, List.getElem?_eq_getElem hio]
          exact List.getElem_mem hio
        have hat := at_sign hiz.1 hiz.2
        generalize one.getD ((0 : Int) + (i : Nat)).toNat 0 = c at hic hat
        refine ⟨fun H1 => ∃ ds', Keep d H H1 ∧ H1 d = some (.lst (Ints ds')) ∧ Dice ds' ∧ H1 lf = some (.lst (Sgs ls)) ∧ c ∉ ot, fun H1 => ∃ ds', Keep d H H1 ∧ H1 d = some (.lst (Ints ds')) ∧ Dice ds' ∧ H1 lf = some (.lst (Sgs ls)), ?_, ?_, ?_⟩
        · refine ⟨_, rfl, _, rfl, d, ds', 1 + k6, rfl, ed, hD', hoff.1, hoff.2, fun k9 ds9 H9 hk9 hk9' hD9 kp9 e9 => ?_⟩
          have kp2 := kp.trans kp9
          have ef2 := kp9 _ _ hdlf.symm ef
          refine ⟨rfl, _, rfl, ite2 (fun h => ?_) (fun h => ?_)⟩
          · refine ⟨_, rfl, _, rfl, S one, _, c, rfl, rfl, small_le (by rw [S_len]; omega), hat, _, rfl, c, S ot, rfl, rfl, _, rfl, ?_⟩
            by_cases hc : c ∈ ot
            · rw [decide_eq_true (show c ∈ (S ot).cps.toList from hc)]
              exact ⟨ds9, kp2, e9, hD9, ef2⟩
            · rw [decide_eq_false (show ¬ c ∈ (S ot).cps.toList from hc)]
              exact ⟨ds9, kp2, e9, hD9, ef2, hc⟩
          · exact iteF ⟨ds9, kp2, e9, hD9, ef2⟩
        · rintro H1 ⟨ds1, kp1, e1, hD1, ef1, hc⟩
          refine ⟨_, rfl, _, rfl, _, rfl, S one, _, c, rfl, rfl, small_le (by rw [S_len]; omega), hat, S ot, S [c], rfl, rfl, small_le (by rw [S_len, S_len]; simp; omega), ?_⟩
          refine ⟨ot ++ [c], _, _, _, ds1, by rw [← S_cat]; rfl, kp1, e1, hD1, ef1, by simp [hol], ?_, ?_⟩
          · rw [List.nodup_append]
            exact ⟨hon, by simp, fun a ha b hb e => by
              rw [List.mem_singleton.mp hb] at e
              exact hc (e ▸ ha)⟩
          · intro x hx
            rcases List.mem_append.mp hx with hx | hx
            · exact hoc x hx
            · rw [List.mem_singleton.mp hx]
              exact hone.2.2 c hic
        · rintro H1 ⟨ds1, kp1, e1, hD1, ef1⟩
          have elf1 : SqL K H1 lf (Sgs ls) := SqL.of ef1
          refine ⟨_, rfl, lf, rfl, ⟨_, elf1⟩, fun D hD => lc_list (xs := Sgs ls) (fun j H' => H' D = some (.lst (Sgs (off2 (ls.take j) ot))) ∧ Same H1 H') ⟨upd_same, Same.new hD⟩ ?_ ?_ ?_⟩
          · rintro j H' _ ⟨_, sm⟩
            exact SqL.of (sm _ _ ef1)
          · rintro j x H' hx ⟨eD, sm⟩
            obtain ⟨e, hex, rfl⟩ := sgs_at hx
            have hj : j < ls.length := (List.getElem?_eq_some_iff.mp hex).1
            refine ⟨rfl, _, rfl, _, rfl, e, S ot, rfl, rfl, _, rfl, ?_⟩
            rw [take_snoc hex, off2_snoc]
            by_cases hc : e ∈ ot
            · rw [decide_eq_true (show e ∈ (S ot).cps.toList from hc), if_pos hc]
              exact ⟨eD, sm⟩
            · rw [decide_eq_false (show ¬ e ∈ (S ot).cps.toList from hc), if_neg hc]
              refine ⟨_, rfl, _, eD, ?_, ?_, Same.mut sm hD⟩
              · rw [len_sg]
                have := List.length_filter_le (fun c => !decide (c ∈ ot)) (ls.take j)
                rw [List.length_take] at this
                exact small1000 (by unfold off2; omega)
              · rw [upd_same, sgs_snoc]
          · rintro H' ⟨eD, sm⟩
            rw [len_sg, List.take_of_length_le (Nat.le_refl _)] at eD
            obtain ⟨e, r, e1', hel, heo⟩ := off2_ne hln (show ot.length < ls.length by omega)
            rw [e1'] at eD
            refine ⟨_, rfl, _, rfl, D, _, 0, sg e, rfl, rfl, SqL.of eD, atI_nat (j := 0) rfl, S ot, S [e], rfl, rfl, small_le (by rw [S_len, S_len]; simp; omega), ?_⟩
            refine ⟨ot ++ [e], _, _, _, ds1, by rw [← S_cat]; rfl, kp1.trans (Keep.same sm), sm _ _ e1, hD1, sm _ _ ef1, by simp [hol], ?_, ?_⟩
            · rw [List.nodup_append]
              exact ⟨hon, by simp, fun a ha b hb e => by
                rw [List.mem_singleton.mp hb] at e
                exact heo (e ▸ ha)⟩
            · intro x hx
              rcases List.mem_append.mp hx with hx | hx
              · exact hoc x hx
              · rw [List.mem_singleton.mp hx]
                exact hlc e hel
      · rintro σ H' ⟨ot, y9, y10, y11, ds', rfl, kp, ed, hD', ef, hol, hon, hoc⟩
        refine ⟨_, rfl, _, rfl, (by show 2 ≤ sizeLine; decide), fun p hp => ?_⟩
        have hdp : d ≠ p := ne_of_none ed hp
        refine q _ p ds' one ot (kp.trans (Keep.same (Same.new hp))) (kp.free ed hp) (by rw [upd_ne hdp]; exact ed) hD' upd_same ⟨by omega, by omega, by omega, hone.2.1, hon, hone.2.2, hoc⟩

def spTape : Sp := fun vs H Q _ => ∃ (d t : Addr) (ds : List Int) (one two : List Nat) (m : Int), vs = [.ref d, .ref t, .int m] ∧ H d = some (.lst (Ints ds)) ∧ Dice ds ∧ SetsAt H t one two ∧ Sets one two ∧ 0 ≤ m ∧ m ≤ 200 ∧
  ∀ H' p ds' tp, Keep d H H' → H p = none → H' d = some (.lst (Ints ds')) → Dice ds' → H' p = some (.lst (Ints tp)) → Tape one.length tp → (tp.length : Int) ≤ m → Q (.ref p) H'
theorem ok_l_tape (T : Txt K mg) : FnOk P w K mg base CX0 2 T.a_l_tape T.d_l_tape ["_law_d", "_law_sets_here", "_law_most"] spTape := by
  refine T.F_l_tape.ok sc_l_tape (fun vs H Q E h => ?_) (fun cdv A outer s H vs Q E hr h => ?_)
  · obtain ⟨d, t, ds, one, two, m, rfl, _⟩ := h
    rfl
  · obtain ⟨d, t, ds, one, two, m, rfl, hd, hD, hT, hs, hm0, hm1, q⟩ := h
    have hp := hs.pos
    have ht := hs.top
    have htd : t ≠ d := ne_of hT hd (by intro z; cases z)
    refine ⟨_,
    (pss_cons (ps_set (i := 3) sc_l_tape.nd rfl (Or.inl rfl) (pe_op op_add pe_int (pe_call (ok_l_off T) (hr.mono (by decide)) (by rfl) T.g_l_off T.F_l_off.kp T.b_l_off .nil pass0 (pa_cons (pv 0) (pa_cons pe_int pa_nil))))) 
    (pss_cons (ps_set (i := 4) sc_l_tape.nd rfl (Or.inl rfl) (pe_lst pa_nil)) 
    (pss_cons (ps_for PassesOwn.never rfl (pi_range1 (by rfl) T.m_range (pa_cons (pe_call (ok_l_off T) (hr.mono (by decide)) (by rfl) T.g_l_off T.F_l_off.kp T.b_l_off .nil pass0 (pa_cons (pv 0) (pa_cons (pe_op op_add (pv 2) pe_int) pa_nil))) pa_nil)) (pg_name (i := 5) sc_l_tape.nd rfl (Or.inl rfl)) 
      (pss_cons (ps_set (i := 6) sc_l_tape.nd rfl (Or.inl rfl) (pe_call (ok_l_off T) (hr.mono (by decide)) (by rfl) T.g_l_off T.F_l_off.kp T.b_l_off .nil pass0 (pa_cons (pv 0) (pa_cons (pe_callB call_len_str (by rfl) T.m_len PySem.boot_len (pa_cons (pe_ix ix_tup (pv 1) pe_int (fun _ _ => rfl)) pa_nil)) pa_nil)))) 
      (C8.pss_cut (ps_if (pt_cmpR op_eq (pe_call (ok_l_off T) (hr.mono (by decide)) (by rfl) T.g_l_off T.F_l_off.kp T.b_l_off .nil pass0 (pa_cons (pv 0) (pa_cons (pv 3) pa_nil))) pe_int (nomark _)) 
        (pss_one (ps_set (i := 6) sc_l_tape.nd rfl (Or.inl rfl) (pe_op op_add (pe_callB call_len_str (by rfl) T.m_len PySem.boot_len (pa_cons (pe_ix ix_tup (pv 1) pe_int (fun _ _ => rfl)) pa_nil)) (pe_call (ok_l_off T) (hr.mono (by decide)) (by rfl) T.g_l_off T.F_l_off.kp T.b_l_off .nil pass0 (pa_cons (pv 0) (pa_cons pe_int pa_nil)))))) pss_nil) 
      (pss_one (ps_expr (pe_bm PySem.F.plainAttrs_list PySem.F.slot_list_append PySem.F.type_list_append mt_append (pv 4) (pa_cons (pv 6) pa_nil))))))) 
    (pss_one (ps_ret (pv 4)))))), ?_⟩
    refine ⟨_, rfl, d, ds, 5, rfl, hd, hD, by decide, by decide, fun k1 ds1 hk0 hk1 hD1 => ?_⟩
    refine ⟨_, _, rfl, rfl, Nat.zero_le _, fun o ho => ?_⟩
    have hdo : d ≠ o := ne_of_none upd_same ho
    have hoN : H o = none := Keep.free (Keep.upd (H := H) (d := d) (o := .lst (Ints ds1))) upd_same ho
    refine ⟨_, rfl, _, rfl, _, _, rfl, rfl, d, ds1, _, rfl, (by rw [upd_ne hdo, upd_same]), hD1, by omega, by omega, fun k2 ds2 hk2 hk3 hD2 => ?_⟩
    refine ⟨k2, rfl, by omega, by omega, for_range (n := k2.toNat) (fun i σ H' => ∃ y5 y6 tp ds', σ = [some (.ref d), some (.ref t), some (.int m), some (.int (2 + k1)), some (.ref o), y5, y6] ∧ Keep d H H' ∧ H' d = some (.lst (Ints ds')) ∧ Dice ds' ∧
      H' o = some (.lst (Ints tp)) ∧ tp.length = i ∧ ∀ c ∈ tp, 0 ≤ c ∧ c < (one.length : Int) + 2) ⟨none, none, [], ds2, rfl, ?_, upd_same, hD2, ?_, rfl, by simp⟩ ?_ ?_⟩
    · exact ((Keep.upd).trans (Keep.same (Same.new ho))).trans Keep.upd
    · rw [upd_ne hdo.symm, upd_same]
      rfl
    · rintro i σ H' hi ⟨y5, y6, tp, ds', rfl, kp, ed, hD', eo, hl, hc⟩
      have eT : H' t = some (.tup [.str (S one), .str (S two)]) := kp t _ htd hT
      refine ⟨_, rfl, _, rfl, t, _, 0, _, rfl, rfl, SqT.of eT, atI_nat (j := 0) rfl, _, rfl, small_le (by rw [S_len]; omega), ?_⟩
      refine ⟨d, ds', _, rfl, ed, hD', (by rw [S_len]; omega), (by rw [S_len]; omega), fun k3 ds3 hk4 hk5 hD3 => ?_⟩
      rw [S_len] at hk5
      refine ⟨fun σ H' => ∃ c ds', σ = [some (.ref d), some (.ref t), some (.int m), some (.int (2 + k1)), some (.ref o), some (.int (0 + (i : Int))), some (.int c)] ∧ Keep d H H' ∧ H' d = some (.lst (Ints ds')) ∧ Dice ds' ∧
        H' o = some (.lst (Ints tp)) ∧ 0 ≤ c ∧ c < (one.length : Int) + 2, ?_, ?_⟩
      · have e3 : (upd H' d (.lst (Ints ds3))) d = some (.lst (Ints ds3)) := upd_same
        have k3' : Keep d H (upd H' d (.lst (Ints ds3))) := kp.trans Keep.upd
        have eo3 : (upd H' d (.lst (Ints ds3))) o = some (.lst (Ints tp)) := by
          rw [upd_ne hdo.symm]
          exact eo
        refine ⟨_, rfl, _, rfl, d, ds3, _, rfl, e3, hD3, by omega, by omega, fun k4 ds4 hk6 hk7 hD4 => ?_⟩
        have eT4 : (upd (upd H' d (.lst (Ints ds3))) d (.lst (Ints ds4))) t = some (.tup [.str (S one), .str (S two)]) := by
          rw [upd_ne htd, upd_ne htd]
          exact eT
        have eo4 : (upd (upd H' d (.lst (Ints ds3))) d (.lst (Ints ds4))) o = some (.lst (Ints tp)) := by
          rw [upd_ne hdo.symm]
          exact eo3
        refine ⟨rfl, _, rfl, ite2 (fun h => ?_) (fun h => ?_)⟩
        · refine ⟨_, rfl, t, _, 0, _, rfl, rfl, SqT.of eT4, atI_nat (j := 0) rfl, _, rfl, small_le (by rw [S_len]; omega), ?_⟩
          refine ⟨_, rfl, d, ds4, 2, rfl, upd_same, hD4, by decide, by decide, fun k5 ds5 hk8 hk9 hD5 => ?_⟩
          refine ⟨_, _, rfl, rfl, _, ds5, rfl, (k3'.trans Keep.upd).trans Keep.upd, upd_same, hD5, ?_, ?_, ?_⟩
          · rw [upd_ne hdo.symm]
            exact eo4
          · rw [S_len]
            omega
          · rw [S_len]
            omega
        · exact ⟨k3, ds4, rfl, k3'.trans Keep.upd, upd_same, hD4, eo4, hk4, by omega⟩
      · rintro σ' H2 ⟨c, ds', rfl, kp, ed, hD', eo, hc0, hc1⟩
        refine ⟨_, rfl, .inl ⟨rfl, _, SqL.of eo⟩, _, rfl, o, _, _, rfl, rfl, eo, ?_, _, _, tp ++ [c], ds', rfl, kp.mut hoN, ?_, hD', ?_, ?_, ?_⟩
        · rw [List.length_map]
          exact small1000 (by omega)
        · rw [upd_ne hdo]
          exact ed
        · rw [upd_same]
          simp
        · simp [hl]
        · intro x hx
          rcases List.mem_append.mp hx with hx | hx
          · exact hc x hx
          · rw [List.mem_singleton.mp hx]
            exact ⟨hc0, hc1⟩
    · rintro σ H' ⟨y5, y6, tp, ds', rfl, kp, ed, hD', eo, hl, hc⟩
      exact ⟨_, rfl, q H' o ds' tp kp hoN ed hD' eo ⟨by omega, hc⟩ (by omega)⟩

/-! ### data in tracked objects -/
mutual
inductive Tk (H : Hp) : V → PyData → Prop
  | non : Tk H .non .none
  | bl (b : Bool) : Tk H (.bl b) (.bool b)
  | int (i : Int) : Tk H (.int i) (.int i)
  | str (x : Str) : Tk H (.str x) (.str x)
  | lst {a : Addr} {xs : List V} {ds : List PyData} : H a = some (.lst xs) → xs.length ≤ 1000 → TkAll H xs ds → Tk H (.ref a) (.list ds)
  | tup {a : Addr} {xs : List V} {ds : List PyData} : H a = some (.tup xs) → xs.length ≤ 1000 → TkAll H xs ds → Tk H (.ref a) (.tuple ds)
inductive TkAll (H : Hp) : List V → List PyData → Prop
  | nil : TkAll H [] []
  | cons {v : V} {vs : List V} {d : PyData} {ds : List PyData} : Tk H v d → TkAll H vs ds → TkAll H (v :: vs) (d :: ds)
end
mutual
theorem Tk.same {H H' : Hp} (s : Same H H') : ∀ {v : V} {d : PyData}, Tk H v d → Tk H' v d
  | _, _, .non => .non
  | _, _, .bl b => .bl b
  | _, _, .int i => .int i
  | _, _, .str x => .str x
  | _, _, .lst h z t => .lst (s _ _ h) z (TkAll.same s t)
  | _, _, .tup h z t => .tup (s _ _ h) z (TkAll.same s t)
theorem TkAll.same {H H' : Hp} (s : Same H H') : ∀ {vs : List V} {ds : List PyData}, TkAll H vs ds → TkAll H' vs ds
  | _, _, .nil => .nil
  | _, _, .cons a b => .cons (Tk.same s a) (TkAll.same s b)
end
theorem TkAll.len {H : Hp} : ∀ {vs : List V} {ds : List PyData}, TkAll H vs ds → vs.length = ds.length
  | _, _, .nil => rfl
  | _, _, .cons _ t => by rw [List.length_cons, List.length_cons, TkAll.len t]
theorem TkAll.at {H : Hp} : ∀ {vs : List V} {ds : List PyData} {i : Nat}, TkAll H vs ds → i < ds.length → ∃ v d, vs[i]? = some v ∧ ds[i]? = some d ∧ Tk H v d
  | _, _, _, .nil, h => by simp at h
  | _, _, 0, .cons (v := v) (d := d) a _, _ => ⟨v, d, rfl, rfl, a⟩
  | _, _, i + 1, .cons _ t, h => by
    obtain ⟨v, d, h1, h2, h3⟩ := TkAll.at (i := i) t (by simpa using h)
    exact ⟨v, d, by simpa using h1, by simpa using h2, h3⟩
theorem Tk.inv_list {H : Hp} {y : V} {ds : List PyData} (h : Tk H y (.list ds)) : ∃ b ys, y = .ref b ∧ H b = some (.lst ys) ∧ ys.length ≤ 1000 ∧ TkAll H ys ds := by
  cases h with
  | lst hb z tb => exact ⟨_, _, rfl, hb, z, tb⟩
theorem Tk.inv_tuple {H : Hp} {y : V} {ds : List PyData} (h : Tk H y (.tuple ds)) : ∃ b ys, y = .ref b ∧ H b = some (.tup ys) ∧ ys.length ≤ 1000 ∧ TkAll H ys ds := by
  cases h with
  | tup hb z tb => exact ⟨_, _, rfl, hb, z, tb⟩
def tyN : PyData → String
  | .none => "NoneType"
  | .bool _ => "bool"
  | .int _ => "int"
  | .str _ => "str"
  | .list _ => "list"
  | .tuple _ => "tuple"
  | .dict _ => "dict"
theorem Tk.ty {K : PySem.W.Frag} {H : Hp} {x : V} {d : PyData} (h : Tk H x d) : TyX K H x (.type (tyN d)) := by
  cases h with
  | non => exact .base .non
  | bl b => exact .base (.bl b)
  | int i => exact .base (.int i)
  | str s => exact .base (.str s)
  | lst h _ _ => exact .base (.lst h)
  | tup h _ _ => exact .base (.tup h)
theorem isi_step {K : PySem.W.Frag} {H : Hp} {x : V} {d : PyData} {c : String} {b : Bool} {Q : VK} (h : Tk H x d) (k : kitB (tyN d) c = some b) (q : Q (.bl b) H) : rIsi K [x, .ty c] H Q :=
  ⟨x, .ty c, _, _, b, rfl, .ty c, h.ty, kit_ty k, q⟩
theorem depth_at : ∀ {ds : List PyData} {i : Nat} {d : PyData}, ds[i]? = some d → d.depth ≤ PyData.depthAll ds
  | [], _, _, h => by simp at h
  | x :: xs, 0, d, h => by
    simp at h
    subst h
    simp only [PyData.depthAll]
    exact Nat.le_max_left _ _
  | x :: xs, i + 1, d, h => by
    have := depth_at (ds := xs) (i := i) (by simpa using h)
    simp only [PyData.depthAll]
    exact Nat.le_trans this (Nat.le_max_right _ _)
def spAlike (n : Nat) : Sp := fun vs H Q _ => ∃ (x y : V) (d : PyData), vs = [x, y] ∧ Tk H x d ∧ Tk H y d ∧ d.depth < n ∧ ∀ H', Same H H' → Q (.bl true) H'
theorem ok_l_alike (T : Txt K mg) : ∀ n, FnOk P w K mg base CX0 n T.a_l_alike T.d_l_alike ["_law_found", "_law_due"] (spAlike n)
  | 0 => ⟨fun vs H Q E h => by
      obtain ⟨x, y, d, rfl, _⟩ := h
      rfl, fun A outer s H args us vs Q E hr he hb hv h => by
      obtain ⟨x, y, d, _, _, _, h, _⟩ := h
      exact absurd h (Nat.not_lt_zero _)⟩
  | n + 1 => by
    have GA : FnOk P w K mg base CX0 n T.a_l_alike T.d_l_alike ["_law_found", "_law_due"] (spAlike n) := ok_l_alike T n
    refine T.F_l_alike.ok sc_l_alike (fun vs H Q E h => ?_) (fun cdv A outer s H vs Q E hr h => ?_)
    · obtain ⟨x, y, d, rfl, _⟩ := h
      rfl
    · obtain ⟨x, y, d, rfl, hx, hy, hdp, q⟩ := h
      refine ⟨_,
    (pss_cons (ps_if (pt_cmpR op_isN (pv 1) pe_non (nomark _)) 
      (pss_one (ps_ret (pe_cmpR op_isN (pv 0) pe_non (nomark _)))) pss_nil) 
    (pss_cons (ps_if (pt_val (pe_callB call_isi (by rfl) T.m_isinstance (by decide +kernel) (pa_cons (pv 1) (pa_cons (pe_bltn (v := .ty "bool") (by rfl) T.m_bool (by decide +kernel) rfl) pa_nil)))) 
      (pss_one (ps_ret (pe_and (pe_callB call_isi (by rfl) T.m_isinstance (by decide +kernel) (pa_cons (pv 0) (pa_cons (pe_bltn (v := .ty "bool") (by rfl) T.m_bool (by decide +kernel) rfl) pa_nil))) (pe_one (pe_cmpR op_eq (pv 0) (pv 1) (nomark _)))))) pss_nil) 
    (pss_cons (ps_if (pt_val (pe_callB call_isi (by rfl) T.m_isinstance (by decide +kernel) (pa_cons (pv 1) (pa_cons (pe_bltn (v := .ty "int") (by rfl) T.m_int (by decide +kernel) rfl) pa_nil)))) 
      (pss_one (ps_ret (pe_and (pe_callB call_isi (by rfl) T.m_isinstance (by decide +kernel) (pa_cons (pv 0) (pa_cons (pe_bltn (v := .ty "int") (by rfl) T.m_int (by decide +kernel) rfl) pa_nil))) (pe_and (pe_not (pe_callB call_isi (by rfl) T.m_isinstance (by decide +kernel) (pa_cons (pv 0) (pa_cons (pe_bltn (v := .ty "bool") (by rfl) T.m_bool (by decide +kernel) rfl) pa_nil)))) (pe_one (pe_cmpR op_eq (pv 0) (pv 1) (nomark _))))))) pss_nil) 
    (pss_cons (ps_if (pt_val (pe_callB call_isi (by rfl) T.m_isinstance (by decide +kernel) (pa_cons (pv 1) (pa_cons (pe_bltn (v := .ty "str") (by rfl) T.m_str (by decide +kernel) rfl) pa_nil)))) 
      (pss_one (ps_ret (pe_and (pe_callB call_isi (by rfl) T.m_isinstance (by decide +kernel) (pa_cons (pv 0) (pa_cons (pe_bltn (v := .ty "str") (by rfl) T.m_str (by decide +kernel) rfl) pa_nil))) (pe_one (pe_cmpR op_eq (pv 0) (pv 1) (nomark _)))))) pss_nil) 
    (pss_cons (ps_if (PW.pt (pw_or (pt_cmpR op_ne (pe_callB call_isi (by rfl) T.m_isinstance (by decide +kernel) (pa_cons (pv 1) (pa_cons (pe_bltn (v := .ty "tuple") (by rfl) T.m_tuple (by decide +kernel) rfl) pa_nil))) (pe_callB call_isi (by rfl) T.m_isinstance (by decide +kernel) (pa_cons (pv 0) (pa_cons (pe_bltn (v := .ty "tuple") (by rfl) T.m_tuple (by decide +kernel) rfl) pa_nil))) (nomark _)) (pw_or1 (pt_cmpR op_ne (pe_callB call_isi (by rfl) T.m_isinstance (by decide +kernel) (pa_cons (pv 1) (pa_cons (pe_bltn (v := .ty "list") (by rfl) T.m_list (by decide +kernel) rfl) pa_nil))) (pe_callB call_isi (by rfl) T.m_isinstance (by decide +kernel) (pa_cons (pv 0) (pa_cons (pe_bltn (v := .ty "list") (by rfl) T.m_list (by decide +kernel) rfl) pa_nil))) (nomark _))))) 
      (pss_one (ps_ret pe_bl)) pss_nil) 
    (pss_cons (ps_if (pt_cmpR op_ne (pe_callB call_len_seq (by rfl) T.m_len PySem.boot_len (pa_cons (pv 0) pa_nil)) (pe_callB call_len_seq (by rfl) T.m_len PySem.boot_len (pa_cons (pv 1) pa_nil)) (nomark _)) 
      (pss_one (ps_ret pe_bl)) pss_nil) 
    (pss_one (ps_ret (pe_callB (cr_all rfl) (by rfl) T.m_all (by decide +kernel) (pa_cons (pe_lc (own := [("_law_k", 2)]) (g := gName 2) (tt := tYes) rfl sc_l_alike.nd (pi_range1 (by rfl) T.m_range (pa_cons (pe_callB call_len_seq (by rfl) T.m_len PySem.boot_len (pa_cons (pv 1) pa_nil)) pa_nil)) (blkOk_by (own := [("_law_k", 2)]) (N := n_l_alike) (sc := (defScope s_l_alike)) (by decide +kernel)) (fun _ _ _ _ _ => (pg_name (i := 2) sc_l_alike.nd rfl (Or.inl rfl))) (fun _ _ _ _ _ => pts_nil) (fun _ _ _ _ _ => (pe_call GA hr (by rfl) T.g_l_alike T.F_l_alike.kp T.b_l_alike .nil pass0 (pa_cons (pe_ix (ix_seq : IxR _ (rIx K)) (pv 0) (pv 2) (fun _ _ => rfl)) (pa_cons (pe_ix (ix_seq : IxR _ (rIx K)) (pv 1) (pv 2) (fun _ _ => rfl)) pa_nil))))) pa_nil)))))))))), ?_⟩
      cases hx with
      | non =>
        cases hy
        exact ⟨_, rfl, rfl, _, rfl, iteT ⟨_, rfl, rfl, q _ (Same.refl _)⟩⟩
      | bl b =>
        have hy' := hy
        cases hy
        refine ⟨_, rfl, rfl, _, rfl, iteF ?_⟩
        refine ⟨_, rfl, _, _, _, _, true, rfl, .ty _, hy'.ty, kit_ty (by dsimp only [tyN]; decide +kernel), ⟨true, rfl, iteT ?_⟩⟩
        refine ⟨_, rfl, _, _, _, _, true, rfl, .ty _, hy'.ty, kit_ty (by dsimp only [tyN]; decide +kernel), ⟨true, rfl, iteT ?_⟩⟩
        exact ⟨_, rfl, _, rfl, rfl, by rw [decide_eq_true rfl]; exact q _ (Same.refl _)⟩
      | int i =>
        have hy' := hy
        cases hy
        refine ⟨_, rfl, rfl, _, rfl, iteF ?_⟩
        refine ⟨_, rfl, _, _, _, _, false, rfl, .ty _, hy'.ty, kit_ty (by dsimp only [tyN]; decide +kernel), ⟨false, rfl, iteF ?_⟩⟩
        refine ⟨_, rfl, _, _, _, _, true, rfl, .ty _, hy'.ty, kit_ty (by dsimp only [tyN]; decide +kernel), ⟨true, rfl, iteT ?_⟩⟩
        refine ⟨_, rfl, _, _, _, _, true, rfl, .ty _, hy'.ty, kit_ty (by dsimp only [tyN]; decide +kernel), ⟨true, rfl, iteT ?_⟩⟩
        refine ⟨_, rfl, _, _, _, _, false, rfl, .ty _, hy'.ty, kit_ty (by dsimp only [tyN]; decide +kernel), ⟨false, rfl, ?_⟩⟩
        refine ⟨true, rfl, iteT ?_⟩
        exact ⟨_, rfl, _, rfl, rfl, by rw [decide_eq_true rfl]; exact q _ (Same.refl _)⟩
      | str z =>
        have hy' := hy
        cases hy
        refine ⟨_, rfl, rfl, _, rfl, iteF ?_⟩
        refine ⟨_, rfl, _, _, _, _, false, rfl, .ty _, hy'.ty, kit_ty (by dsimp only [tyN]; decide +kernel), ⟨false, rfl, iteF ?_⟩⟩
        refine ⟨_, rfl, _, _, _, _, false, rfl, .ty _, hy'.ty, kit_ty (by dsimp only [tyN]; decide +kernel), ⟨false, rfl, iteF ?_⟩⟩
        refine ⟨_, rfl, _, _, _, _, true, rfl, .ty _, hy'.ty, kit_ty (by dsimp only [tyN]; decide +kernel), ⟨true, rfl, iteT ?_⟩⟩
        refine ⟨_, rfl, _, _, _, _, true, rfl, .ty _, hy'.ty, kit_ty (by dsimp only [tyN]; decide +kernel), ⟨true, rfl, iteT ?_⟩⟩
        exact ⟨_, rfl, _, rfl, rfl, by rw [decide_eq_true rfl]; exact q _ (Same.refl _)⟩
      | @lst a xs ds ha za ta =>
        have hx' : Tk H (.ref a) (.list _) := .lst ha za ta
        have hy' := hy
        obtain ⟨b, ys, rfl, hb, zb, tb⟩ := hy.inv_list
        have ea : SqL K H a xs ∨ SqT K H a xs := .inl (SqL.of ha)
        have eb : SqL K H b ys ∨ SqT K H b ys := .inl (SqL.of hb)
        refine ⟨_, rfl, rfl, _, rfl, iteF ?_⟩
        refine ⟨_, rfl, _, _, _, _, false, rfl, .ty _, hy'.ty, kit_ty (by dsimp only [tyN]; decide +kernel), ⟨false, rfl, iteF ?_⟩⟩
        refine ⟨_, rfl, _, _, _, _, false, rfl, .ty _, hy'.ty, kit_ty (by dsimp only [tyN]; decide +kernel), ⟨false, rfl, iteF ?_⟩⟩
        refine ⟨_, rfl, _, _, _, _, false, rfl, .ty _, hy'.ty, kit_ty (by dsimp only [tyN]; decide +kernel), ⟨false, rfl, iteF ?_⟩⟩
        refine ⟨_, rfl, _, _, _, _, false, rfl, .ty _, hy'.ty, kit_ty (by dsimp only [tyN]; decide +kernel), ?_⟩
        refine ⟨_, rfl, _, _, _, _, false, rfl, .ty _, hx'.ty, kit_ty (by dsimp only [tyN]; decide +kernel), rfl, _, rfl, iteF ?_⟩
        refine ⟨_, rfl, _, _, _, _, true, rfl, .ty _, hy'.ty, kit_ty (by dsimp only [tyN]; decide +kernel), ?_⟩
        refine ⟨_, rfl, _, _, _, _, true, rfl, .ty _, hx'.ty, kit_ty (by dsimp only [tyN]; decide +kernel), rfl, _, rfl, iteF ?_⟩
        have la := ta.len
        have lb := tb.len
        refine ⟨_, rfl, a, xs, rfl, ea, _, rfl, b, ys, rfl, eb, rfl, _, rfl, iteNS (by rw [la, lb]) ?_⟩
        simp only [PyData.depth] at hdp
        refine ⟨_, rfl, b, ys, rfl, eb, _, rfl, by omega, by omega, fun D hD => lc_range (lo := 0) (n := ((ys.length : Nat) : Int).toNat) (fun i H' => H' D = some (.lst ((List.replicate i true).map V.bl)) ∧ Same H H') ⟨upd_same, Same.new hD⟩ ?_ ?_⟩
        · rintro i H' hi ⟨eD, sm⟩
          have hi' : i < ds.length := by omega
          obtain ⟨v1, d1, e1, e2, t1⟩ := TkAll.at ta hi'
          obtain ⟨v2, d2, e3, e4, t2⟩ := TkAll.at tb hi'
          rw [e2] at e4
          cases e4
          have dd := depth_at e2
          have z0 : (0 : Int) + (i : Nat) = ((i : Nat) : Int) := Int.zero_add _
          have ix1 : atI xs ((0 : Int) + (i : Nat)) = some v1 := by
            rw [z0]
            exact atI_nat e1
          have ix2 : atI ys ((0 : Int) + (i : Nat)) = some v2 := by
            rw [z0]
            exact atI_nat e3
          refine ⟨rfl, _, rfl, _, rfl, .inl ⟨a, xs, _, v1, rfl, rfl, SqL.of (sm _ _ ha), ix1, _, rfl, _, rfl, .inl ⟨b, ys, _, v2, rfl, rfl, SqL.of (sm _ _ hb), ix2, ?_⟩⟩⟩
          refine ⟨v1, v2, d1, rfl, Tk.same sm t1, Tk.same sm t2, by omega, fun H2 s2 => ?_⟩
          have eD2 := s2 _ _ eD
          refine ⟨_, eD2, ?_, ?_, ?_⟩
          · rw [List.length_map, List.length_replicate]
            exact small1000 (by omega)
          · rw [upd_same]
            congr 2
            rw [List.replicate_succ', List.map_append]
            rfl
          · exact Same.mut (sm.trans s2) hD
        · rintro H' ⟨eD, sm⟩
          refine ⟨D, _, rfl, SqL.of eD, ?_⟩
          have e : (List.replicate ((ys.length : Nat) : Int).toNat true).all id = true := by
            rw [List.all_eq_true]
            intro z hz
            rw [List.eq_of_mem_replicate hz]
            rfl
          rw [e]
          exact q _ sm
      | @tup a xs ds ha za ta =>
        have hx' : Tk H (.ref a) (.tuple _) := .tup ha za ta
        have hy' := hy
        obtain ⟨b, ys, rfl, hb, zb, tb⟩ := hy.inv_tuple
        have ea : SqL K H a xs ∨ SqT K H a xs := .inr (SqT.of ha)
        have eb : SqL K H b ys ∨ SqT K H b ys := .inr (SqT.of hb)
        refine ⟨_, rfl, rfl, _, rfl, iteF ?_⟩
        refine ⟨_, rfl, _, _, _, _, false, rfl, .ty _, hy'.ty, kit_ty (by dsimp only [tyN]; decide +kernel), ⟨false, rfl, iteF ?_⟩⟩
        refine ⟨_, rfl, _, _, _, _, false, rfl, .ty _, hy'.ty, kit_ty (by dsimp only [tyN]; decide +kernel), ⟨false, rfl, iteF ?_⟩⟩
        refine ⟨_, rfl, _, _, _, _, false, rfl, .ty _, hy'.ty, kit_ty (by dsimp only [tyN]; decide +kernel), ⟨false, rfl, iteF ?_⟩⟩
        refine ⟨_, rfl, _, _, _, _, true, rfl, .ty _, hy'.ty, kit_ty (by dsimp only [tyN]; decide +kernel), ?_⟩
        refine ⟨_, rfl, _, _, _, _, true, rfl, .ty _, hx'.ty, kit_ty (by dsimp only [tyN]; decide +kernel), rfl, _, rfl, iteF ?_⟩
        refine ⟨_, rfl, _, _, _, _, false, rfl, .ty _, hy'.ty, kit_ty (by dsimp only [tyN]; decide +kernel), ?_⟩
        refine ⟨_, rfl, _, _, _, _, false, rfl, .ty _, hx'.ty, kit_ty (by dsimp only [tyN]; decide +kernel), rfl, _, rfl, iteF ?_⟩
        have la := ta.len
        have lb := tb.len
        refine ⟨_, rfl, a, xs, rfl, ea, _, rfl, b, ys, rfl, eb, rfl, _, rfl, iteNS (by rw [la, lb]) ?_⟩
        simp only [PyData.depth] at hdp
        refine ⟨_, rfl, b, ys, rfl, eb, _, rfl, by omega, by omega, fun D hD => lc_range (lo := 0) (n := ((ys.length : Nat) : Int).toNat) (fun i H' => H' D = some (.lst ((List.replicate i true).map V.bl)) ∧ Same H H') ⟨upd_same, Same.new hD⟩ ?_ ?_⟩
        · rintro i H' hi ⟨eD, sm⟩
          have hi' : i < ds.length := by omega
          obtain ⟨v1, d1, e1, e2, t1⟩ := TkAll.at ta hi'
          obtain ⟨v2, d2, e3, e4, t2⟩ := TkAll.at tb hi'
          rw [e2] at e4
          cases e4
          have dd := depth_at e2
          have z0 : (0 : Int) + (i : Nat) = ((i : Nat) : Int) := Int.zero_add _
          have ix1 : atI xs ((0 : Int) + (i : Nat)) = some v1 := by
            rw [z0]
            exact atI_nat e1
          have ix2 : atI ys ((0 : Int) + (i : Nat)) = some v2 := by
            rw [z0]
            exact atI_nat e3
          refine ⟨rfl, _, rfl, _, rfl, .inr (.inl ⟨a, xs, _, v1, rfl, rfl, SqT.of (sm _ _ ha), ix1, _, rfl, _, rfl, .inr (.inl ⟨b, ys, _, v2, rfl, rfl, SqT.of (sm _ _ hb), ix2, ?_⟩)⟩)⟩
          refine ⟨v1, v2, d1, rfl, Tk.same sm t1, Tk.same sm t2, by omega, fun H2 s2 => ?_⟩
          have eD2 := s2 _ _ eD
          refine ⟨_, eD2, ?_, ?_, ?_⟩
          · rw [List.length_map, List.length_replicate]
            exact small1000 (by omega)
          · rw [upd_same]
            congr 2
            rw [List.replicate_succ', List.map_append]
            rfl
          · exact Same.mut (sm.trans s2) hD
        · rintro H' ⟨eD, sm⟩
          refine ⟨D, _, rfl, SqL.of eD, ?_⟩
          have e : (List.replicate ((ys.length : Nat) : Int).toNat true).all id = true := by
            rw [List.all_eq_true]
            intro z hz
            rw [List.eq_of_mem_replicate hz]
            rfl
          rw [e]
          exact q _ sm

theorem tkall_ints {H : Hp} : ∀ ns : List Int, TkAll H (Ints ns) (ns.map .int)
  | [] => .nil
  | n :: ns => .cons (.int n) (tkall_ints ns)
theorem tk_ints {H : Hp} {p : Addr} {ns : List Int} (h : H p = some (.lst (Ints ns))) (hl : ns.length ≤ 1000) : Tk H (.ref p) (dInts ns) :=
  .lst h (by rw [List.length_map]; exact hl) (tkall_ints ns)
theorem depth_ints (ns : List Int) : (dInts ns).depth < 2 := by
  have := (flat_lay (flat_ints ns)).2
  simp [PyData.depth, this]
theorem at_four {k : Int} (h0 : 0 ≤ k) (h1 : k < 4) : ∃ m : Int, atI [V.int 40, V.int 40, V.int 40, V.int 200] k = some (.int m) ∧ 0 ≤ m ∧ m ≤ 200 := by
  have : k = 0 ∨ k = 1 ∨ k = 2 ∨ k = 3 := by omega
  rcases this with rfl | rfl | rfl | rfl
  · exact ⟨40, atI_nat (j := 0) rfl, by decide, by decide⟩
  · exact ⟨40, atI_nat (j := 1) rfl, by decide, by decide⟩
  · exact ⟨40, atI_nat (j := 2) rfl, by decide, by decide⟩
  · exact ⟨200, atI_nat (j := 3) rfl, by decide, by decide⟩

/-- whether a text can be a set -/
def canBe (cs : List Nat) : Bool := decide (1 ≤ cs.length) && decide (cs.length ≤ 10) && decide (cs.Nodup)
theorem uniq_iff (cs : List Nat) : (uniq cs).length = cs.length ↔ cs.Nodup := by
  have h : ∀ (cs l : List Nat), l.Nodup → ((cs.foldl (fun l c => if l.contains c then l else l ++ [c]) l).length ≤ l.length + cs.length) ∧ ((cs.foldl (fun l c => if l.contains c then l else l ++ [c]) l).length = l.length + cs.length ↔ (l ++ cs).Nodup) := by
    intro cs
    induction cs with
    | nil =>
      intro l hl
      simp [hl]
    | cons c cs ih =>
      intro l hl
      rw [List.foldl_cons]
      by_cases hc : l.contains c = true
      · rw [if_pos hc]
        obtain ⟨h1, h2⟩ := ih l hl
        have hm : c ∈ l := by simpa using hc
        rw [List.length_cons]
        refine ⟨by omega, fun e => ?_, fun e => ?_⟩
        · omega
        · rw [List.nodup_append] at e
          exact absurd rfl (e.2.2 c hm c (by simp))
      · rw [if_neg hc]
        have hm : c ∉ l := by simpa using hc
        have hl2 : (l ++ [c]).Nodup := by
          rw [List.nodup_append]
          exact ⟨hl, by simp, fun a ha b hb e => by
            rw [List.mem_singleton.mp hb] at e
            exact hm (e ▸ ha)⟩
        obtain ⟨h1, h2⟩ := ih (l ++ [c]) hl2
        rw [List.append_assoc] at h2
        rw [List.length_append, List.length_singleton] at h1 h2
        rw [List.length_cons]
        exact ⟨by omega, by rw [show l.length + (cs.length + 1) = l.length + 1 + cs.length by omega]; exact h2⟩
  have := (h cs [] List.nodup_nil).2
  simpa [uniq] using this
def spCan : Sp := fun vs H Q _ => ∃ cs : List Nat, vs = [.str (S cs)] ∧ cs.length ≤ 1000 ∧ Q (.bl (canBe cs)) H
theorem ok_p_can_be_set (T : Txt K mg) : FnOk P w K mg base CX0 1 T.a_p_can_be_set T.d_p_can_be_set ["text"] spCan := by
  refine T.F_p_can_be_set.ok sc_p_can_be_set (fun vs H Q E h => ?_) (fun cdv A outer s H vs Q E hr h => ?_)
  · obtain ⟨cs, rfl, _⟩ := h
    rfl
  · obtain ⟨cs, rfl, hl, q⟩ := h
    have hlen : ((S cs).length : Int) = (cs.length : Int) := by rw [S_len]
    refine ⟨_,
    (pss_one (ps_ret (pe_and (pe_chain op_le op_le pe_int (pe_callB call_len_str (by rfl) T.m_len PySem.boot_len (pa_cons (pv 0) pa_nil)) (pe_glob (v := .int 10) (by rfl) T.c_MOST_SIGNS ⟨_, rfl⟩)) (pe_one (pe_cmpR op_eq (pe_lenSetTxt rfl (by rfl) T.m_len (by rfl) T.m_set (pv 0)) (pe_callB call_len_str (by rfl) T.m_len PySem.boot_len (pa_cons (pv 0) pa_nil)) (nomark _)))))), ?_⟩
    refine ⟨_, rfl, _, rfl, small_le (by rw [S_len]; omega), _, _, rfl, rfl, _, rfl, ite2 (fun h1 => ?_) (fun h1 => ?_)⟩
    · have h1' : (1 : Int) ≤ ((S cs).length : Int) := of_decide_eq_true h1
      rw [hlen] at h1'
      refine ⟨_, _, rfl, rfl, _, rfl, ite2 (fun h2 => ?_) (fun h2 => ?_)⟩
      · have h2' : ((S cs).length : Int) ≤ 10 := of_decide_eq_true h2
        rw [hlen] at h2'
        refine ⟨_, rfl, _, rfl, hl, _, rfl, _, rfl, small_le (by rw [S_len]; omega), rfl, ?_⟩
        have e : canBe cs = decide (V.int ((uniq cs).length : Int) = V.int ((S cs).length : Int)) := by
          rw [hlen]
          unfold canBe
          rw [decide_eq_true (by omega), decide_eq_true (by omega)]
          simp only [Bool.true_and]
          rw [decide_eq_decide, ← uniq_iff]
          constructor
          · intro h
            rw [h]
          · intro h
            have := V.int.inj h
            omega
        rw [e] at q
        exact q
      · have h2' : ¬ ((S cs).length : Int) ≤ 10 := fun h => h2 (decide_eq_true h)
        rw [hlen] at h2'
        have e : canBe cs = false := by
          unfold canBe
          rw [decide_eq_false (p := cs.length ≤ 10) (by omega)]
          simp
        rw [e] at q
        exact q
    · have h1' : ¬ (1 : Int) ≤ ((S cs).length : Int) := fun h => h1 (decide_eq_true h)
      rw [hlen] at h1'
      have e : canBe cs = false := by
        unfold canBe
        rw [decide_eq_false (p := 1 ≤ cs.length) (by omega)]
        simp
      rw [e] at q
      exact ⟨false, rfl, iteF q⟩

theorem canBe_of {cs : List Nat} (h1 : 1 ≤ cs.length) (h2 : cs.length ≤ 10) (h3 : cs.Nodup) : canBe cs = true := by
  unfold canBe
  simp [h1, h2, h3]
def spCheckSets : Sp := fun vs H Q _ => ∃ (t : Addr) (one two : List Nat), vs = [.ref t] ∧ SetsAt H t one two ∧ Sets one two ∧ Q .non H
theorem ok_p_check_sets (T : Txt K mg) : FnOk P w K mg base CX0 2 T.a_p_check_sets T.d_p_check_sets ["sets"] spCheckSets := by
  refine T.F_p_check_sets.ok sc_p_check_sets (fun vs H Q E h => ?_) (fun cdv A outer s H vs Q E hr h => ?_)
  · obtain ⟨t, one, two, rfl, _⟩ := h
    rfl
  · obtain ⟨t, one, two, rfl, hT, hs, q⟩ := h
    have hp := hs.pos
    have ht := hs.top
    have hsm := hs.same
    refine ⟨_,
    (pss_cons (ps_asg (pv 0) (pg_tup rfl (pgs_cons (pg_name (i := 1) sc_p_check_sets.nd rfl (Or.inl rfl)) (pgs_cons (pg_name (i := 2) sc_p_check_sets.nd rfl (Or.inl rfl)) pgs_nil)))) 
    (pss_cons (ps_if (pt_not (pt_val (pe_call (ok_p_can_be_set T) (hr.mono (by decide)) (by rfl) T.g_p_can_be_set T.F_p_can_be_set.kp T.b_p_can_be_set .nil pass0 (pa_cons (pv 1) pa_nil)))) 
      (pss_one ps_never) pss_nil) 
    (pss_one (ps_if (PW.pt (pw_or (pt_cmpR op_ne (pe_callB call_len_str (by rfl) T.m_len PySem.boot_len (pa_cons (pv 2) pa_nil)) (pe_callB call_len_str (by rfl) T.m_len PySem.boot_len (pa_cons (pv 1) pa_nil)) (nomark _)) (pw_or1 (pt_not (pt_val (pe_call (ok_p_can_be_set T) (hr.mono (by decide)) (by rfl) T.g_p_can_be_set T.F_p_can_be_set.kp T.b_p_can_be_set .nil pass0 (pa_cons (pv 2) pa_nil))))))) 
      (pss_one ps_never) pss_nil)))), ?_⟩
    refine ⟨_, rfl, t, _, rfl, SqT.of hT, rfl, _, _, rfl, _, _, rfl, rfl, ?_⟩
    refine ⟨_, rfl, one, rfl, by omega, _, rfl, ?_⟩
    rw [canBe_of hp ht hs.nd1]
    refine iteF ?_
    refine ⟨_, rfl, _, rfl, small_le (by rw [S_len]; omega), _, rfl, _, rfl, small_le (by rw [S_len]; omega), rfl, _, rfl, ?_⟩
    have e : (V.int ((S two).length : Int)) = V.int ((S one).length : Int) := by
      rw [S_len, S_len, hsm]
    refine iteNS e ?_
    refine ⟨_, rfl, two, rfl, by omega, _, rfl, ?_⟩
    rw [canBe_of (by omega) (by omega) hs.nd2]
    exact iteF q
def spCheckTape : Sp := fun vs H Q _ => ∃ (t a : Addr) (one two : List Nat) (tp : List Int), vs = [.ref t, .ref a] ∧ SetsAt H t one two ∧ Sets one two ∧ H a = some (.lst (Ints tp)) ∧ Tape one.length tp ∧ ∀ H', Same H H' → Q .non H'
theorem ok_p_check_tape (T : Txt K mg) : FnOk P w K mg base CX0 1 T.a_p_check_tape T.d_p_check_tape ["sets", "tape"] spCheckTape := by
  refine T.F_p_check_tape.ok sc_p_check_tape (fun vs H Q E h => ?_) (fun cdv A outer s H vs Q E hr h => ?_)
  · obtain ⟨t, a, one, two, tp, rfl, _⟩ := h
    rfl
  · obtain ⟨t, a, one, two, tp, rfl, hT, hs, hA, ⟨hl, hc⟩, q⟩ := h
    have ht := hs.top
    refine ⟨_,
    (pss_cons (ps_set (i := 2) sc_p_check_tape.nd rfl (Or.inl rfl) (pe_op op_add (pe_callB call_len_str (by rfl) T.m_len PySem.boot_len (pa_cons (pe_ix ix_tup (pv 0) pe_int (fun _ _ => rfl)) pa_nil)) pe_int)) 
    (pss_one (ps_for PassesOwn.never rfl (pi_enum (by rfl) T.m_enumerate (pa_cons (pv 1) pa_nil)) (pg_tup rfl (pgs_cons (pg_name (i := 3) sc_p_check_tape.nd rfl (Or.inl rfl)) (pgs_cons (pg_name (i := 4) sc_p_check_tape.nd rfl (Or.inl rfl)) pgs_nil))) 
      (pss_one (ps_if (PW.pt (pw_or (pt_cmpR op_eq (pv 3) (pe_glob (v := .int 200) (by rfl) T.c_MOST_CODES ⟨_, rfl⟩) (nomark _)) (pw_or1 (pt_not (pt_chain op_le op_le pe_int (pv 4) (pv 2)))))) 
        (pss_one ps_never) pss_nil))))), ?_⟩
    refine ⟨_, rfl, t, _, 0, _, rfl, rfl, SqT.of hT, atI_nat (j := 0) rfl, _, rfl, small_le (by rw [S_len]; omega), _, _, rfl, rfl, ?_⟩
    refine ⟨_, rfl, a, _, rfl, SqL.of hA, for_it (walk_enum (xs := Ints tp)) (fun i σ H' => ∃ y3 y4, σ = [some (.ref t), some (.ref a), some (.int ((S one).length + 1)), y3, y4] ∧ Same H H') ⟨none, none, rfl, Same.refl _⟩ ?_ ?_ ?_⟩
    · rintro i σ H' _ ⟨y3, y4, rfl, sm⟩
      exact sm.seq (SqL.of hA)
    · rintro i x σ H' H2 hi ⟨y3, y4, rfl, sm⟩ ⟨p, x1, x2, rfl, hp, rfl, e1, e2⟩
      cases e1
      obtain ⟨c, hcx, rfl⟩ := ints_at e2
      have hm := hc c (List.mem_of_getElem? hcx)
      have hi' : i < tp.length := (List.getElem?_eq_some_iff.mp hcx).1
      have s2 : Same H (upd H' p (.tup [.int (i : Nat), .int c])) := sm.trans (Same.new hp)
      refine ⟨p, _, rfl, SqT.of upd_same, rfl, _, _, rfl, _, _, rfl, rfl, ?_⟩
      refine ⟨_, rfl, rfl, _, rfl, ?_⟩
      have e : ¬ V.int (i : Nat) = V.int 200 := fun z => by
        have := V.int.inj z
        omega
      rw [decide_eq_false e]
      refine iteF ?_
      refine ⟨_, rfl, _, _, rfl, rfl, _, rfl, ?_⟩
      rw [decide_eq_true hm.1]
      refine iteT ⟨_, rfl, _, _, rfl, rfl, _, rfl, ?_⟩
      have e3 : c ≤ ((S one).length : Int) + 1 := by
        rw [S_len]
        omega
      rw [decide_eq_true e3]
      exact iteF ⟨_, _, rfl, s2⟩
    · rintro σ H' ⟨y3, y4, rfl, sm⟩
      exact q _ sm
def spCheckState : Sp := fun vs H Q _ => ∃ st : Int, vs = [.int st] ∧ Bit st ∧ ∀ H', Same H H' → Q .non H'
theorem ok_p_check_state (T : Txt K mg) : FnOk P w K mg base CX0 1 T.a_p_check_state T.d_p_check_state ["state"] spCheckState := by
  refine T.F_p_check_state.ok sc_p_check_state (fun vs H Q E h => ?_) (fun cdv A outer s H vs Q E hr h => ?_)
  · obtain ⟨st, rfl, _⟩ := h
    rfl
  · obtain ⟨st, rfl, hb, q⟩ := h
    refine ⟨_,
    (pss_one (ps_if (pt_cmpR op_notIn_seq (pv 0) (pe_tup (pa_cons pe_int (pa_cons pe_int pa_nil))) (by rfl)) 
      (pss_one ps_never) pss_nil)), ?_⟩
    refine ⟨_, rfl, (by show 2 ≤ sizeLine; decide), fun p hp => ⟨p, _, rfl, .inr (SqT.of upd_same), rfl, rfl, _, rfl, ?_⟩⟩
    have e : inV (.int st) [.int 0, .int 1] = true := by
      rcases hb with rfl | rfl <;> rfl
    rw [e]
    exact iteF (q _ (Same.new hp))

/-! ### some work is refused -/
def spAlikeF : Sp := fun vs H Q _ => ∃ v : V, vs = [v, v] ∧ ((∃ i, v = .int i) ∨ ∃ x, v = .str x) ∧ Q (.bl true) H
theorem okh_l_alike (T : Txt K mg) : L2H.FnH P w K mg base CX0 1 T.a_l_alike T.d_l_alike ["_law_found", "_law_due"] spAlikeF := by
  refine Fun_okH T.F_l_alike sc_l_alike (fun vs H Q E h => ?_) (fun cdv A outer s H vs Q E p hot hr h => ?_)
  · obtain ⟨v, rfl, _⟩ := h
    rfl
  · obtain ⟨v, rfl, hv, q⟩ := h
    refine ⟨_,
    (pss_cons (ps_if (pt_cmpR op_isN (pv 1) pe_non (nomark _)) 
      (pss_one (ps_ret (pe_cmpR op_isN (pv 0) pe_non (nomark _)))) pss_nil) 
    (pss_cons (ps_if (pt_val (pe_callB call_isi (by rfl) T.m_isinstance (by decide +kernel) (pa_cons (pv 1) (pa_cons (pe_bltn (v := .ty "bool") (by rfl) T.m_bool (by decide +kernel) rfl) pa_nil)))) 
      (pss_one (ps_ret (pe_and (pe_callB call_isi (by rfl) T.m_isinstance (by decide +kernel) (pa_cons (pv 0) (pa_cons (pe_bltn (v := .ty "bool") (by rfl) T.m_bool (by decide +kernel) rfl) pa_nil))) (pe_one (pe_cmpR op_eq (pv 0) (pv 1) (nomark _)))))) pss_nil) 
    (pss_cons (ps_if (pt_val (pe_callB call_isi (by rfl) T.m_isinstance (by decide +kernel) (pa_cons (pv 1) (pa_cons (pe_bltn (v := .ty "int") (by rfl) T.m_int (by decide +kernel) rfl) pa_nil)))) 
      (pss_one (ps_ret (pe_and (pe_callB call_isi (by rfl) T.m_isinstance (by decide +kernel) (pa_cons (pv 0) (pa_cons (pe_bltn (v := .ty "int") (by rfl) T.m_int (by decide +kernel) rfl) pa_nil))) (pe_and (pe_not (pe_callB call_isi (by rfl) T.m_isinstance (by decide +kernel) (pa_cons (pv 0) (pa_cons (pe_bltn (v := .ty "bool") (by rfl) T.m_bool (by decide +kernel) rfl) pa_nil)))) (pe_one (pe_cmpR op_eq (pv 0) (pv 1) (nomark _))))))) pss_nil) 
    (pss_stop (ps_if (pt_val (pe_callB call_isi (by rfl) T.m_isinstance (by decide +kernel) (pa_cons (pv 1) (pa_cons (pe_bltn (v := .ty "str") (by rfl) T.m_str (by decide +kernel) rfl) pa_nil)))) 
      (pss_one (ps_ret (pe_and (pe_callB call_isi (by rfl) T.m_isinstance (by decide +kernel) (pa_cons (pv 0) (pa_cons (pe_bltn (v := .ty "str") (by rfl) T.m_str (by decide +kernel) rfl) pa_nil))) (pe_one (pe_cmpR op_eq (pv 0) (pv 1) (nomark _)))))) pss_nil))))), ?_⟩
    rcases hv with ⟨i, rfl⟩ | ⟨x, rfl⟩
    · have hy : Tk H (.int i) (.int i) := .int i
      refine ⟨_, rfl, rfl, _, rfl, iteF ?_⟩
      refine ⟨_, rfl, _, _, _, _, false, rfl, .ty _, hy.ty, kit_ty (by dsimp only [tyN]; decide +kernel), ⟨false, rfl, iteF ?_⟩⟩
      refine ⟨_, rfl, _, _, _, _, true, rfl, .ty _, hy.ty, kit_ty (by dsimp only [tyN]; decide +kernel), ⟨true, rfl, iteT ?_⟩⟩
      refine ⟨_, rfl, _, _, _, _, true, rfl, .ty _, hy.ty, kit_ty (by dsimp only [tyN]; decide +kernel), ⟨true, rfl, iteT ?_⟩⟩
      refine ⟨_, rfl, _, _, _, _, false, rfl, .ty _, hy.ty, kit_ty (by dsimp only [tyN]; decide +kernel), ⟨false, rfl, ?_⟩⟩
      refine ⟨true, rfl, iteT ?_⟩
      exact ⟨_, rfl, _, rfl, rfl, by rw [decide_eq_true rfl]; exact q⟩
    · have hy : Tk H (.str x) (.str x) := .str x
      refine ⟨_, rfl, rfl, _, rfl, iteF ?_⟩
      refine ⟨_, rfl, _, _, _, _, false, rfl, .ty _, hy.ty, kit_ty (by dsimp only [tyN]; decide +kernel), ⟨false, rfl, iteF ?_⟩⟩
      refine ⟨_, rfl, _, _, _, _, false, rfl, .ty _, hy.ty, kit_ty (by dsimp only [tyN]; decide +kernel), ⟨false, rfl, iteF ?_⟩⟩
      refine ⟨_, rfl, _, _, _, _, true, rfl, .ty _, hy.ty, kit_ty (by dsimp only [tyN]; decide +kernel), ⟨true, rfl, iteT ?_⟩⟩
      refine ⟨_, rfl, _, _, _, _, true, rfl, .ty _, hy.ty, kit_ty (by dsimp only [tyN]; decide +kernel), ⟨true, rfl, iteT ?_⟩⟩
      exact ⟨_, rfl, _, rfl, rfl, by rw [decide_eq_true rfl]; exact q⟩
/-- an error as it is due: the word of its class, its field -/
inductive RefOk (T : Txt K mg) : Str → V → Value → Option Addr → Hp → Prop
  | sets {x : Str} {d : Addr} {H : Hp} : H d = some (.xd [("why", .str x)]) → RefOk T "sets" (.str x) (.ref T.X_BadSets.C) (some d) H
  | tape {i : Int} {d : Addr} {H : Hp} : H d = some (.xd [("at", .int i)]) → RefOk T "tape" (.int i) (.ref T.X_BadTape.C) (some d) H
  | sign {i : Int} {d : Addr} {H : Hp} : H d = some (.xd [("at", .int i)]) → RefOk T "sign" (.int i) (.ref T.X_NoSign.C) (some d) H
  | number {v : V} {H : Hp} : RefOk T "number" v (.ref T.X_BadNumber.C) none H
theorem dp_bools {K : PySem.W.Frag} {H : Hp} (bs : List Bool) : DpAll K H (bs.map V.bl) (bs.map .bool) := by
  induction bs with
  | nil => exact .nil
  | cons b bs ih => exact .cons (.bl b) ih
theorem shaped_bools (bs : List Bool) : SeqAt.shaped (.list (bs.map .bool)) = true := by
  refine shaped_list ?_
  induction bs with
  | nil => rfl
  | cons b bs ih => simp [flatD, ih]
theorem eqv_bools : ∀ bs : List Bool, PyData.eqv (.list (bs.map .bool)) (.list (bs.map .bool)) = true
  | [] => by simp [PyData.eqv, PyData.eqvAll]
  | b :: bs => by
    have ih := eqv_bools bs
    simp only [PyData.eqv] at ih
    simp only [List.map_cons, PyData.eqv, PyData.eqvAll, ih]
    cases b <;> simp
abbrev wkinds : List Str := ["sets", "tape", "sign", "number", "text"]
def spRefused (T : Txt K mg) (P : Program) (w : World) (base : Heap) (k : Nat) : Sp := fun vs H Q _ => ∃ (f : Addr) (word : Str) (val : V) (tl : XK → VK → Prop), vs = [.ref f, .str word, val] ∧ Acts P w K mg base k H f tl ∧
  ∀ (E' : XK) (Q' : VK), (∀ C d H', RefOk T word val C d H' → (∀ H'', Same H' H'' → Q (.bl true) H'') → E' C d H') → tl E' Q'
/-- what the suite is told of the error: the classes that it is of, by the words -/
structure ErrIs (T : Txt K mg) (word : Str) (C : Addr) : Prop where
  ec : ExcC K C
  v : PySem.W.kitOne K (.ref C) (.type "ValueError") = some true
  k0 : PySem.W.kitOne K (.ref C) (.ref T.X_BadSets.C) = some (decide (word = "sets"))
  k1 : PySem.W.kitOne K (.ref C) (.ref T.X_BadTape.C) = some (decide (word = "tape"))
  k2 : PySem.W.kitOne K (.ref C) (.ref T.X_NoSign.C) = some (decide (word = "sign"))
  k3 : PySem.W.kitOne K (.ref C) (.ref T.X_BadNumber.C) = some (decide (word = "number"))
  k4 : PySem.W.kitOne K (.ref C) (.ref T.X_BadText.C) = some (decide (word = "text"))
theorem errIs (T : Txt K mg) {word : Str} {val : V} {cls : Value} {d : Option Addr} {H : Hp} (h : RefOk T word val cls d H) : ∃ C : Addr, cls = .ref C ∧ PySem.W.exmOne K cls (.ref T.TE.C) = some true ∧ ErrIs T word C ∧ (d = none ∨ ∃ dd fs, d = some dd ∧ H dd = some (.xd fs)) := by
  cases h with
  | sets h => exact ⟨_, rfl, T.X_BadSets.ex, ⟨T.X_BadSets.ec, T.k_BadSets_V, T.k_BadSets_BadSets, T.k_BadSets_BadTape, T.k_BadSets_NoSign, T.k_BadSets_BadNumber, T.k_BadSets_BadText⟩, .inr ⟨_, _, rfl, h⟩⟩
  | tape h => exact ⟨_, rfl, T.X_BadTape.ex, ⟨T.X_BadTape.ec, T.k_BadTape_V, T.k_BadTape_BadSets, T.k_BadTape_BadTape, T.k_BadTape_NoSign, T.k_BadTape_BadNumber, T.k_BadTape_BadText⟩, .inr ⟨_, _, rfl, h⟩⟩
  | sign h => exact ⟨_, rfl, T.X_NoSign.ex, ⟨T.X_NoSign.ec, T.k_NoSign_V, T.k_NoSign_BadSets, T.k_NoSign_BadTape, T.k_NoSign_NoSign, T.k_NoSign_BadNumber, T.k_NoSign_BadText⟩, .inr ⟨_, _, rfl, h⟩⟩
  | number => exact ⟨_, rfl, T.X_BadNumber.ex, ⟨T.X_BadNumber.ec, T.k_BadNumber_V, T.k_BadNumber_BadSets, T.k_BadNumber_BadTape, T.k_BadNumber_NoSign, T.k_BadNumber_BadNumber, T.k_BadNumber_BadText⟩, .inl rfl⟩
theorem ok_l_refused (T : Txt K mg) : FnOk P w K mg base CX0 7 T.a_l_refused T.d_l_refused ["_law_work", "_law_word", "_law_value"] (spRefused T P w base 6) := by
  refine T.F_l_refused.ok sc_l_refused (fun vs H Q E h => ?_) (fun cdv A outer s H vs Q E hr h => ?_)
  · obtain ⟨f, word, val, tl, rfl, _⟩ := h
    rfl
  · obtain ⟨f, word, val, tl, rfl, act, ht⟩ := h
    refine ⟨_, pss_stop (L2N.ps_try_as (i := 3) rfl rfl sc_l_refused.nd rfl rfl ⟨rfl, by decide, .inl T.TE.g⟩ takesN0
      (fun W pn xe tk _ => pss_one (ps_expr (show PE _ _ (tAct P w K mg base 6 0 W) from pe_act0 (k := 6) (i := 0) tk hr)))
      (fun a oe cls d pn hz hf => pss_cons (ps_set (i := 4) sc_l_refused.nd rfl (Or.inl rfl) (pe_lst (pa_cons (pe_callB (call_isG hz.zc hf) (by rfl) T.m_isinstance (by decide +kernel) (pa_cons (pv 3) (pa_cons (pe_glob (v := .ref T.X_BadSets.C) (by rfl) T.X_BadSets.g rfl) pa_nil)))
            (pa_cons (pe_callB (call_isG hz.zc hf) (by rfl) T.m_isinstance (by decide +kernel) (pa_cons (pv 3) (pa_cons (pe_glob (v := .ref T.X_BadTape.C) (by rfl) T.X_BadTape.g rfl) pa_nil)))
            (pa_cons (pe_callB (call_isG hz.zc hf) (by rfl) T.m_isinstance (by decide +kernel) (pa_cons (pv 3) (pa_cons (pe_glob (v := .ref T.X_NoSign.C) (by rfl) T.X_NoSign.g rfl) pa_nil)))
            (pa_cons (pe_callB (call_isG hz.zc hf) (by rfl) T.m_isinstance (by decide +kernel) (pa_cons (pv 3) (pa_cons (pe_glob (v := .ref T.X_BadNumber.C) (by rfl) T.X_BadNumber.g rfl) pa_nil))) pa_nil))))))
        (pss_cons (ps_expr ((pe_bm PySem.F.plainAttrs_list PySem.F.slot_list_append PySem.F.type_list_append mt_append (pv 4) (pa_cons (pe_callB (call_isG hz.zc hf) (by rfl) T.m_isinstance (by decide +kernel) (pa_cons (pv 3) (pa_cons (pe_glob (v := .ref T.X_BadText.C) (by rfl) T.X_BadText.g rfl) pa_nil))) pa_nil)) : PE _ _ (tBM K _ rAppend _ _)))
        (pss_cons (ps_set (i := 5) sc_l_refused.nd rfl (Or.inl rfl) (pe_lst (pa_cons pe_str (pa_cons pe_str (pa_cons pe_str (pa_cons pe_str (pa_cons pe_str pa_nil)))))))
        (pss_cons (ps_if (PW.pt (pw_or (pt_not (pt_val (pe_callB (call_isG hz.zc hf) (by rfl) T.m_isinstance (by decide +kernel) (pa_cons (pv 3) (pa_cons (pe_bltn (v := .ty "ValueError") (by rfl) T.m_ValueError (by decide +kernel) rfl) pa_nil)))))
            (pw_or1 (pt_cmpR (op_neD hr.units : OpR _ _ (rNeD K)) (pv 4) (pe_lcH (own := [("_law_one", 6)]) (i0 := 6) ⟨(a, oe), ⟨rfl, hf.choose, hf.choose_spec, hz.2.2 _ hf.choose_spec⟩, List.mem_cons_self⟩ sc_l_refused.nd (pv 5) (blkOk_by (own := [("_law_one", 6)]) (N := n_l_refused) (sc := defScope s_l_refused) (by decide +kernel)) (by decide)
              (fun _ _ _ _ _ => pg_name (i := 6) sc_l_refused.nd rfl (Or.inl rfl)) (fun _ _ _ _ _ => pe_cmpR op_eq (pv 1) (pv 6) (nomark _))) (nomark _)))))
          (pss_one (ps_ret pe_bl)) pss_nil)
        (pss_cons (ps_if (pt_cmpR op_eq (pv 1) pe_str (nomark _)) (pss_one (ps_ret (L2H.pe_callH (CX := CX0) (E := fun _ => E0) (okh_l_alike T) (L2H.roomH_mark (hr.mono (by decide)) _) ⟨(a, oe), ⟨rfl, hf.choose, hf.choose_spec, hz.2.2 _ hf.choose_spec⟩, List.mem_cons_self⟩ (by rfl) T.g_l_alike T.F_l_alike.kp T.b_l_alike (fun _ _ _ _ _ _ _ z => z.elim) (pa_cons (pe_xg hz.zc hf (pv 3)) (pa_cons (pv 2) pa_nil))))) pss_nil)
        (pss_cons (ps_if (pt_cmpR op_eq (pv 1) pe_str (nomark _)) (pss_one (ps_ret (L2H.pe_callH (CX := CX0) (E := fun _ => E0) (okh_l_alike T) (L2H.roomH_mark (hr.mono (by decide)) _) ⟨(a, oe), ⟨rfl, hf.choose, hf.choose_spec, hz.2.2 _ hf.choose_spec⟩, List.mem_cons_self⟩ (by rfl) T.g_l_alike T.F_l_alike.kp T.b_l_alike (fun _ _ _ _ _ _ _ z => z.elim) (pa_cons (pe_xg hz.zc hf (pv 3)) (pa_cons (pv 2) pa_nil))))) pss_nil)
        (pss_one (ps_ret (pe_or (pe_cmpR op_eq (pv 1) pe_str (nomark _)) (pe_one (L2H.pe_callH (CX := CX0) (E := fun _ => E0) (okh_l_alike T) (L2H.roomH_mark (hr.mono (by decide)) _) ⟨(a, oe), ⟨rfl, hf.choose, hf.choose_spec, hz.2.2 _ hf.choose_spec⟩, List.mem_cons_self⟩ (by rfl) T.g_l_alike T.F_l_alike.kp T.b_l_alike (fun _ _ _ _ _ _ _ z => z.elim) (pa_cons (pe_xg hz.zc hf (pv 3)) (pa_cons (pv 2) pa_nil)))))))))))))), ?_⟩
    refine ⟨_, _, rfl, act, ht _ _ fun cls d H1 hR q => ?_⟩
    obtain ⟨C, rfl, ex, er, hd⟩ := errIs T hR
    refine ⟨true, ex, fun _ a ha => ?_, fun z => Bool.noConfusion z⟩
    have one : ∀ z : Value, z = z := fun _ => rfl
    have hdS : ∀ {G : Hp}, Same H1 G → (d = none ∨ ∃ dd fs, d = some dd ∧ G dd = some (.xd fs)) := fun {G} sm => by
      rcases hd with e | ⟨dd, fs, e, z⟩
      · exact .inl e
      · exact .inr ⟨dd, fs, e, sm _ _ z⟩
    refine ⟨_, rfl, C, .ref T.X_BadSets.C, .ref T.X_BadSets.C, _, rfl, rfl, er.ec, hd, fun _ h => h, er.k0, ?_⟩
    refine ⟨_, rfl, C, .ref T.X_BadTape.C, .ref T.X_BadTape.C, _, rfl, rfl, er.ec, hd, fun _ h => h, er.k1, ?_⟩
    refine ⟨_, rfl, C, .ref T.X_NoSign.C, .ref T.X_NoSign.C, _, rfl, rfl, er.ec, hd, fun _ h => h, er.k2, ?_⟩
    refine ⟨_, rfl, C, .ref T.X_BadNumber.C, .ref T.X_BadNumber.C, _, rfl, rfl, er.ec, hd, fun _ h => h, er.k3, ?_⟩
    refine ⟨(by show 4 ≤ sizeLine; decide), fun p hp => ?_⟩
    have s2 := Same.new (o := .lst [.bl (decide (word = "sets")), .bl (decide (word = "tape")), .bl (decide (word = "sign")), .bl (decide (word = "number"))]) hp
    refine ⟨_, rfl, .inl ⟨rfl, _, SqL.of upd_same⟩, _, rfl, C, .ref T.X_BadText.C, .ref T.X_BadText.C, _, rfl, rfl, er.ec, (hdS s2), fun _ h => h, er.k4, ?_⟩
    refine ⟨p, _, _, rfl, rfl, upd_same, (by show 4 < sizeLine; decide), ?_⟩
    rw [upd_upd]
    generalize hks : ([.bl (decide (word = "sets")), .bl (decide (word = "tape")), .bl (decide (word = "sign")), .bl (decide (word = "number"))] ++ [.bl (decide (word = "text"))] : List V) = ks
    have eks : ks = (wkinds.map fun x => decide (word = x)).map V.bl := by
      rw [← hks]
      rfl
    have s3 : Same H1 (upd H1 p (.lst ks)) := Same.new hp
    refine ⟨(by show 5 ≤ sizeLine; decide), fun p2 hp2 => ?_⟩
    generalize hG : upd (upd H1 p (.lst ks)) p2 (.lst [.str "sets", .str "tape", .str "sign", .str "number", .str "text"]) = G
    have s4 : Same (upd H1 p (.lst ks)) G := by
      rw [← hG]
      exact Same.new hp2
    have eG : G p2 = some (.lst (wkinds.map V.str)) := by
      rw [← hG]
      exact upd_same
    have s14 := s3.trans s4
    refine ⟨_, rfl, C, .ty "ValueError", .type "ValueError", _, rfl, rfl, er.ec, hdS s14, fun _ h => h, er.v, ?_⟩
    refine ⟨true, rfl, ?_⟩
    refine iteF ?_
    refine ⟨_, rfl, _, rfl, p2, _, (wkinds.map fun x => decide (word = x)).map V.bl, rfl, eG, rfl, (by show 5 < sizeLine; decide), fun D hD => ⟨fun i x hx G2 hG2 => ?_, ?_⟩⟩
    · rw [List.getElem?_map] at hx
      obtain ⟨y, hy, rfl⟩ := Option.map_eq_some_iff.mp hx
      refine ⟨.str word, ?_, .str y, ?_, rfl, ?_, rfl⟩
      · rfl
      · rfl
      · rw [List.getElem?_map, List.getElem?_map, hy]
        show some (V.bl (decide (word = y))) = _
        congr 2
        rw [Bool.eq_iff_iff]
        simp
    have s5 : Same G (upd G D (.lst ((wkinds.map fun x => decide (word = x)).map V.bl))) := Same.new hD
    generalize hGD : upd G D (.lst ((wkinds.map fun x => decide (word = x)).map V.bl)) = G3 at s5
    have e3 : G3 D = some (.lst ((wkinds.map fun x => decide (word = x)).map V.bl)) := by
      rw [← hGD]
      exact upd_same
    have s15 := s14.trans s5
    refine ⟨_, _, .lst (SqL.of (s5 _ _ (s4 _ _ (by rw [eks]; exact upd_same)))) (dp_bools _), .lst (SqL.of e3) (dp_bools _), shaped_bools _, shaped_bools _, _, rfl, ?_⟩
    rw [eqv_bools]
    refine iteF ?_
    cases hR with
    | @sets x dd _ e =>
      refine ⟨_, rfl, rfl, _, rfl, iteT ?_⟩
      refine ⟨_, rfl, rfl, T.X_BadSets.C, rfl, T.X_BadSets.xf, T.X_BadSets.nf, dd, _, _, rfl, s15 _ _ e, rfl, _, rfl, _, rfl, .inr ⟨_, rfl⟩, q _ s15⟩
    | @tape i dd _ e =>
      refine ⟨_, rfl, rfl, _, rfl, iteF ?_⟩
      refine ⟨_, rfl, rfl, _, rfl, iteF ?_⟩
      refine ⟨_, rfl, rfl, _, rfl, iteF ?_⟩
      refine ⟨_, rfl, rfl, T.X_BadTape.C, rfl, T.X_BadTape.xf, T.X_BadTape.nf, dd, _, _, rfl, s15 _ _ e, rfl, _, rfl, _, rfl, .inl ⟨_, rfl⟩, q _ s15⟩
    | @sign i dd _ e =>
      refine ⟨_, rfl, rfl, _, rfl, iteF ?_⟩
      refine ⟨_, rfl, rfl, _, rfl, iteF ?_⟩
      refine ⟨_, rfl, rfl, _, rfl, iteF ?_⟩
      refine ⟨_, rfl, rfl, T.X_NoSign.C, rfl, T.X_NoSign.xf, T.X_NoSign.nf, dd, _, _, rfl, s15 _ _ e, rfl, _, rfl, _, rfl, .inl ⟨_, rfl⟩, q _ s15⟩
    | number =>
      refine ⟨_, rfl, rfl, _, rfl, iteF ?_⟩
      refine ⟨_, rfl, rfl, _, rfl, iteF ?_⟩
      exact ⟨_, rfl, rfl, _, rfl, iteT (q _ s15)⟩

/-! ### a tape that cannot be -/
def OkAt (n : Nat) (tp : List Int) (i : Nat) : Prop := i ≠ 200 ∧ ∀ c, tp[i]? = some c → 0 ≤ c ∧ c < (n : Int) + 2
def BadAt (n : Nat) (tp : List Int) (j : Nat) : Prop := j < tp.length ∧ ¬ OkAt n tp j ∧ ∀ i, i < j → OkAt n tp i
theorem BadAt.le {n j : Nat} {tp : List Int} (h : BadAt n tp j) : j ≤ 200 := by
  by_cases z : 200 < j
  · exact absurd rfl (h.2.2 200 z).1
  · omega
theorem tape_of_ok {n : Nat} {tp : List Int} (h : ∀ i, i < tp.length → OkAt n tp i) : Tape n tp := by
  refine ⟨?_, fun c hc => ?_⟩
  · by_cases z : 200 < tp.length
    · exact absurd rfl (h 200 z).1
    · omega
  · obtain ⟨i, hi⟩ := List.getElem?_of_mem hc
    exact (h i (List.getElem?_eq_some_iff.mp hi).1).2 c hi
theorem ok_of_tape {n : Nat} {tp : List Int} (h : Tape n tp) {i : Nat} (hi : i < tp.length) : OkAt n tp i := ⟨fun z => by have := h.1; omega, fun c hc => h.2 c (List.mem_of_getElem? hc)⟩
theorem tape_or_bad (n : Nat) (tp : List Int) : Tape n tp ∨ ∃ j, BadAt n tp j := by
  have key : ∀ k, (∀ i, i < k → OkAt n tp i) ∨ ∃ j, j < k ∧ ¬ OkAt n tp j ∧ ∀ i, i < j → OkAt n tp i := by
    intro k
    induction k with
    | zero => exact .inl fun i hi => by omega
    | succ k ih =>
      rcases ih with h | ⟨j, h1, h2⟩
      · by_cases z : OkAt n tp k
        · refine .inl fun i hi => ?_
          by_cases e : i = k
          · rw [e]
            exact z
          · exact h i (by omega)
        · exact .inr ⟨k, by omega, z, h⟩
      · exact .inr ⟨j, by omega, h2⟩
  rcases key tp.length with h | ⟨j, h1, h2, h3⟩
  · exact .inl (tape_of_ok h)
  · exact .inr ⟨j, h1, h2, h3⟩
theorem BadAt.not {n j : Nat} {tp : List Int} (h : BadAt n tp j) : ¬ Tape n tp := fun z => h.2.1 (ok_of_tape z h.1)
theorem BadAt.one {n j k : Nat} {tp : List Int} (h : BadAt n tp j) (g : BadAt n tp k) : j = k := by
  by_cases h1 : j < k
  · exact absurd (g.2.2 j h1) h.2.1
  · by_cases h2 : k < j
    · exact absurd (h.2.2 k h2) g.2.1
    · omega
/-- the error with its field -/
def XOut (H : Hp) (E : XK) (C : Addr) (f : Str) (v : V) : Prop := ∀ d H', Same H H' → H d = none → H' d = some (.xd [(f, v)]) → E (.ref C) (some d) H'
theorem XOut.from {H H1 : Hp} {E : XK} {C : Addr} {f : Str} {v : V} (h : XOut H E C f v) (s : Same H H1) : XOut H1 E C f v := fun d H' s' hd e => h d H' (s.trans s') (s.free hd) e
def spCheckTapeX (C : Addr) : Sp := fun vs H Q E => ∃ (t a : Addr) (one two : List Nat) (tp : List Int), vs = [.ref t, .ref a] ∧ SetsAt H t one two ∧ Sets one two ∧ H a = some (.lst (Ints tp)) ∧
  (Tape one.length tp → ∀ H', Same H H' → Q .non H') ∧ (∀ j, BadAt one.length tp j → XOut H E C "at" (.int (j : Nat)))

/-! ### what is raised, the cells hidden -/
theorem XOut.hide {H : Hp} {cs : List Addr} {E : XK} {C : Addr} {f : Str} {v : V} (hc : CellsAt H cs) (h : XOut H E C f v) : XOut (hide cs H) (fun cls d H' => (∀ c ∈ cs, H' c = none) → E cls d (unhide cs H H')) C f v := fun d H' sm hd ed hn => by
  have nd : d ∉ cs := fun hm => by
    rw [hn d hm] at ed
    cases ed
  refine h d _ (fun b o e => ?_) (by rw [← hide_out (H := H) nd]; exact hd) (by rw [unhide_out nd]; exact ed)
  by_cases hb : b ∈ cs
  · rw [unhide_in hb]
    exact e
  · rw [unhide_out hb]
    exact sm b o (by rw [hide_out hb]; exact e)
theorem sets_hide {H : Hp} {cs : List Addr} {t : Addr} {one two : List Nat} (hc : CellsAt H cs) (h : SetsAt H t one two) : SetsAt (hide cs H) t one two := hide_at hc h tup_ncell

theorem okn_p_check_tape (T : Txt K mg) : FnOk P w K mg base (L2N.CX P w) 3 T.a_p_check_tape T.d_p_check_tape ["sets", "tape"] (spCheckTapeX T.X_BadTape.C) := by
  refine Fun_okN T.F_p_check_tape sc_p_check_tape (fun vs H Q E h => ?_) (fun cdv A outer s H vs Q E hr h => ?_)
  · obtain ⟨t, a, one, two, tp, rfl, _⟩ := h
    rfl
  · obtain ⟨t, a, one, two, tp, rfl, hT, hs, hA, q, qe⟩ := h
    have ht := hs.top
    refine ⟨_,
    (pss_cons (ps_set (i := 2) sc_p_check_tape.nd rfl (Or.inl rfl) (pe_op op_add (pe_callB call_len_str (by rfl) T.m_len PySem.boot_len (pa_cons (pe_ix ix_tup (pv 0) pe_int (fun _ _ => rfl)) pa_nil)) pe_int)) 
    (pss_one (ps_for (passes_of rfl) rfl (pi_enum (by rfl) T.m_enumerate (pa_cons (pv 1) pa_nil)) (pg_tup rfl (pgs_cons (pg_name (i := 3) sc_p_check_tape.nd rfl (Or.inl rfl)) (pgs_cons (pg_name (i := 4) sc_p_check_tape.nd rfl (Or.inl rfl)) pgs_nil))) 
      (pss_one (ps_if (PW.pt (pw_or (pt_cmpR op_eq (pv 3) (pe_glob (v := .int 200) (by rfl) T.c_MOST_CODES ⟨_, rfl⟩) (nomark _)) (pw_or1 (pt_not (pt_chain op_le op_le pe_int (pv 4) (pv 2)))))) 
        (pss_one (L2N.ps_raise rfl (L2N.takes_of rfl rfl rfl rfl) (pmk_oexN T.X_BadTape.ox T.X_BadTape.iC T.X_BadTape.tI (okI_BadTape T) (hr.mono (by decide)) T.X_BadTape.b pass0 (by rfl) T.X_BadTape.g (pa_cons (pv 3) pa_nil)))) pss_nil))))), ?_⟩
    refine ⟨_, rfl, t, _, 0, _, rfl, rfl, SqT.of hT, atI_nat (j := 0) rfl, _, rfl, small_le (by rw [S_len]; omega), _, _, rfl, rfl, ?_⟩
    refine ⟨_, rfl, a, _, rfl, SqL.of hA, for_it (walk_enum (xs := Ints tp)) (fun i σ H' => ∃ y3 y4, σ = [some (.ref t), some (.ref a), some (.int ((S one).length + 1)), y3, y4] ∧ Same H H' ∧ ∀ k, k < i → OkAt one.length tp k) ⟨none, none, rfl, Same.refl _, fun k hk => by omega⟩ ?_ ?_ ?_⟩
    · rintro i σ H' _ ⟨y3, y4, rfl, sm, _⟩
      exact sm.seq (SqL.of hA)
    · rintro i x σ H' H2 hi ⟨y3, y4, rfl, sm, hok⟩ ⟨p, x1, x2, rfl, hp, rfl, e1, e2⟩
      cases e1
      obtain ⟨c, hcx, rfl⟩ := ints_at e2
      have hi' : i < tp.length := (List.getElem?_eq_some_iff.mp hcx).1
      have hi2 : i ≤ 200 := by
        by_cases z : 200 < i
        · exact absurd rfl (hok 200 z).1
        · omega
      have s2 : Same H (upd H' p (.tup [.int (i : Nat), .int c])) := sm.trans (Same.new hp)
      refine ⟨p, _, rfl, SqT.of upd_same, rfl, _, _, rfl, _, _, rfl, rfl, ?_⟩
      have hbad : ¬ OkAt one.length tp i → XOut (upd H' p (.tup [.int (i : Nat), .int c])) E T.X_BadTape.C "at" (.int (i : Nat)) := fun h => (qe i ⟨hi', h, hok⟩).from s2
      have e1 : (decide (V.int (i : Nat) = V.int 200)) = decide (i = 200) := by
        rw [dec_int]
        congr 1
        apply propext
        omega
      have e3 : (decide (c ≤ ((S one).length : Int) + 1)) = decide (c < (one.length : Int) + 2) := by
        rw [S_len]
        congr 1
        apply propext
        omega
      refine ⟨_, rfl, rfl, _, rfl, ?_⟩
      rw [e1]
      by_cases h2 : i = 200
      · rw [decide_eq_true h2]
        exact iteT ⟨_, rfl, oex_rd (FldV.nat (by omega)) fun d H3 s3 hd ed => hbad (fun z => z.1 h2) d H3 s3 hd ed⟩
      · rw [decide_eq_false h2]
        refine iteF ⟨_, rfl, _, _, rfl, rfl, _, rfl, ?_⟩
        by_cases h3 : 0 ≤ c
        · rw [decide_eq_true h3]
          refine iteT ⟨_, rfl, _, _, rfl, rfl, _, rfl, ?_⟩
          rw [e3]
          by_cases h4 : c < (one.length : Int) + 2
          · rw [decide_eq_true h4]
            exact iteF ⟨_, _, rfl, s2, fun k hk => by
              by_cases e : k = i
              · rw [e]
                exact ⟨h2, fun c' hc' => by rw [hcx] at hc'; cases hc'; exact ⟨h3, h4⟩⟩
              · exact hok k (by omega)⟩
          · rw [decide_eq_false h4]
            exact iteT ⟨_, rfl, oex_rd (FldV.nat (by omega)) fun d H3 s3 hd ed => hbad (fun z => h4 (z.2 c hcx).2) d H3 s3 hd ed⟩
        · rw [decide_eq_false h3]
          refine iteF ?_
          exact ⟨_, rfl, iteT ⟨_, rfl, oex_rd (FldV.nat (by omega)) fun d H3 s3 hd ed => hbad (fun z => h3 (z.2 c hcx).1) d H3 s3 hd ed⟩⟩
    · rintro σ H' ⟨y3, y4, rfl, sm, hok⟩
      rw [List.length_map] at hok
      exact q (tape_of_ok hok) _ sm

theorem sign_at {tx : List Nat} {i : Nat} {v : V} (h : (S tx).cps[i]?.map (fun c => V.str ⟨#[c]⟩) = some v) : ∃ c, tx[i]? = some c ∧ v = sg c := by
  have e : (S tx).cps[i]? = tx[i]? := by
    show tx.toArray[i]? = _
    simp
  rw [e] at h
  cases e2 : tx[i]? with
  | none => rw [e2] at h; cases h
  | some c => rw [e2] at h; cases h; exact ⟨c, rfl, rfl⟩
def spCheckText : Sp := fun vs H Q _ => ∃ (t : Addr) (one two tx : List Nat), vs = [.ref t, .str (S tx)] ∧ SetsAt H t one two ∧ Sets one two ∧ Stands one two tx ∧ ∀ H', Same H H' → Q .non H'
theorem ok_p_check_text (T : Txt K mg) : FnOk P w K mg base CX0 1 T.a_p_check_text T.d_p_check_text ["sets", "text"] spCheckText := by
  refine T.F_p_check_text.ok sc_p_check_text (fun vs H Q E h => ?_) (fun cdv A outer s H vs Q E hr h => ?_)
  · obtain ⟨t, one, two, tx, rfl, _⟩ := h
    rfl
  · obtain ⟨t, one, two, tx, rfl, hT, hs, hst, q⟩ := h
    refine ⟨_,
    (pss_one (ps_for PassesOwn.never rfl (pi_enS (by rfl) T.m_enumerate (pa_cons (pv 1) pa_nil)) (pg_tup rfl (pgs_cons (pg_name (i := 2) sc_p_check_text.nd rfl (Or.inl rfl)) (pgs_cons (pg_name (i := 3) sc_p_check_text.nd rfl (Or.inl rfl)) pgs_nil))) 
      (pss_one (ps_if (PW.pt (pw_and (pt_cmpR op_notIn_sign (pv 3) (pe_ix ix_tup (pv 0) pe_int (fun _ _ => rfl)) (by rfl)) (pw_and1 (pt_cmpR op_notIn_sign (pv 3) (pe_ix ix_tup (pv 0) pe_int (fun _ _ => rfl)) (by rfl))))) 
        (pss_one ps_never) pss_nil)))), ?_⟩
    refine ⟨_, rfl, _, rfl, for_it (walk_enS (x := S tx)) (fun i σ H' => ∃ y3 y4, σ = [some (.ref t), some (.str (S tx)), y3, y4] ∧ Same H H') ⟨none, none, rfl, Same.refl _⟩ ?_ ?_ ?_⟩
    · intros
      exact True.intro
    · rintro i x σ H' H2 hi ⟨y3, y4, rfl, sm⟩ ⟨p, x1, x2, rfl, hp, rfl, e1, e2⟩
      cases e1
      obtain ⟨c, hcx, rfl⟩ := sign_at e2
      have hm := hst c (List.mem_of_getElem? hcx)
      have s2 : Same H (upd H' p (.tup [.int (i : Nat), sg c])) := sm.trans (Same.new hp)
      refine ⟨p, _, rfl, SqT.of upd_same, rfl, _, _, rfl, _, _, rfl, rfl, ?_⟩
      generalize upd H' p (.tup [.int (i : Nat), sg c]) = H3 at s2 ⊢
      refine ⟨_, rfl, _, rfl, t, _, 0, _, rfl, rfl, SqT.of (s2 _ _ hT), atI_nat (j := 0) rfl, c, _, rfl, rfl, _, rfl, ?_⟩
      by_cases h1 : c ∈ one
      · have e : (!decide (c ∈ (S one).cps.toList)) = false := by
          show (!decide (c ∈ one.toArray.toList)) = false
          simp [h1]
        rw [e]
        exact iteF ⟨_, _, rfl, s2⟩
      · have h2 := hm.resolve_left h1
        have e : (!decide (c ∈ (S one).cps.toList)) = true := by
          show (!decide (c ∈ one.toArray.toList)) = true
          simp [h1]
        rw [e]
        refine iteT ⟨_, rfl, _, rfl, t, _, 1, _, rfl, rfl, SqT.of (s2 _ _ hT), atI_nat (j := 1) rfl, c, _, rfl, rfl, _, rfl, ?_⟩
        have e : (!decide (c ∈ (S two).cps.toList)) = false := by
          show (!decide (c ∈ two.toArray.toList)) = false
          simp [h2]
        rw [e]
        exact iteF ⟨_, _, rfl, s2⟩
    · rintro σ H' ⟨y3, y4, rfl, sm⟩
      exact q _ sm

/-! ### tapes, states, texts, numbers that cannot be -/
def NOut (H : Hp) (E : XK) (C : Addr) : Prop := ∀ H', Same H H' → E (.ref C) none H'
theorem NOut.from {H H1 : Hp} {E : XK} {C : Addr} (h : NOut H E C) (s : Same H H1) : NOut H1 E C := fun H' s' => h H' (s.trans s')
theorem NOut.hide {H : Hp} {cs : List Addr} {E : XK} {C : Addr} (h : NOut H E C) : NOut (hide cs H) (fun cls d H' => (∀ c ∈ cs, H' c = none) → E cls d (unhide cs H H')) C := fun H' sm _ => by
  refine h _ fun b o e => ?_
  by_cases hb : b ∈ cs
  · rw [unhide_in hb]
    exact e
  · rw [unhide_out hb]
    exact sm b o (by rw [hide_out hb]; exact e)
def BadTx (one two tx : List Nat) (j : Nat) : Prop := (∃ c, tx[j]? = some c ∧ c ∉ one ∧ c ∉ two) ∧ ∀ i, i < j → ∀ c, tx[i]? = some c → c ∈ one ∨ c ∈ two
theorem BadTx.not {one two tx : List Nat} {j : Nat} (h : BadTx one two tx j) : ¬ Stands one two tx := fun z => by
  obtain ⟨⟨c, hc, h1, h2⟩, _⟩ := h
  rcases z c (List.mem_of_getElem? hc) with k | k
  · exact h1 k
  · exact h2 k
theorem BadTx.one {one two tx : List Nat} {j k : Nat} (h : BadTx one two tx j) (g : BadTx one two tx k) : j = k := by
  obtain ⟨⟨c, hc, h1, h2⟩, h3⟩ := h
  obtain ⟨⟨d, hd, g1, g2⟩, g3⟩ := g
  by_cases a : j < k
  · rcases g3 j a c hc with z | z
    · exact absurd z h1
    · exact absurd z h2
  · by_cases b : k < j
    · rcases h3 k b d hd with z | z
      · exact absurd z g1
      · exact absurd z g2
    · omega
def spCheckStateX (C : Addr) : Sp := fun vs H Q E => ∃ st : Int, vs = [.int st] ∧ (Bit st → ∀ H', Same H H' → Q .non H') ∧ (¬ Bit st → NOut H E C)
theorem okn_p_check_state (T : Txt K mg) : FnOk P w K mg base (L2N.CX P w) 1 T.a_p_check_state T.d_p_check_state ["state"] (spCheckStateX T.X_BadNumber.C) := by
  refine Fun_okN T.F_p_check_state sc_p_check_state (fun vs H Q E h => ?_) (fun cdv A outer s H vs Q E hr h => ?_)
  · obtain ⟨st, rfl, _⟩ := h
    rfl
  · obtain ⟨st, rfl, q, qe⟩ := h
    refine ⟨_,
    (pss_one (ps_if (pt_cmpR op_notIn_seq (pv 0) (pe_tup (pa_cons pe_int (pa_cons pe_int pa_nil))) (by rfl)) 
      (pss_one (L2N.ps_raise rfl (L2N.takes_of rfl rfl rfl rfl) (L2N.pmk_own PySem.F.excBase_ValueError T.X_BadNumber.xc T.X_BadNumber.g T.X_BadNumber.kp (raises_own T.X_BadNumber.sb T.X_BadNumber.ty) (by rfl)))) pss_nil)), ?_⟩
    refine ⟨_, rfl, (by show 2 ≤ sizeLine; decide), fun p hp => ⟨p, _, rfl, .inr (SqT.of upd_same), rfl, rfl, _, rfl, ?_⟩⟩
    by_cases hb : Bit st
    · have e : inV (.int st) [.int 0, .int 1] = true := by
        rcases hb with rfl | rfl <;> rfl
      rw [e]
      exact iteF (q hb _ (Same.new hp))
    · have e : inV (.int st) [.int 0, .int 1] = false := by
        cases z : inV (.int st) [.int 0, .int 1] with
        | false => rfl
        | true =>
          refine absurd ?_ hb
          simp [inV, eqV] at z
          rcases z with z | z
          · exact Or.inl z.symm
          · exact Or.inr z.symm
      rw [e]
      exact iteT (qe hb _ (Same.new hp))
def spCheckTextX (C : Addr) : Sp := fun vs H Q E => ∃ (t : Addr) (one two tx : List Nat), vs = [.ref t, .str (S tx)] ∧ SetsAt H t one two ∧ Sets one two ∧ tx.length ≤ 1000 ∧ (Stands one two tx → ∀ H', Same H H' → Q .non H') ∧ (∀ j, BadTx one two tx j → XOut H E C "at" (.int (j : Nat)))
theorem okn_p_check_text (T : Txt K mg) : FnOk P w K mg base (L2N.CX P w) 3 T.a_p_check_text T.d_p_check_text ["sets", "text"] (spCheckTextX T.X_NoSign.C) := by
  refine Fun_okN T.F_p_check_text sc_p_check_text (fun vs H Q E h => ?_) (fun cdv A outer s H vs Q E hr h => ?_)
  · obtain ⟨t, one, two, tx, rfl, _⟩ := h
    rfl
  · obtain ⟨t, one, two, tx, rfl, hT, hs, hlen, q, qe⟩ := h
    refine ⟨_,
    (pss_one (ps_for (passes_of rfl) rfl (pi_enS (by rfl) T.m_enumerate (pa_cons (pv 1) pa_nil)) (pg_tup rfl (pgs_cons (pg_name (i := 2) sc_p_check_text.nd rfl (Or.inl rfl)) (pgs_cons (pg_name (i := 3) sc_p_check_text.nd rfl (Or.inl rfl)) pgs_nil))) 
      (pss_one (ps_if (PW.pt (pw_and (pt_cmpR op_notIn_sign (pv 3) (pe_ix ix_tup (pv 0) pe_int (fun _ _ => rfl)) (by rfl)) (pw_and1 (pt_cmpR op_notIn_sign (pv 3) (pe_ix ix_tup (pv 0) pe_int (fun _ _ => rfl)) (by rfl))))) 
        (pss_one (L2N.ps_raise rfl (L2N.takes_of rfl rfl rfl rfl) (pmk_oexN T.X_NoSign.ox T.X_NoSign.iC T.X_NoSign.tI (okI_NoSign T) (hr.mono (by decide)) T.X_NoSign.b pass0 (by rfl) T.X_NoSign.g (pa_cons (pv 2) pa_nil)))) pss_nil)))), ?_⟩
    refine ⟨_, rfl, _, rfl, for_it (walk_enS (x := S tx)) (fun i σ H' => ∃ y3 y4, σ = [some (.ref t), some (.str (S tx)), y3, y4] ∧ Same H H' ∧ ∀ k, k < i → ∀ c, tx[k]? = some c → c ∈ one ∨ c ∈ two) ⟨none, none, rfl, Same.refl _, fun k hk => by omega⟩ ?_ ?_ ?_⟩
    · intros
      exact True.intro
    · rintro i x σ H' H2 hi ⟨y3, y4, rfl, sm, hok⟩ ⟨p, x1, x2, rfl, hp, rfl, e1, e2⟩
      cases e1
      obtain ⟨c, hcx, rfl⟩ := sign_at e2
      have s2 : Same H (upd H' p (.tup [.int (i : Nat), sg c])) := sm.trans (Same.new hp)
      have hi1 := (List.getElem?_eq_some_iff.mp hcx).1
      refine ⟨p, _, rfl, SqT.of upd_same, rfl, _, _, rfl, _, _, rfl, rfl, ?_⟩
      generalize upd H' p (.tup [.int (i : Nat), sg c]) = H3 at s2 ⊢
      have next : (c ∈ one ∨ c ∈ two) → ∀ k, k < i + 1 → ∀ c, tx[k]? = some c → c ∈ one ∨ c ∈ two := fun z k hk c' hc' => by
        by_cases e : k = i
        · rw [e, hcx] at hc'
          cases hc'
          exact z
        · exact hok k (by omega) c' hc'
      refine ⟨_, rfl, _, rfl, t, _, 0, _, rfl, rfl, SqT.of (s2 _ _ hT), atI_nat (j := 0) rfl, c, _, rfl, rfl, _, rfl, ?_⟩
      by_cases h1 : c ∈ one
      · have e : (!decide (c ∈ (S one).cps.toList)) = false := by
          show (!decide (c ∈ one.toArray.toList)) = false
          simp [h1]
        rw [e]
        exact iteF ⟨_, _, rfl, s2, next (.inl h1)⟩
      · have e : (!decide (c ∈ (S one).cps.toList)) = true := by
          show (!decide (c ∈ one.toArray.toList)) = true
          simp [h1]
        rw [e]
        refine iteT ⟨_, rfl, _, rfl, t, _, 1, _, rfl, rfl, SqT.of (s2 _ _ hT), atI_nat (j := 1) rfl, c, _, rfl, rfl, _, rfl, ?_⟩
        by_cases h2 : c ∈ two
        · have e : (!decide (c ∈ (S two).cps.toList)) = false := by
            show (!decide (c ∈ two.toArray.toList)) = false
            simp [h2]
          rw [e]
          exact iteF ⟨_, _, rfl, s2, next (.inr h2)⟩
        · have e : (!decide (c ∈ (S two).cps.toList)) = true := by
            show (!decide (c ∈ two.toArray.toList)) = true
            simp [h2]
          rw [e]
          exact iteT ⟨_, rfl, oex_rd (FldV.nat (by omega)) fun d H4 s4 hd ed => ((qe i ⟨⟨c, hcx, h1, h2⟩, hok⟩).from s2) d H4 s4 hd ed⟩
    · rintro σ H' ⟨y3, y4, rfl, sm, hok⟩
      refine q (fun c hc => ?_) _ sm
      obtain ⟨k, hk⟩ := List.getElem?_of_mem hc
      refine hok k ?_ c hk
      have := (List.getElem?_eq_some_iff.mp hk).1
      show k < (S tx).cps.size
      have e : (S tx).cps.size = tx.length := S_len tx
      omega
/-! ### the program's defs, by what is refused -/
def TSt (T : Txt K mg) (n : Nat) (tp : List Int) (st : Int) (H : Hp) (E : XK) : Prop := (∃ j : Nat, BadAt n tp j ∧ XOut H E T.X_BadTape.C "at" (.int (j : Nat))) ∨ (Tape n tp ∧ ¬ Bit st ∧ NOut H E T.X_BadNumber.C)
def spTS (T : Txt K mg) : Sp := fun vs H _ E => ∃ (t a : Addr) (one two : List Nat) (tp : List Int) (st : Int), vs = [.ref t, .ref a, .int st] ∧ SetsAt H t one two ∧ Sets one two ∧ H a = some (.lst (Ints tp)) ∧ TSt T one.length tp st H E
def spT1 (T : Txt K mg) : Sp := fun vs H _ E => ∃ (t a : Addr) (one two : List Nat) (tp : List Int) (j : Nat), vs = [.ref t, .ref a] ∧ SetsAt H t one two ∧ Sets one two ∧ H a = some (.lst (Ints tp)) ∧ BadAt one.length tp j ∧ XOut H E T.X_BadTape.C "at" (.int (j : Nat))
def spJ (T : Txt K mg) : Sp := fun vs H _ E => ∃ (t a b : Addr) (one two : List Nat) (ta tb : List Int) (j : Nat), vs = [.ref t, .ref a, .ref b] ∧ SetsAt H t one two ∧ Sets one two ∧ H a = some (.lst (Ints ta)) ∧ H b = some (.lst (Ints tb)) ∧
  (BadAt one.length ta j ∨ (Tape one.length ta ∧ BadAt one.length tb j)) ∧ XOut H E T.X_BadTape.C "at" (.int (j : Nat))
def spCt (T : Txt K mg) : Sp := fun vs H _ E => ∃ (t a : Addr) (one two : List Nat) (tp : List Int) (k : Int), vs = [.ref t, .ref a, .int k] ∧ SetsAt H t one two ∧ Sets one two ∧ H a = some (.lst (Ints tp)) ∧
  ((∃ j : Nat, BadAt one.length tp j ∧ XOut H E T.X_BadTape.C "at" (.int (j : Nat))) ∨ (Tape one.length tp ∧ ¬ (0 ≤ k ∧ k ≤ tp.length) ∧ NOut H E T.X_BadNumber.C))
def spLe (T : Txt K mg) : Sp := fun vs H _ E => ∃ (t : Addr) (one two tx : List Nat) (st : Int), vs = [.ref t, .str (S tx), .int st] ∧ SetsAt H t one two ∧ Sets one two ∧ tx.length ≤ 1000 ∧
  ((∃ j : Nat, BadTx one two tx j ∧ XOut H E T.X_NoSign.C "at" (.int (j : Nat))) ∨ (Stands one two tx ∧ ¬ Bit st ∧ NOut H E T.X_BadNumber.C))
def spGu (T : Txt K mg) : Sp := fun vs H _ E => ∃ (t : Addr) (one two tx : List Nat) (st m : Int), vs = [.ref t, .str (S tx), .int st, .int m] ∧ SetsAt H t one two ∧ Sets one two ∧ tx.length ≤ 1000 ∧
  ((∃ j : Nat, BadTx one two tx j ∧ XOut H E T.X_NoSign.C "at" (.int (j : Nat))) ∨ (Stands one two tx ∧ (¬ Bit st ∨ (Bit st ∧ ¬ (0 ≤ m ∧ m ≤ 20))) ∧ NOut H E T.X_BadNumber.C))

theorem okn_p_read (T : Txt K mg) : FnOk P w K mg base (L2N.CX P w) 4 T.a_p_read T.d_p_read ["sets", "tape", "state"] (spTS T) := by
  refine Fun_okN T.F_p_read sc_p_read (fun vs H Q E h => ?_) (fun cdv A outer s H vs Q E hr h => ?_)
  · obtain ⟨t, a, one, two, tp, st, rfl, _⟩ := h
    rfl
  · obtain ⟨t, a, one, two, tp, st, rfl, hT, hs, hA, hk⟩ := h
    refine ⟨_,
    (pss_cons (ps_expr (pe_call (ok_p_check_sets T) (hr.mono (by decide)) (by rfl) T.g_p_check_sets T.F_p_check_sets.kp T.b_p_check_sets .nil pass0 (pa_cons (pv 0) pa_nil))) 
    (pss_cons (ps_expr (pe_callS (okn_p_check_tape T) (hr.mono (by decide)) (by rfl) T.g_p_check_tape T.F_p_check_tape.kp T.b_p_check_tape (fun σ => L2N.passAt (L2N.takes_of rfl rfl rfl rfl) σ) (pa_cons (pv 0) (pa_cons (pv 1) pa_nil)))) 
    (pss_stop (ps_expr (pe_callS (okn_p_check_state T) (hr.mono (by decide)) (by rfl) T.g_p_check_state T.F_p_check_state.kp T.b_p_check_state (fun σ => L2N.passAt (L2N.takes_of rfl rfl rfl rfl) σ) (pa_cons (pv 2) pa_nil)))))), ?_⟩
    refine ⟨_, rfl, t, one, two, rfl, hT, hs, ?_⟩
    refine ⟨_, rfl, _, rfl, t, a, one, two, tp, rfl, hT, hs, hA, fun hc H1 s1 => ?_, fun j hj => ?_⟩
    · rcases hk with ⟨j, hj, _⟩ | ⟨_, hb, hn⟩
      · exact absurd hc hj.not
      · exact ⟨_, rfl, st, rfl, fun z => absurd z hb, fun _ => hn.from s1⟩
    · rcases hk with ⟨j', hj', hx⟩ | ⟨hc, _⟩
      · rw [hj.one hj']
        exact hx
      · exact absurd hc hj.not

theorem okn_p_losses (T : Txt K mg) : FnOk P w K mg base (L2N.CX P w) 4 T.a_p_losses T.d_p_losses ["sets", "tape", "state"] (spTS T) := by
  refine Fun_okN T.F_p_losses sc_p_losses (fun vs H Q E h => ?_) (fun cdv A outer s H vs Q E hr h => ?_)
  · obtain ⟨t, a, one, two, tp, st, rfl, _⟩ := h
    rfl
  · obtain ⟨t, a, one, two, tp, st, rfl, hT, hs, hA, hk⟩ := h
    refine ⟨_,
    (pss_cons (ps_expr (pe_call (ok_p_check_sets T) (hr.mono (by decide)) (by rfl) T.g_p_check_sets T.F_p_check_sets.kp T.b_p_check_sets .nil pass0 (pa_cons (pv 0) pa_nil))) 
    (pss_cons (ps_expr (pe_callS (okn_p_check_tape T) (hr.mono (by decide)) (by rfl) T.g_p_check_tape T.F_p_check_tape.kp T.b_p_check_tape (fun σ => L2N.passAt (L2N.takes_of rfl rfl rfl rfl) σ) (pa_cons (pv 0) (pa_cons (pv 1) pa_nil)))) 
    (pss_stop (ps_expr (pe_callS (okn_p_check_state T) (hr.mono (by decide)) (by rfl) T.g_p_check_state T.F_p_check_state.kp T.b_p_check_state (fun σ => L2N.passAt (L2N.takes_of rfl rfl rfl rfl) σ) (pa_cons (pv 2) pa_nil)))))), ?_⟩
    refine ⟨_, rfl, t, one, two, rfl, hT, hs, ?_⟩
    refine ⟨_, rfl, _, rfl, t, a, one, two, tp, rfl, hT, hs, hA, fun hc H1 s1 => ?_, fun j hj => ?_⟩
    · rcases hk with ⟨j, hj, _⟩ | ⟨_, hb, hn⟩
      · exact absurd hc hj.not
      · exact ⟨_, rfl, st, rfl, fun z => absurd z hb, fun _ => hn.from s1⟩
    · rcases hk with ⟨j', hj', hx⟩ | ⟨hc, _⟩
      · rw [hj.one hj']
        exact hx
      · exact absurd hc hj.not

theorem okn_p_trimmed (T : Txt K mg) : FnOk P w K mg base (L2N.CX P w) 4 T.a_p_trimmed T.d_p_trimmed ["sets", "tape", "state"] (spTS T) := by
  refine Fun_okN T.F_p_trimmed sc_p_trimmed (fun vs H Q E h => ?_) (fun cdv A outer s H vs Q E hr h => ?_)
  · obtain ⟨t, a, one, two, tp, st, rfl, _⟩ := h
    rfl
  · obtain ⟨t, a, one, two, tp, st, rfl, hT, hs, hA, hk⟩ := h
    refine ⟨_,
    (pss_cons (ps_expr (pe_call (ok_p_check_sets T) (hr.mono (by decide)) (by rfl) T.g_p_check_sets T.F_p_check_sets.kp T.b_p_check_sets .nil pass0 (pa_cons (pv 0) pa_nil))) 
    (pss_cons (ps_expr (pe_callS (okn_p_check_tape T) (hr.mono (by decide)) (by rfl) T.g_p_check_tape T.F_p_check_tape.kp T.b_p_check_tape (fun σ => L2N.passAt (L2N.takes_of rfl rfl rfl rfl) σ) (pa_cons (pv 0) (pa_cons (pv 1) pa_nil)))) 
    (pss_stop (ps_expr (pe_callS (okn_p_check_state T) (hr.mono (by decide)) (by rfl) T.g_p_check_state T.F_p_check_state.kp T.b_p_check_state (fun σ => L2N.passAt (L2N.takes_of rfl rfl rfl rfl) σ) (pa_cons (pv 2) pa_nil)))))), ?_⟩
    refine ⟨_, rfl, t, one, two, rfl, hT, hs, ?_⟩
    refine ⟨_, rfl, _, rfl, t, a, one, two, tp, rfl, hT, hs, hA, fun hc H1 s1 => ?_, fun j hj => ?_⟩
    · rcases hk with ⟨j, hj, _⟩ | ⟨_, hb, hn⟩
      · exact absurd hc hj.not
      · exact ⟨_, rfl, st, rfl, fun z => absurd z hb, fun _ => hn.from s1⟩
    · rcases hk with ⟨j', hj', hx⟩ | ⟨hc, _⟩
      · rw [hj.one hj']
        exact hx
      · exact absurd hc hj.not

theorem okn_p_worst (T : Txt K mg) : FnOk P w K mg base (L2N.CX P w) 5 T.a_p_worst T.d_p_worst ["sets", "tape", "state"] (spTS T) := by
  refine Fun_okN T.F_p_worst sc_p_worst (fun vs H Q E h => ?_) (fun cdv A outer s H vs Q E hr h => ?_)
  · obtain ⟨t, a, one, two, tp, st, rfl, _⟩ := h
    rfl
  · obtain ⟨t, a, one, two, tp, st, rfl, hT, hs, hA, hk⟩ := h
    refine ⟨_,
    (pss_stop (ps_set (i := 3) sc_p_worst.nd rfl (Or.inl rfl) (pe_callS (okn_p_losses T) (hr.mono (by decide)) (by rfl) T.g_p_losses T.F_p_losses.kp T.b_p_losses (fun σ => L2N.passAt (L2N.takes_of rfl rfl rfl rfl) σ) (pa_cons (pv 0) (pa_cons (pv 1) (pa_cons (pv 2) pa_nil)))))), ?_⟩
    exact ⟨_, rfl, _, rfl, _, rfl, t, a, one, two, tp, st, rfl, hT, hs, hA, hk⟩

theorem okn_p_by_state (T : Txt K mg) : FnOk P w K mg base (L2N.CX P w) 4 T.a_p_by_state T.d_p_by_state ["sets", "tape"] (spT1 T) := by
  refine Fun_okN T.F_p_by_state sc_p_by_state (fun vs H Q E h => ?_) (fun cdv A outer s H vs Q E hr h => ?_)
  · obtain ⟨t, a, one, two, tp, j, rfl, _⟩ := h
    rfl
  · obtain ⟨t, a, one, two, tp, j, rfl, hT, hs, hA, hj, hx⟩ := h
    refine ⟨_,
    (pss_cons (ps_expr (pe_call (ok_p_check_sets T) (hr.mono (by decide)) (by rfl) T.g_p_check_sets T.F_p_check_sets.kp T.b_p_check_sets .nil pass0 (pa_cons (pv 0) pa_nil))) 
    (pss_stop (ps_expr (pe_callS (okn_p_check_tape T) (hr.mono (by decide)) (by rfl) T.g_p_check_tape T.F_p_check_tape.kp T.b_p_check_tape (fun σ => L2N.passAt (L2N.takes_of rfl rfl rfl rfl) σ) (pa_cons (pv 0) (pa_cons (pv 1) pa_nil)))))), ?_⟩
    refine ⟨_, rfl, t, one, two, rfl, hT, hs, ?_⟩
    exact ⟨_, rfl, _, rfl, t, a, one, two, tp, rfl, hT, hs, hA, fun hc => absurd hc hj.not, fun j' hj' => by rw [hj'.one hj]; exact hx⟩

theorem okn_p_written (T : Txt K mg) : FnOk P w K mg base (L2N.CX P w) 4 T.a_p_written T.d_p_written ["sets", "tape"] (spT1 T) := by
  refine Fun_okN T.F_p_written sc_p_written (fun vs H Q E h => ?_) (fun cdv A outer s H vs Q E hr h => ?_)
  · obtain ⟨t, a, one, two, tp, j, rfl, _⟩ := h
    rfl
  · obtain ⟨t, a, one, two, tp, j, rfl, hT, hs, hA, hj, hx⟩ := h
    refine ⟨_,
    (pss_cons (ps_expr (pe_call (ok_p_check_sets T) (hr.mono (by decide)) (by rfl) T.g_p_check_sets T.F_p_check_sets.kp T.b_p_check_sets .nil pass0 (pa_cons (pv 0) pa_nil))) 
    (pss_stop (ps_expr (pe_callS (okn_p_check_tape T) (hr.mono (by decide)) (by rfl) T.g_p_check_tape T.F_p_check_tape.kp T.b_p_check_tape (fun σ => L2N.passAt (L2N.takes_of rfl rfl rfl rfl) σ) (pa_cons (pv 0) (pa_cons (pv 1) pa_nil)))))), ?_⟩
    refine ⟨_, rfl, t, one, two, rfl, hT, hs, ?_⟩
    exact ⟨_, rfl, _, rfl, t, a, one, two, tp, rfl, hT, hs, hA, fun hc => absurd hc hj.not, fun j' hj' => by rw [hj'.one hj]; exact hx⟩

theorem okn_p_joined (T : Txt K mg) : FnOk P w K mg base (L2N.CX P w) 4 T.a_p_joined T.d_p_joined ["sets", "one", "other"] (spJ T) := by
  refine Fun_okN T.F_p_joined sc_p_joined (fun vs H Q E h => ?_) (fun cdv A outer s H vs Q E hr h => ?_)
  · obtain ⟨t, a, b, one, two, ta, tb, j, rfl, _⟩ := h
    rfl
  · obtain ⟨t, a, b, one, two, ta, tb, j, rfl, hT, hs, hA, hB, hk, hx⟩ := h
    refine ⟨_,
    (pss_cons (ps_expr (pe_call (ok_p_check_sets T) (hr.mono (by decide)) (by rfl) T.g_p_check_sets T.F_p_check_sets.kp T.b_p_check_sets .nil pass0 (pa_cons (pv 0) pa_nil))) 
    (pss_cons (ps_expr (pe_callS (okn_p_check_tape T) (hr.mono (by decide)) (by rfl) T.g_p_check_tape T.F_p_check_tape.kp T.b_p_check_tape (fun σ => L2N.passAt (L2N.takes_of rfl rfl rfl rfl) σ) (pa_cons (pv 0) (pa_cons (pv 1) pa_nil)))) 
    (pss_stop (ps_expr (pe_callS (okn_p_check_tape T) (hr.mono (by decide)) (by rfl) T.g_p_check_tape T.F_p_check_tape.kp T.b_p_check_tape (fun σ => L2N.passAt (L2N.takes_of rfl rfl rfl rfl) σ) (pa_cons (pv 0) (pa_cons (pv 2) pa_nil))))))), ?_⟩
    refine ⟨_, rfl, t, one, two, rfl, hT, hs, ?_⟩
    refine ⟨_, rfl, _, rfl, t, a, one, two, ta, rfl, hT, hs, hA, fun hc H1 s1 => ?_, fun j' hj => ?_⟩
    · rcases hk with hj | ⟨_, hj⟩
      · exact absurd hc hj.not
      · exact ⟨_, rfl, _, rfl, t, b, one, two, tb, rfl, s1 _ _ hT, hs, s1 _ _ hB, fun hc2 => absurd hc2 hj.not, fun j' hj' => by rw [hj'.one hj]; exact hx.from s1⟩
    · rcases hk with hj' | ⟨hc, _⟩
      · rw [hj.one hj']
        exact hx
      · exact absurd hc hj.not
theorem okn_p_cut (T : Txt K mg) : FnOk P w K mg base (L2N.CX P w) 4 T.a_p_cut T.d_p_cut ["sets", "tape", "at"] (spCt T) := by
  refine Fun_okN T.F_p_cut sc_p_cut (fun vs H Q E h => ?_) (fun cdv A outer s H vs Q E hr h => ?_)
  · obtain ⟨t, a, one, two, tp, k, rfl, _⟩ := h
    rfl
  · obtain ⟨t, a, one, two, tp, k, rfl, hT, hs, hA, hk⟩ := h
    refine ⟨_,
    (pss_cons (ps_expr (pe_call (ok_p_check_sets T) (hr.mono (by decide)) (by rfl) T.g_p_check_sets T.F_p_check_sets.kp T.b_p_check_sets .nil pass0 (pa_cons (pv 0) pa_nil))) 
    (pss_cons (ps_expr (pe_callS (okn_p_check_tape T) (hr.mono (by decide)) (by rfl) T.g_p_check_tape T.F_p_check_tape.kp T.b_p_check_tape (fun σ => L2N.passAt (L2N.takes_of rfl rfl rfl rfl) σ) (pa_cons (pv 0) (pa_cons (pv 1) pa_nil)))) 
    (pss_stop (ps_if (pt_not (pt_chain op_le op_le pe_int (pv 2) (pe_callB call_len_seq (by rfl) T.m_len PySem.boot_len (pa_cons (pv 1) pa_nil)))) 
      (pss_one (L2N.ps_raise rfl (L2N.takes_of rfl rfl rfl rfl) (L2N.pmk_own PySem.F.excBase_ValueError T.X_BadNumber.xc T.X_BadNumber.g T.X_BadNumber.kp (raises_own T.X_BadNumber.sb T.X_BadNumber.ty) (by rfl)))) pss_nil)))), ?_⟩
    refine ⟨_, rfl, t, one, two, rfl, hT, hs, ?_⟩
    refine ⟨_, rfl, _, rfl, t, a, one, two, tp, rfl, hT, hs, hA, fun hc H1 s1 => ?_, fun j hj => ?_⟩
    · rcases hk with ⟨j, hj, _⟩ | ⟨_, hb, hn⟩
      · exact absurd hc hj.not
      · refine ⟨_, rfl, _, _, rfl, rfl, _, rfl, ?_⟩
        by_cases h1 : 0 ≤ k
        · rw [decide_eq_true h1]
          refine iteT ⟨_, rfl, a, _, rfl, .inl (SqL.of (s1 _ _ hA)), _, _, rfl, rfl, _, rfl, ?_⟩
          rw [decide_eq_false (show ¬ k ≤ ((Ints tp).length : Int) by rw [List.length_map]; exact fun z => hb ⟨h1, z⟩)]
          exact iteT (hn _ s1)
        · rw [decide_eq_false h1]
          refine iteF ?_
          exact ⟨_, rfl, iteT (hn _ s1)⟩
    · rcases hk with ⟨j', hj', hx⟩ | ⟨hc, _⟩
      · rw [hj.one hj']
        exact hx
      · exact absurd hc hj.not
theorem okn_p_least (T : Txt K mg) : FnOk P w K mg base (L2N.CX P w) 4 T.a_p_least T.d_p_least ["sets", "text", "state"] (spLe T) := by
  refine Fun_okN T.F_p_least sc_p_least (fun vs H Q E h => ?_) (fun cdv A outer s H vs Q E hr h => ?_)
  · obtain ⟨t, one, two, tx, st, rfl, _⟩ := h
    rfl
  · obtain ⟨t, one, two, tx, st, rfl, hT, hs, hl, hk⟩ := h
    refine ⟨_,
    (pss_cons (ps_expr (pe_call (ok_p_check_sets T) (hr.mono (by decide)) (by rfl) T.g_p_check_sets T.F_p_check_sets.kp T.b_p_check_sets .nil pass0 (pa_cons (pv 0) pa_nil))) 
    (pss_cons (ps_expr (pe_callS (okn_p_check_text T) (hr.mono (by decide)) (by rfl) T.g_p_check_text T.F_p_check_text.kp T.b_p_check_text (fun σ => L2N.passAt (L2N.takes_of rfl rfl rfl rfl) σ) (pa_cons (pv 0) (pa_cons (pv 1) pa_nil)))) 
    (pss_stop (ps_expr (pe_callS (okn_p_check_state T) (hr.mono (by decide)) (by rfl) T.g_p_check_state T.F_p_check_state.kp T.b_p_check_state (fun σ => L2N.passAt (L2N.takes_of rfl rfl rfl rfl) σ) (pa_cons (pv 2) pa_nil)))))), ?_⟩
    refine ⟨_, rfl, t, one, two, rfl, hT, hs, ?_⟩
    refine ⟨_, rfl, _, rfl, t, one, two, tx, rfl, hT, hs, hl, fun hc H1 s1 => ?_, fun j hj => ?_⟩
    · rcases hk with ⟨j, hj, _⟩ | ⟨_, hb, hn⟩
      · exact absurd hc hj.not
      · exact ⟨_, rfl, st, rfl, fun z => absurd z hb, fun _ => hn.from s1⟩
    · rcases hk with ⟨j', hj', hx⟩ | ⟨hc, _⟩
      · rw [hj.one hj']
        exact hx
      · exact absurd hc hj.not
theorem okn_p_guarded (T : Txt K mg) : FnOk P w K mg base (L2N.CX P w) 4 T.a_p_guarded T.d_p_guarded ["sets", "text", "state", "most"] (spGu T) := by
  refine Fun_okN T.F_p_guarded sc_p_guarded (fun vs H Q E h => ?_) (fun cdv A outer s H vs Q E hr h => ?_)
  · obtain ⟨t, one, two, tx, st, m, rfl, _⟩ := h
    rfl
  · obtain ⟨t, one, two, tx, st, m, rfl, hT, hs, hl, hk⟩ := h
    refine ⟨_,
    (pss_cons (ps_expr (pe_call (ok_p_check_sets T) (hr.mono (by decide)) (by rfl) T.g_p_check_sets T.F_p_check_sets.kp T.b_p_check_sets .nil pass0 (pa_cons (pv 0) pa_nil))) 
    (pss_cons (ps_expr (pe_callS (okn_p_check_text T) (hr.mono (by decide)) (by rfl) T.g_p_check_text T.F_p_check_text.kp T.b_p_check_text (fun σ => L2N.passAt (L2N.takes_of rfl rfl rfl rfl) σ) (pa_cons (pv 0) (pa_cons (pv 1) pa_nil)))) 
    (pss_cons (ps_expr (pe_callS (okn_p_check_state T) (hr.mono (by decide)) (by rfl) T.g_p_check_state T.F_p_check_state.kp T.b_p_check_state (fun σ => L2N.passAt (L2N.takes_of rfl rfl rfl rfl) σ) (pa_cons (pv 2) pa_nil))) 
    (pss_stop (ps_if (pt_not (pt_chain op_le op_le pe_int (pv 3) (pe_glob (v := .int 20) (by rfl) T.c_MOST_SPOILT ⟨_, rfl⟩))) 
      (pss_one (L2N.ps_raise rfl (L2N.takes_of rfl rfl rfl rfl) (L2N.pmk_own PySem.F.excBase_ValueError T.X_BadNumber.xc T.X_BadNumber.g T.X_BadNumber.kp (raises_own T.X_BadNumber.sb T.X_BadNumber.ty) (by rfl)))) pss_nil))))), ?_⟩
    refine ⟨_, rfl, t, one, two, rfl, hT, hs, ?_⟩
    refine ⟨_, rfl, _, rfl, t, one, two, tx, rfl, hT, hs, hl, fun hc H1 s1 => ?_, fun j hj => ?_⟩
    · rcases hk with ⟨j, hj, _⟩ | ⟨_, hb, hn⟩
      · exact absurd hc hj.not
      · refine ⟨_, rfl, st, rfl, fun z H2 s2 => ?_, fun _ => hn.from s1⟩
        have hm := (hb.resolve_left (fun y => y z)).2
        have s12 := s1.trans s2
        refine ⟨_, rfl, _, _, rfl, rfl, _, rfl, ?_⟩
        by_cases h1 : 0 ≤ m
        · rw [decide_eq_true h1]
          refine iteT ⟨_, _, rfl, rfl, _, rfl, ?_⟩
          rw [decide_eq_false (show ¬ m ≤ 20 from fun y => hm ⟨h1, y⟩)]
          exact iteT (hn _ s12)
        · rw [decide_eq_false h1]
          refine iteF ?_
          exact ⟨_, rfl, iteT (hn _ s12)⟩
    · rcases hk with ⟨j', hj', hx⟩ | ⟨hc, _⟩
      · rw [hj.one hj']
        exact hx
      · exact absurd hc hj.not

/-! ### the lambdas of _law_works -/
abbrev qWorks : Str := ("_law_works" : Str) ++ ".<locals>." ++ "<lambda>"
abbrev cellsW (n : Nat) : List (Str × Addr) := cellsFrom (n + 1) (defScope s_l_works).names []
theorem TSt.hide {T : Txt K mg} {n : Nat} {tp : List Int} {st : Int} {H : Hp} {cs : List Addr} {E : XK} (hc : CellsAt H cs) (h : TSt T n tp st H E) : TSt T n tp st (hide cs H) (fun cls d H' => (∀ c ∈ cs, H' c = none) → E cls d (unhide cs H H')) := by
  rcases h with ⟨j, h1, h2⟩ | ⟨h1, h2, h3⟩
  · exact .inl ⟨j, h1, h2.hide hc⟩
  · exact .inr ⟨h1, h2, h3.hide⟩

abbrev lamW0 : Expr := eItem 0 (eVal ((defBody s_l_works).getD 0 (.Pass ⟨0, 0, 0, 0⟩)))
theorem act_W0 (T : Txt K mg) {H : Hp} {f c t a : Addr} {n : Nat} {one two : List Nat} {tp : List Int} {st : Int} (hf : H f = some (LamO f (lamOf lamW0 qWorks (cellsW n) c .none))) (hc : H c = some (LamX.CodeO c qWorks))
    (k1 : ∀ b, (cellsW n).lookup ("_law_sets_here" : Str) = some b → CellIn H b (.ref t)) (k2 : ∀ b, (cellsW n).lookup ("_law_tape_here" : Str) = some b → CellIn H b (.ref a)) (k3 : ∀ b, (cellsW n).lookup ("_law_state" : Str) = some b → CellIn H b (.int st))
    (hT : SetsAt H t one two) (hs : Sets one two) (hA : H a = some (.lst (Ints tp))) :
    Acts P w K mg base 6 H f (fun E _ => TSt T one.length tp st H E) := by
  refine acts_known (k := 5) (N := n_l_works) [("_law_sets_here", .ref t), ("_law_tape_here", .ref a), ("_law_state", .int st)] hf hc (by decide +kernel)
    (by show freeIn (lamS lamW0) ["_law_sets_here", "_law_tape_here", "_law_state"] = true; decide +kernel) (List.forall_mem_cons.mpr ⟨k1, List.forall_mem_cons.mpr ⟨k2, List.forall_mem_cons.mpr ⟨k3, fun _ z => nomatch z⟩⟩⟩) (binds_none (F := lamOf lamW0 qWorks (cellsW n) c .none) fun _ _ _ => rfl) (fun A outer s cs E Q hr CA hq => ?_)
  · refine ⟨_,
(pe_callS (okn_p_read T) (hr.mono (by decide)) (by rfl) T.g_p_read T.F_p_read.kp T.b_p_read (fun σ => L2N.passAt (L2N.takes_of rfl rfl rfl rfl) σ) (pa_cons (pv 0) (pa_cons (pv 1) (pa_cons (pv 2) pa_nil)))), ?_⟩
    exact ⟨_, rfl, _, rfl, _, rfl, t, a, one, two, tp, st, rfl, sets_hide CA hT, hs, hide_at CA hA lst_ncell, hq.hide CA⟩

abbrev lamW1 : Expr := eArg 0 (eVal ((defBody s_l_works).getD 1 (.Pass ⟨0, 0, 0, 0⟩)))
theorem act_W1 (T : Txt K mg) {H : Hp} {f c t a : Addr} {n : Nat} {one two : List Nat} {tp : List Int} {st : Int} (hf : H f = some (LamO f (lamOf lamW1 qWorks (cellsW n) c .none))) (hc : H c = some (LamX.CodeO c qWorks))
    (k1 : ∀ b, (cellsW n).lookup ("_law_sets_here" : Str) = some b → CellIn H b (.ref t)) (k2 : ∀ b, (cellsW n).lookup ("_law_tape_here" : Str) = some b → CellIn H b (.ref a)) (k3 : ∀ b, (cellsW n).lookup ("_law_state" : Str) = some b → CellIn H b (.int st))
    (hT : SetsAt H t one two) (hs : Sets one two) (hA : H a = some (.lst (Ints tp))) :
    Acts P w K mg base 6 H f (fun E _ => TSt T one.length tp st H E) := by
  refine acts_known (k := 5) (N := n_l_works) [("_law_sets_here", .ref t), ("_law_tape_here", .ref a), ("_law_state", .int st)] hf hc (by decide +kernel)
    (by show freeIn (lamS lamW1) ["_law_sets_here", "_law_tape_here", "_law_state"] = true; decide +kernel) (List.forall_mem_cons.mpr ⟨k1, List.forall_mem_cons.mpr ⟨k2, List.forall_mem_cons.mpr ⟨k3, fun _ z => nomatch z⟩⟩⟩) (binds_none (F := lamOf lamW1 qWorks (cellsW n) c .none) fun _ _ _ => rfl) (fun A outer s cs E Q hr CA hq => ?_)
  · refine ⟨_,
(pe_callS (okn_p_losses T) (hr.mono (by decide)) (by rfl) T.g_p_losses T.F_p_losses.kp T.b_p_losses (fun σ => L2N.passAt (L2N.takes_of rfl rfl rfl rfl) σ) (pa_cons (pv 0) (pa_cons (pv 1) (pa_cons (pv 2) pa_nil)))), ?_⟩
    exact ⟨_, rfl, _, rfl, _, rfl, t, a, one, two, tp, st, rfl, sets_hide CA hT, hs, hide_at CA hA lst_ncell, hq.hide CA⟩

abbrev lamW2 : Expr := eArg 0 (eVal ((defBody s_l_works).getD 2 (.Pass ⟨0, 0, 0, 0⟩)))
theorem act_W2 (T : Txt K mg) {H : Hp} {f c t a : Addr} {n : Nat} {one two : List Nat} {tp : List Int} {st : Int} (hf : H f = some (LamO f (lamOf lamW2 qWorks (cellsW n) c .none))) (hc : H c = some (LamX.CodeO c qWorks))
    (k1 : ∀ b, (cellsW n).lookup ("_law_sets_here" : Str) = some b → CellIn H b (.ref t)) (k2 : ∀ b, (cellsW n).lookup ("_law_tape_here" : Str) = some b → CellIn H b (.ref a)) (k3 : ∀ b, (cellsW n).lookup ("_law_state" : Str) = some b → CellIn H b (.int st))
    (hT : SetsAt H t one two) (hs : Sets one two) (hA : H a = some (.lst (Ints tp))) :
    Acts P w K mg base 6 H f (fun E _ => TSt T one.length tp st H E) := by
  refine acts_known (k := 5) (N := n_l_works) [("_law_sets_here", .ref t), ("_law_tape_here", .ref a), ("_law_state", .int st)] hf hc (by decide +kernel)
    (by show freeIn (lamS lamW2) ["_law_sets_here", "_law_tape_here", "_law_state"] = true; decide +kernel) (List.forall_mem_cons.mpr ⟨k1, List.forall_mem_cons.mpr ⟨k2, List.forall_mem_cons.mpr ⟨k3, fun _ z => nomatch z⟩⟩⟩) (binds_none (F := lamOf lamW2 qWorks (cellsW n) c .none) fun _ _ _ => rfl) (fun A outer s cs E Q hr CA hq => ?_)
  · refine ⟨_,
(pe_callS (okn_p_worst T) (hr.mono (by decide)) (by rfl) T.g_p_worst T.F_p_worst.kp T.b_p_worst (fun σ => L2N.passAt (L2N.takes_of rfl rfl rfl rfl) σ) (pa_cons (pv 0) (pa_cons (pv 1) (pa_cons (pv 2) pa_nil)))), ?_⟩
    exact ⟨_, rfl, _, rfl, _, rfl, t, a, one, two, tp, st, rfl, sets_hide CA hT, hs, hide_at CA hA lst_ncell, hq.hide CA⟩

abbrev lamW3 : Expr := eArg 0 (eVal ((defBody s_l_works).getD 3 (.Pass ⟨0, 0, 0, 0⟩)))
theorem act_W3 (T : Txt K mg) {H : Hp} {f c t a : Addr} {n : Nat} {one two : List Nat} {tp : List Int} {st : Int} (hf : H f = some (LamO f (lamOf lamW3 qWorks (cellsW n) c .none))) (hc : H c = some (LamX.CodeO c qWorks))
    (k1 : ∀ b, (cellsW n).lookup ("_law_sets_here" : Str) = some b → CellIn H b (.ref t)) (k2 : ∀ b, (cellsW n).lookup ("_law_tape_here" : Str) = some b → CellIn H b (.ref a)) (k3 : ∀ b, (cellsW n).lookup ("_law_state" : Str) = some b → CellIn H b (.int st))
    (hT : SetsAt H t one two) (hs : Sets one two) (hA : H a = some (.lst (Ints tp))) :
    Acts P w K mg base 6 H f (fun E _ => TSt T one.length tp st H E) := by
  refine acts_known (k := 5) (N := n_l_works) [("_law_sets_here", .ref t), ("_law_tape_here", .ref a), ("_law_state", .int st)] hf hc (by decide +kernel)
    (by show freeIn (lamS lamW3) ["_law_sets_here", "_law_tape_here", "_law_state"] = true; decide +kernel) (List.forall_mem_cons.mpr ⟨k1, List.forall_mem_cons.mpr ⟨k2, List.forall_mem_cons.mpr ⟨k3, fun _ z => nomatch z⟩⟩⟩) (binds_none (F := lamOf lamW3 qWorks (cellsW n) c .none) fun _ _ _ => rfl) (fun A outer s cs E Q hr CA hq => ?_)
  · refine ⟨_,
(pe_callS (okn_p_trimmed T) (hr.mono (by decide)) (by rfl) T.g_p_trimmed T.F_p_trimmed.kp T.b_p_trimmed (fun σ => L2N.passAt (L2N.takes_of rfl rfl rfl rfl) σ) (pa_cons (pv 0) (pa_cons (pv 1) (pa_cons (pv 2) pa_nil)))), ?_⟩
    exact ⟨_, rfl, _, rfl, _, rfl, t, a, one, two, tp, st, rfl, sets_hide CA hT, hs, hide_at CA hA lst_ncell, hq.hide CA⟩

def spWorks (T : Txt K mg) (P : Program) (w : World) (base : Heap) (PW : Addr) : Sp := fun vs H Q _ => ∃ (t a : Addr) (one two : List Nat) (tp : List Int) (st : Int) (TTs : List (Addr × Str)), vs = [.ref t, .ref a, .int st] ∧ SetsAt H t one two ∧ Sets one two ∧ H a = some (.lst (Ints tp)) ∧
  (PW, qWorks) ∈ TTs ∧ (∀ p ∈ TTs, p.1 = PW → p.2 = qWorks) ∧ LamX.Tabs TTs H ∧
  ∀ (H' : Hp) (p : Addr) (fs : List Addr), LamX.ExtN H H' → LamX.Tabs TTs H' → H p = none → H' p = some (.lst (fs.map V.ref)) → fs.length ≤ 20 →
    (∀ f ∈ fs, ∀ H'', ExtL H' H'' → H'' a = some (.lst (Ints tp)) → Acts P w K mg base 6 H'' f (fun E _ => TSt T one.length tp st H'' E)) → Q (.ref p) H'
theorem ok_l_works (T : Txt K mg) (TB : LamX.TabB base mg T.c_l_works T.P_l_works) : FnOk P w K mg base CX0 1 T.a_l_works T.d_l_works ["_law_sets_here", "_law_tape_here", "_law_state"] (spWorks T P w base T.P_l_works) := by
  refine T.FC_l_works.okA (ns := ["_law_sets_here", "_law_tape_here", "_law_state"]) sc_l_works (fun vs H Q E h => ?_) (by decide +kernel) (fun A outer s H vs Q E hr h => ?_)
  · obtain ⟨t, a, one, two, tp, st, TTs, rfl, _⟩ := h
    rfl
  · obtain ⟨t, a, one, two, tp, st, TTs, rfl, hT, hs, hA, hmW, huW, TT, q⟩ := h
    refine ⟨_,
    (pssA_cons (ps_set (i := 3) sc_l_works.nd rfl (Or.inl rfl) (pe_lst (pa_cons (pe_lam0 (T := TTs) TB rfl hmW huW rfl rfl (by show lamFreeB (defScope s_l_works) _ = true; decide +kernel)) pa_nil))) 
    (pssA_cons (ps_expr (pe_bm PySem.F.plainAttrs_list PySem.F.slot_list_append PySem.F.type_list_append mt_append (pv 3) (pa_cons (pe_lam0 (T := TTs) TB rfl hmW huW rfl rfl (by show lamFreeB (defScope s_l_works) _ = true; decide +kernel)) pa_nil))) 
    (pssA_cons (ps_expr (pe_bm PySem.F.plainAttrs_list PySem.F.slot_list_append PySem.F.type_list_append mt_append (pv 3) (pa_cons (pe_lam0 (T := TTs) TB rfl hmW huW rfl rfl (by show lamFreeB (defScope s_l_works) _ = true; decide +kernel)) pa_nil))) 
    (pssA_cons (ps_expr (pe_bm PySem.F.plainAttrs_list PySem.F.slot_list_append PySem.F.type_list_append mt_append (pv 3) (pa_cons (pe_lam0 (T := TTs) TB rfl hmW huW rfl rfl (by show lamFreeB (defScope s_l_works) _ = true; decide +kernel)) pa_nil))) 
    (pssA_ret (pv 3)))))), ?_⟩
    refine ⟨TT, fun H1 f c ext hn T1 hf ef ec => ⟨(by show 1 ≤ sizeLine; decide), fun p hp => ?_⟩⟩
    have W := Works.first (e := lamW0) ext T1 ef ec hp (hn _ hp)
    generalize upd H1 p (.lst [.ref f]) = H1 at W ⊢
    clear ext hn T1 hf ef ec
    refine ⟨_, rfl, .inl ⟨rfl, _, SqL.of W.lst⟩, W.tabs, fun H1 f c ext hn T1 hf ef ec => ⟨p, _, _, rfl, rfl, W.lstE ext, W.small, ?_⟩⟩
    replace W := W.step (e := lamW1) (by simp) ext T1 ef ec
    generalize upd H1 p _ = H1 at W ⊢
    clear ext hn T1 hf ef ec
    refine ⟨_, rfl, .inl ⟨rfl, _, SqL.of W.lst⟩, W.tabs, fun H1 f c ext hn T1 hf ef ec => ⟨p, _, _, rfl, rfl, W.lstE ext, W.small, ?_⟩⟩
    replace W := W.step (e := lamW2) (by simp) ext T1 ef ec
    generalize upd H1 p _ = H1 at W ⊢
    clear ext hn T1 hf ef ec
    refine ⟨_, rfl, .inl ⟨rfl, _, SqL.of W.lst⟩, W.tabs, fun H1 f c ext hn T1 hf ef ec => ⟨p, _, _, rfl, rfl, W.lstE ext, W.small, ?_⟩⟩
    replace W := W.step (e := lamW3) (by simp) ext T1 ef ec
    generalize upd H1 p _ = H1 at W ⊢
    clear ext hn T1 hf ef ec
    refine ⟨_, rfl, fun cs C => ?_⟩
    refine q _ p _ (W.ext.trans (LamX.ExtN.of C.same)) (fun x hx => (W.tabs x hx).ext C.same) W.new (C.same _ _ W.lst) W.len fun f hf H'' sm hA2 => ?_
    have hT2 : SetsAt H'' t one two := sm _ _ (C.same _ _ (W.ext _ _ hT (fun ps z => by cases z))) (fun ps z => by cases z) (fun xs z => by cases z)
    obtain ⟨e, he, c, ef, ec⟩ := W.mem f hf
    have ef2 := sm _ _ (C.same _ _ ef) lamO_ne lamO_nl
    have ec2 := sm _ _ (C.same _ _ ec) LamX.codeO_ne codeO_nl
    have k1 : ∀ b, (cellsW s.heap.objs.size).lookup ("_law_sets_here" : Str) = some b → CellIn H'' b (.ref t) := fun b hb => (C.at0 (i := 0) (by decide) rfl rfl hb).to sm
    have k2 : ∀ b, (cellsW s.heap.objs.size).lookup ("_law_tape_here" : Str) = some b → CellIn H'' b (.ref a) := fun b hb => (C.at0 (i := 1) (by decide) rfl rfl hb).to sm
    have k3 : ∀ b, (cellsW s.heap.objs.size).lookup ("_law_state" : Str) = some b → CellIn H'' b (.int st) := fun b hb => (C.at0 (i := 2) (by decide) rfl rfl hb).to sm
    simp only [List.mem_cons, List.not_mem_nil, or_false, List.mem_append, List.nil_append, List.cons_append] at he
    rcases he with rfl | rfl | rfl | rfl
    · exact act_W0 T ef2 ec2 k1 k2 k3 hT2 hs hA2
    · exact act_W1 T ef2 ec2 k1 k2 k3 hT2 hs hA2
    · exact act_W2 T ef2 ec2 k1 k2 k3 hT2 hs hA2
    · exact act_W3 T ef2 ec2 k1 k2 k3 hT2 hs hA2

/-! ### the law's lambdas -/
abbrev qLaw : Str := ("law" : Str) ++ ".<locals>." ++ "<lambda>"
abbrev cellsL (n : Nat) : List (Str × Addr) := cellsFrom (n + 1) (defScope s_law).names []

abbrev lamL0 : Expr := eItem 0 (eRight (eVal ((defBody s_law).getD 8 (.Pass ⟨0, 0, 0, 0⟩))))
theorem act_L0 (T : Txt K mg) {H : Hp} {f t a B : Addr} {n j : Nat} {one two tn tx : List Nat} {tp bl : List Int} {st m : Int} (hL : Live0 H qLaw (cellsL n) f lamL0)
    (k0 : ∀ b, (cellsL n).lookup ("_law_sets_here" : Str) = some b → CellIn H b (.ref t)) (k1 : ∀ b, (cellsL n).lookup ("_law_bad" : Str) = some b → CellIn H b (.ref B)) (hT : SetsAt H t one two) (hs : Sets one two) (hB : H B = some (.lst (Ints bl))) (hj : BadAt one.length bl j) :
    Acts P w K mg base 6 H f (fun E _ => XOut H E T.X_BadTape.C "at" (.int (j : Nat))) := by
  obtain ⟨c, hf, hc⟩ := hL
  refine acts_known (k := 5) (N := n_law) [("_law_sets_here", .ref t), ("_law_bad", .ref B)] hf hc (by decide +kernel)
    (by show freeIn (lamS lamL0) ["_law_sets_here", "_law_bad"] = true; decide +kernel) (List.forall_mem_cons.mpr ⟨k0, List.forall_mem_cons.mpr ⟨k1, fun _ z => nomatch z⟩⟩) (binds_none (F := lamOf lamL0 qLaw (cellsL n) c .none) fun _ _ _ => rfl) (fun A outer s cs E Q hr CA hq => ?_)
  · refine ⟨_,
(pe_callS (okn_p_by_state T) (hr.mono (by decide)) (by rfl) T.g_p_by_state T.F_p_by_state.kp T.b_p_by_state (fun σ => L2N.passAt (L2N.takes_of rfl rfl rfl rfl) σ) (pa_cons (pv 10) (pa_cons (pv 7) pa_nil))), ?_⟩
    exact ⟨_, rfl, _, rfl, t, B, one, two, bl, j, rfl, sets_hide CA hT, hs, hide_at CA hB lst_ncell, hj, hq.hide CA⟩

abbrev lamL1 : Expr := eItem 1 (eRight (eVal ((defBody s_law).getD 8 (.Pass ⟨0, 0, 0, 0⟩))))
theorem act_L1 (T : Txt K mg) {H : Hp} {f t a B : Addr} {n j : Nat} {one two tn tx : List Nat} {tp bl : List Int} {st m : Int} (hL : Live1 H qLaw (cellsL n) f lamL1)
    (k0 : ∀ b, (cellsL n).lookup ("_law_sets_here" : Str) = some b → CellIn H b (.ref t)) (k1 : ∀ b, (cellsL n).lookup ("_law_bad" : Str) = some b → CellIn H b (.ref B)) (hT : SetsAt H t one two) (hs : Sets one two) (hB : H B = some (.lst (Ints bl))) (hj : BadAt one.length bl j) :
    Acts P w K mg base 6 H f (fun E _ => XOut H E T.X_BadTape.C "at" (.int (j : Nat))) := by
  obtain ⟨c, x, hf, hc, hx⟩ := hL
  refine acts_known (k := 5) (N := n_law) [("_law_sets_here", .ref t), ("_law_bad", .ref B)] hf hc (by decide +kernel)
    (by show freeIn (lamS lamL1) ["_law_sets_here", "_law_bad"] = true; decide +kernel) (List.forall_mem_cons.mpr ⟨k0, List.forall_mem_cons.mpr ⟨k1, fun _ z => nomatch z⟩⟩) (binds_one (F := lamOf lamL1 qLaw (cellsL n) c (.ref x)) (a := "_law_a") hx rfl (by show (lamS lamL1).names.lookup ("_law_a" : Str) = some .local; decide +kernel) fun _ _ _ => ⟨_, rfl, fun _ => rfl⟩) (fun A outer s cs E Q hr CA hq => ?_)
  · refine ⟨_,
(pe_callS (okn_p_joined T) (hr.mono (by decide)) (by rfl) T.g_p_joined T.F_p_joined.kp T.b_p_joined (fun σ => L2N.passAt (L2N.takes_of rfl rfl rfl rfl) σ) (pa_cons (pv 10) (pa_cons (pv 7) (pa_cons (pe_lst (pa_cons (pe_un un_neg pe_int) pa_nil)) pa_nil)))), ?_⟩
    refine ⟨_, rfl, _, rfl, _, rfl, (by show 1 ≤ sizeLine; decide), fun l hl => ?_⟩
    have s1 := Same.new (o := .lst [.int (-1)]) hl
    exact ⟨t, B, l, one, two, bl, [-1], j, rfl, s1 _ _ (sets_hide CA hT), hs, s1 _ _ (hide_at CA hB lst_ncell), upd_same, .inl hj, (hq.hide CA).from s1⟩

abbrev lamL2 : Expr := eItem 0 (eRight (eVal ((defBody s_law).getD 9 (.Pass ⟨0, 0, 0, 0⟩))))
theorem act_L2 (T : Txt K mg) {H : Hp} {f t a B : Addr} {n j : Nat} {one two tn tx : List Nat} {tp bl : List Int} {st m : Int} (hL : Live1 H qLaw (cellsL n) f lamL2)
    (k0 : ∀ b, (cellsL n).lookup ("_law_sets_here" : Str) = some b → CellIn H b (.ref t)) (k1 : ∀ b, (cellsL n).lookup ("_law_tape_here" : Str) = some b → CellIn H b (.ref a)) (k2 : ∀ b, (cellsL n).lookup ("_law_bad" : Str) = some b → CellIn H b (.ref B)) (hT : SetsAt H t one two) (hs : Sets one two) (hA : H a = some (.lst (Ints tp))) (ht : Tape one.length tp) (hB : H B = some (.lst (Ints bl))) (hj : BadAt one.length bl j) :
    Acts P w K mg base 6 H f (fun E _ => XOut H E T.X_BadTape.C "at" (.int (j : Nat))) := by
  obtain ⟨c, x, hf, hc, hx⟩ := hL
  refine acts_known (k := 5) (N := n_law) [("_law_sets_here", .ref t), ("_law_tape_here", .ref a), ("_law_bad", .ref B)] hf hc (by decide +kernel)
    (by show freeIn (lamS lamL2) ["_law_sets_here", "_law_tape_here", "_law_bad"] = true; decide +kernel) (List.forall_mem_cons.mpr ⟨k0, List.forall_mem_cons.mpr ⟨k1, List.forall_mem_cons.mpr ⟨k2, fun _ z => nomatch z⟩⟩⟩) (binds_one (F := lamOf lamL2 qLaw (cellsL n) c (.ref x)) (a := "_law_b") hx rfl (by show (lamS lamL2).names.lookup ("_law_b" : Str) = some .local; decide +kernel) fun _ _ _ => ⟨_, rfl, fun _ => rfl⟩) (fun A outer s cs E Q hr CA hq => ?_)
  · refine ⟨_,
(pe_callS (okn_p_joined T) (hr.mono (by decide)) (by rfl) T.g_p_joined T.F_p_joined.kp T.b_p_joined (fun σ => L2N.passAt (L2N.takes_of rfl rfl rfl rfl) σ) (pa_cons (pv 10) (pa_cons (pv 12) (pa_cons (pv 7) pa_nil)))), ?_⟩
    exact ⟨_, rfl, _, rfl, _, rfl, t, a, B, one, two, tp, bl, j, rfl, sets_hide CA hT, hs, hide_at CA hA lst_ncell, hide_at CA hB lst_ncell, .inr ⟨ht, hj⟩, hq.hide CA⟩

abbrev lamL3 : Expr := eItem 1 (eRight (eVal ((defBody s_law).getD 9 (.Pass ⟨0, 0, 0, 0⟩))))
theorem act_L3 (T : Txt K mg) {H : Hp} {f t a B : Addr} {n j : Nat} {one two tn tx : List Nat} {tp bl : List Int} {st m : Int} (hL : Live1 H qLaw (cellsL n) f lamL3)
    (k0 : ∀ b, (cellsL n).lookup ("_law_sets_here" : Str) = some b → CellIn H b (.ref t)) (k1 : ∀ b, (cellsL n).lookup ("_law_bad" : Str) = some b → CellIn H b (.ref B)) (hT : SetsAt H t one two) (hs : Sets one two) (hB : H B = some (.lst (Ints bl))) (hj : BadAt one.length bl j) :
    Acts P w K mg base 6 H f (fun E _ => XOut H E T.X_BadTape.C "at" (.int (j : Nat))) := by
  obtain ⟨c, x, hf, hc, hx⟩ := hL
  refine acts_known (k := 5) (N := n_law) [("_law_sets_here", .ref t), ("_law_bad", .ref B)] hf hc (by decide +kernel)
    (by show freeIn (lamS lamL3) ["_law_sets_here", "_law_bad"] = true; decide +kernel) (List.forall_mem_cons.mpr ⟨k0, List.forall_mem_cons.mpr ⟨k1, fun _ z => nomatch z⟩⟩) (binds_one (F := lamOf lamL3 qLaw (cellsL n) c (.ref x)) (a := "_law_c") hx rfl (by show (lamS lamL3).names.lookup ("_law_c" : Str) = some .local; decide +kernel) fun _ _ _ => ⟨_, rfl, fun _ => rfl⟩) (fun A outer s cs E Q hr CA hq => ?_)
  · refine ⟨_,
(pe_callS (okn_p_cut T) (hr.mono (by decide)) (by rfl) T.g_p_cut T.F_p_cut.kp T.b_p_cut (fun σ => L2N.passAt (L2N.takes_of rfl rfl rfl rfl) σ) (pa_cons (pv 10) (pa_cons (pv 7) (pa_cons (pe_un un_neg pe_int) pa_nil)))), ?_⟩
    exact ⟨_, rfl, _, rfl, _, rfl, t, B, one, two, bl, _, rfl, sets_hide CA hT, hs, hide_at CA hB lst_ncell, .inl ⟨j, hj, hq.hide CA⟩⟩

abbrev lamL4 : Expr := eArg 0 (eVal ((defBody s_law).getD 10 (.Pass ⟨0, 0, 0, 0⟩)))
theorem act_L4 (T : Txt K mg) {H : Hp} {f t a B : Addr} {n j : Nat} {one two tn tx : List Nat} {tp bl : List Int} {st m : Int} (hL : Live1 H qLaw (cellsL n) f lamL4)
    (k0 : ∀ b, (cellsL n).lookup ("_law_sets_here" : Str) = some b → CellIn H b (.ref t)) (k1 : ∀ b, (cellsL n).lookup ("_law_bad" : Str) = some b → CellIn H b (.ref B)) (hT : SetsAt H t one two) (hs : Sets one two) (hB : H B = some (.lst (Ints bl))) (hj : BadAt one.length bl j) :
    Acts P w K mg base 6 H f (fun E _ => XOut H E T.X_BadTape.C "at" (.int (j : Nat))) := by
  obtain ⟨c, x, hf, hc, hx⟩ := hL
  refine acts_known (k := 5) (N := n_law) [("_law_sets_here", .ref t), ("_law_bad", .ref B)] hf hc (by decide +kernel)
    (by show freeIn (lamS lamL4) ["_law_sets_here", "_law_bad"] = true; decide +kernel) (List.forall_mem_cons.mpr ⟨k0, List.forall_mem_cons.mpr ⟨k1, fun _ z => nomatch z⟩⟩) (binds_one (F := lamOf lamL4 qLaw (cellsL n) c (.ref x)) (a := "_law_e") hx rfl (by show (lamS lamL4).names.lookup ("_law_e" : Str) = some .local; decide +kernel) fun _ _ _ => ⟨_, rfl, fun _ => rfl⟩) (fun A outer s cs E Q hr CA hq => ?_)
  · refine ⟨_,
(pe_callS (okn_p_written T) (hr.mono (by decide)) (by rfl) T.g_p_written T.F_p_written.kp T.b_p_written (fun σ => L2N.passAt (L2N.takes_of rfl rfl rfl rfl) σ) (pa_cons (pv 10) (pa_cons (pv 7) pa_nil))), ?_⟩
    exact ⟨_, rfl, _, rfl, t, B, one, two, bl, j, rfl, sets_hide CA hT, hs, hide_at CA hB lst_ncell, hj, hq.hide CA⟩

abbrev lamL5 : Expr := eItem 0 (eVal ((defBody s_law).getD 16 (.Pass ⟨0, 0, 0, 0⟩)))
theorem act_L5 (T : Txt K mg) {H : Hp} {f t a B : Addr} {n j : Nat} {one two tn tx : List Nat} {tp bl : List Int} {st m : Int} (hL : Live0 H qLaw (cellsL n) f lamL5)
    (k0 : ∀ b, (cellsL n).lookup ("_law_sets_here" : Str) = some b → CellIn H b (.ref t)) (k1 : ∀ b, (cellsL n).lookup ("_law_none" : Str) = some b → CellIn H b (.str (S tn))) (k2 : ∀ b, (cellsL n).lookup ("_law_state" : Str) = some b → CellIn H b (.int st)) (hT : SetsAt H t one two) (hs : Sets one two) (hl : tn.length ≤ 1000) (hj : BadTx one two tn j) :
    Acts P w K mg base 6 H f (fun E _ => XOut H E T.X_NoSign.C "at" (.int (j : Nat))) := by
  obtain ⟨c, hf, hc⟩ := hL
  refine acts_known (k := 5) (N := n_law) [("_law_sets_here", .ref t), ("_law_none", .str (S tn)), ("_law_state", .int st)] hf hc (by decide +kernel)
    (by show freeIn (lamS lamL5) ["_law_sets_here", "_law_none", "_law_state"] = true; decide +kernel) (List.forall_mem_cons.mpr ⟨k0, List.forall_mem_cons.mpr ⟨k1, List.forall_mem_cons.mpr ⟨k2, fun _ z => nomatch z⟩⟩⟩) (binds_none (F := lamOf lamL5 qLaw (cellsL n) c .none) fun _ _ _ => rfl) (fun A outer s cs E Q hr CA hq => ?_)
  · refine ⟨_,
(pe_callS (okn_p_least T) (hr.mono (by decide)) (by rfl) T.g_p_least T.F_p_least.kp T.b_p_least (fun σ => L2N.passAt (L2N.takes_of rfl rfl rfl rfl) σ) (pa_cons (pv 10) (pa_cons (pv 9) (pa_cons (pv 11) pa_nil)))), ?_⟩
    exact ⟨_, rfl, _, rfl, _, rfl, t, one, two, tn, st, rfl, sets_hide CA hT, hs, hl, .inl ⟨j, hj, hq.hide CA⟩⟩

abbrev lamL6 : Expr := eItem 1 (eVal ((defBody s_law).getD 16 (.Pass ⟨0, 0, 0, 0⟩)))
theorem act_L6 (T : Txt K mg) {H : Hp} {f t a B : Addr} {n j : Nat} {one two tn tx : List Nat} {tp bl : List Int} {st m : Int} (hL : Live1 H qLaw (cellsL n) f lamL6)
    (k0 : ∀ b, (cellsL n).lookup ("_law_sets_here" : Str) = some b → CellIn H b (.ref t)) (k1 : ∀ b, (cellsL n).lookup ("_law_none" : Str) = some b → CellIn H b (.str (S tn))) (k2 : ∀ b, (cellsL n).lookup ("_law_state" : Str) = some b → CellIn H b (.int st)) (hT : SetsAt H t one two) (hs : Sets one two) (hl : tn.length ≤ 1000) (hj : BadTx one two tn j) :
    Acts P w K mg base 6 H f (fun E _ => XOut H E T.X_NoSign.C "at" (.int (j : Nat))) := by
  obtain ⟨c, x, hf, hc, hx⟩ := hL
  refine acts_known (k := 5) (N := n_law) [("_law_sets_here", .ref t), ("_law_none", .str (S tn)), ("_law_state", .int st)] hf hc (by decide +kernel)
    (by show freeIn (lamS lamL6) ["_law_sets_here", "_law_none", "_law_state"] = true; decide +kernel) (List.forall_mem_cons.mpr ⟨k0, List.forall_mem_cons.mpr ⟨k1, List.forall_mem_cons.mpr ⟨k2, fun _ z => nomatch z⟩⟩⟩) (binds_one (F := lamOf lamL6 qLaw (cellsL n) c (.ref x)) (a := "_law_a") hx rfl (by show (lamS lamL6).names.lookup ("_law_a" : Str) = some .local; decide +kernel) fun _ _ _ => ⟨_, rfl, fun _ => rfl⟩) (fun A outer s cs E Q hr CA hq => ?_)
  · refine ⟨_,
(pe_callS (okn_p_guarded T) (hr.mono (by decide)) (by rfl) T.g_p_guarded T.F_p_guarded.kp T.b_p_guarded (fun σ => L2N.passAt (L2N.takes_of rfl rfl rfl rfl) σ) (pa_cons (pv 10) (pa_cons (pv 9) (pa_cons (pv 11) (pa_cons (pe_un un_neg pe_int) pa_nil))))), ?_⟩
    exact ⟨_, rfl, _, rfl, _, rfl, _, rfl, t, one, two, tn, st, _, rfl, sets_hide CA hT, hs, hl, .inl ⟨j, hj, hq.hide CA⟩⟩

abbrev lamL7 : Expr := eItem 0 (eRight (eVal ((defBody s_law).getD 19 (.Pass ⟨0, 0, 0, 0⟩))))
theorem act_L7 (T : Txt K mg) {H : Hp} {f t a B : Addr} {n j : Nat} {one two tn tx : List Nat} {tp bl : List Int} {st m : Int} (hL : Live0 H qLaw (cellsL n) f lamL7)
    (k0 : ∀ b, (cellsL n).lookup ("_law_sets_here" : Str) = some b → CellIn H b (.ref t)) (k1 : ∀ b, (cellsL n).lookup ("_law_text_here" : Str) = some b → CellIn H b (.str (S tx))) (k2 : ∀ b, (cellsL n).lookup ("_law_state" : Str) = some b → CellIn H b (.int st)) (hT : SetsAt H t one two) (hs : Sets one two) (hl : tx.length ≤ 1000) (hj : Stands one two tx) (hb : ¬ Bit st) :
    Acts P w K mg base 6 H f (fun E _ => NOut H E T.X_BadNumber.C) := by
  obtain ⟨c, hf, hc⟩ := hL
  refine acts_known (k := 5) (N := n_law) [("_law_sets_here", .ref t), ("_law_text_here", .str (S tx)), ("_law_state", .int st)] hf hc (by decide +kernel)
    (by show freeIn (lamS lamL7) ["_law_sets_here", "_law_text_here", "_law_state"] = true; decide +kernel) (List.forall_mem_cons.mpr ⟨k0, List.forall_mem_cons.mpr ⟨k1, List.forall_mem_cons.mpr ⟨k2, fun _ z => nomatch z⟩⟩⟩) (binds_none (F := lamOf lamL7 qLaw (cellsL n) c .none) fun _ _ _ => rfl) (fun A outer s cs E Q hr CA hq => ?_)
  · refine ⟨_,
(pe_callS (okn_p_least T) (hr.mono (by decide)) (by rfl) T.g_p_least T.F_p_least.kp T.b_p_least (fun σ => L2N.passAt (L2N.takes_of rfl rfl rfl rfl) σ) (pa_cons (pv 10) (pa_cons (pv 13) (pa_cons (pv 11) pa_nil)))), ?_⟩
    exact ⟨_, rfl, _, rfl, _, rfl, t, one, two, tx, st, rfl, sets_hide CA hT, hs, hl, .inr ⟨hj, hb, hq.hide⟩⟩

abbrev lamL8 : Expr := eArg 0 (eVal ((defBody s_law).getD 20 (.Pass ⟨0, 0, 0, 0⟩)))
theorem act_L8 (T : Txt K mg) {H : Hp} {f t a B : Addr} {n j : Nat} {one two tn tx : List Nat} {tp bl : List Int} {st m : Int} (hL : Live1 H qLaw (cellsL n) f lamL8)
    (k0 : ∀ b, (cellsL n).lookup ("_law_sets_here" : Str) = some b → CellIn H b (.ref t)) (k1 : ∀ b, (cellsL n).lookup ("_law_text_here" : Str) = some b → CellIn H b (.str (S tx))) (k2 : ∀ b, (cellsL n).lookup ("_law_state" : Str) = some b → CellIn H b (.int st)) (hT : SetsAt H t one two) (hs : Sets one two) (hl : tx.length ≤ 1000) (hj : Stands one two tx) (hb : ¬ Bit st) :
    Acts P w K mg base 6 H f (fun E _ => NOut H E T.X_BadNumber.C) := by
  obtain ⟨c, x, hf, hc, hx⟩ := hL
  refine acts_known (k := 5) (N := n_law) [("_law_sets_here", .ref t), ("_law_text_here", .str (S tx)), ("_law_state", .int st)] hf hc (by decide +kernel)
    (by show freeIn (lamS lamL8) ["_law_sets_here", "_law_text_here", "_law_state"] = true; decide +kernel) (List.forall_mem_cons.mpr ⟨k0, List.forall_mem_cons.mpr ⟨k1, List.forall_mem_cons.mpr ⟨k2, fun _ z => nomatch z⟩⟩⟩) (binds_one (F := lamOf lamL8 qLaw (cellsL n) c (.ref x)) (a := "_law_a") hx rfl (by show (lamS lamL8).names.lookup ("_law_a" : Str) = some .local; decide +kernel) fun _ _ _ => ⟨_, rfl, fun _ => rfl⟩) (fun A outer s cs E Q hr CA hq => ?_)
  · refine ⟨_,
(pe_callS (okn_p_guarded T) (hr.mono (by decide)) (by rfl) T.g_p_guarded T.F_p_guarded.kp T.b_p_guarded (fun σ => L2N.passAt (L2N.takes_of rfl rfl rfl rfl) σ) (pa_cons (pv 10) (pa_cons (pv 13) (pa_cons (pv 11) (pa_cons pe_int pa_nil))))), ?_⟩
    exact ⟨_, rfl, _, rfl, _, rfl, t, one, two, tx, st, 3, rfl, sets_hide CA hT, hs, hl, .inr ⟨hj, .inl hb, hq.hide⟩⟩

abbrev lamL9 : Expr := eItem 0 (eRight (eVal ((defBody s_law).getD 21 (.Pass ⟨0, 0, 0, 0⟩))))
theorem act_L9 (T : Txt K mg) {H : Hp} {f t a B : Addr} {n j : Nat} {one two tn tx : List Nat} {tp bl : List Int} {st m : Int} (hL : Live1 H qLaw (cellsL n) f lamL9)
    (k0 : ∀ b, (cellsL n).lookup ("_law_sets_here" : Str) = some b → CellIn H b (.ref t)) (k1 : ∀ b, (cellsL n).lookup ("_law_text_here" : Str) = some b → CellIn H b (.str (S tx))) (k2 : ∀ b, (cellsL n).lookup ("_law_most" : Str) = some b → CellIn H b (.int m)) (hT : SetsAt H t one two) (hs : Sets one two) (hl : tx.length ≤ 1000) (hj : Stands one two tx) (hm : ¬ (0 ≤ m ∧ m ≤ 20)) :
    Acts P w K mg base 6 H f (fun E _ => NOut H E T.X_BadNumber.C) := by
  obtain ⟨c, x, hf, hc, hx⟩ := hL
  refine acts_known (k := 5) (N := n_law) [("_law_sets_here", .ref t), ("_law_text_here", .str (S tx)), ("_law_most", .int m)] hf hc (by decide +kernel)
    (by show freeIn (lamS lamL9) ["_law_sets_here", "_law_text_here", "_law_most"] = true; decide +kernel) (List.forall_mem_cons.mpr ⟨k0, List.forall_mem_cons.mpr ⟨k1, List.forall_mem_cons.mpr ⟨k2, fun _ z => nomatch z⟩⟩⟩) (binds_one (F := lamOf lamL9 qLaw (cellsL n) c (.ref x)) (a := "_law_b") hx rfl (by show (lamS lamL9).names.lookup ("_law_b" : Str) = some .local; decide +kernel) fun _ _ _ => ⟨_, rfl, fun _ => rfl⟩) (fun A outer s cs E Q hr CA hq => ?_)
  · refine ⟨_,
(pe_callS (okn_p_guarded T) (hr.mono (by decide)) (by rfl) T.g_p_guarded T.F_p_guarded.kp T.b_p_guarded (fun σ => L2N.passAt (L2N.takes_of rfl rfl rfl rfl) σ) (pa_cons (pv 10) (pa_cons (pv 13) (pa_cons pe_int (pa_cons (pv 8) pa_nil))))), ?_⟩
    exact ⟨_, rfl, _, rfl, _, rfl, t, one, two, tx, 1, m, rfl, sets_hide CA hT, hs, hl, .inr ⟨hj, .inr ⟨Or.inr rfl, hm⟩, hq.hide⟩⟩

abbrev lamL10 : Expr := eItem 1 (eRight (eVal ((defBody s_law).getD 21 (.Pass ⟨0, 0, 0, 0⟩))))
theorem act_L10 (T : Txt K mg) {H : Hp} {f t a B : Addr} {n j : Nat} {one two tn tx : List Nat} {tp bl : List Int} {st m : Int} (hL : Live1 H qLaw (cellsL n) f lamL10)
    (k0 : ∀ b, (cellsL n).lookup ("_law_sets_here" : Str) = some b → CellIn H b (.ref t)) (k1 : ∀ b, (cellsL n).lookup ("_law_tape_here" : Str) = some b → CellIn H b (.ref a)) (hT : SetsAt H t one two) (hs : Sets one two) (hA : H a = some (.lst (Ints tp))) (ht : Tape one.length tp) :
    Acts P w K mg base 6 H f (fun E _ => NOut H E T.X_BadNumber.C) := by
  obtain ⟨c, x, hf, hc, hx⟩ := hL
  refine acts_known (k := 5) (N := n_law) [("_law_sets_here", .ref t), ("_law_tape_here", .ref a)] hf hc (by decide +kernel)
    (by show freeIn (lamS lamL10) ["_law_sets_here", "_law_tape_here"] = true; decide +kernel) (List.forall_mem_cons.mpr ⟨k0, List.forall_mem_cons.mpr ⟨k1, fun _ z => nomatch z⟩⟩) (binds_one (F := lamOf lamL10 qLaw (cellsL n) c (.ref x)) (a := "_law_c") hx rfl (by show (lamS lamL10).names.lookup ("_law_c" : Str) = some .local; decide +kernel) fun _ _ _ => ⟨_, rfl, fun _ => rfl⟩) (fun A outer s cs E Q hr CA hq => ?_)
  · refine ⟨_,
(pe_callS (okn_p_cut T) (hr.mono (by decide)) (by rfl) T.g_p_cut T.F_p_cut.kp T.b_p_cut (fun σ => L2N.passAt (L2N.takes_of rfl rfl rfl rfl) σ) (pa_cons (pv 10) (pa_cons (pv 12) (pa_cons (pe_op op_add (pe_callB call_len_seq (by rfl) T.m_len PySem.boot_len (pa_cons (pv 12) pa_nil)) pe_int) pa_nil)))), ?_⟩
    exact ⟨_, rfl, _, rfl, _, rfl, a, _, rfl, .inl (SqL.of (hide_at CA hA lst_ncell)), _, _, rfl, rfl, t, a, one, two, tp, _, rfl, sets_hide CA hT, hs, hide_at CA hA lst_ncell, .inr ⟨ht, fun z => by have z2 := z.2; rw [List.length_map] at z2; omega, hq.hide⟩⟩

abbrev lamL11 : Expr := eArg 0 (eVal ((defBody s_law).getD 22 (.Pass ⟨0, 0, 0, 0⟩)))
theorem act_L11 (T : Txt K mg) {H : Hp} {f t a B : Addr} {n j : Nat} {one two tn tx : List Nat} {tp bl : List Int} {st m : Int} (hL : Live1 H qLaw (cellsL n) f lamL11)
    (k0 : ∀ b, (cellsL n).lookup ("_law_sets_here" : Str) = some b → CellIn H b (.ref t)) (k1 : ∀ b, (cellsL n).lookup ("_law_tape_here" : Str) = some b → CellIn H b (.ref a)) (hT : SetsAt H t one two) (hs : Sets one two) (hA : H a = some (.lst (Ints tp))) (ht : Tape one.length tp) :
    Acts P w K mg base 6 H f (fun E _ => NOut H E T.X_BadNumber.C) := by
  obtain ⟨c, x, hf, hc, hx⟩ := hL
  refine acts_known (k := 5) (N := n_law) [("_law_sets_here", .ref t), ("_law_tape_here", .ref a)] hf hc (by decide +kernel)
    (by show freeIn (lamS lamL11) ["_law_sets_here", "_law_tape_here"] = true; decide +kernel) (List.forall_mem_cons.mpr ⟨k0, List.forall_mem_cons.mpr ⟨k1, fun _ z => nomatch z⟩⟩) (binds_one (F := lamOf lamL11 qLaw (cellsL n) c (.ref x)) (a := "_law_f") hx rfl (by show (lamS lamL11).names.lookup ("_law_f" : Str) = some .local; decide +kernel) fun _ _ _ => ⟨_, rfl, fun _ => rfl⟩) (fun A outer s cs E Q hr CA hq => ?_)
  · refine ⟨_,
(pe_callS (okn_p_cut T) (hr.mono (by decide)) (by rfl) T.g_p_cut T.F_p_cut.kp T.b_p_cut (fun σ => L2N.passAt (L2N.takes_of rfl rfl rfl rfl) σ) (pa_cons (pv 10) (pa_cons (pv 12) (pa_cons (pe_un un_neg pe_int) pa_nil)))), ?_⟩
    exact ⟨_, rfl, _, rfl, _, rfl, t, a, one, two, tp, _, rfl, sets_hide CA hT, hs, hide_at CA hA lst_ncell, .inr ⟨ht, fun z => by have z1 := z.1; omega, hq.hide⟩⟩


def spCommon : Sp := fun vs H Q _ => ∃ (t : Addr) (one two : List Nat) (c : Int), vs = [.ref t, .int c] ∧ SetsAt H t one two ∧ Sets one two ∧ 0 ≤ c ∧ c < (one.length : Int) ∧ Q (.bl (comm one two c)) H
theorem ok_p_is_common (T : Txt K mg) : FnOk P w K mg base CX0 1 T.a_p_is_common T.d_p_is_common ["sets", "code"] spCommon := by
  refine T.F_p_is_common.ok sc_p_is_common (fun vs H Q E h => ?_) (fun cdv A outer s H vs Q E hr h => ?_)
  · obtain ⟨t, one, two, c, rfl, _⟩ := h
    rfl
  · obtain ⟨t, one, two, c, rfl, hT, hs, h0, h1, q⟩ := h
    have htp := hs.top
    have h2 := hs.same
    refine ⟨_,
    (pss_one (ps_ret (pe_cmpR op_eq (pe_ix ix_str (pe_ix ix_tup (pv 0) pe_int (fun _ _ => rfl)) (pv 1) (fun _ _ => rfl)) (pe_ix ix_str (pe_ix ix_tup (pv 0) pe_int (fun _ _ => rfl)) (pv 1) (fun _ _ => rfl)) (nomark _)))), ?_⟩
    refine ⟨_, rfl, t, _, 0, _, rfl, rfl, SqT.of hT, atI_nat (j := 0) rfl, _, rfl, _, _, _, rfl, rfl, small_le (by rw [S_len]; omega), at_sign h0 h1, ?_⟩
    refine ⟨_, rfl, t, _, 1, _, rfl, rfl, SqT.of hT, atI_nat (j := 1) rfl, _, rfl, _, _, _, rfl, rfl, small_le (by rw [S_len]; omega), at_sign h0 (by omega), ?_⟩
    refine ⟨rfl, ?_⟩
    rw [dec_sg]
    exact q

theorem code_of {one two : List Nat} {st : Int} (hb : Bit st) (s : Nat) : Txt.find (S (if st = 0 then one else two)) (S [s]) = cdS one two st s := by
  rw [find_sign]
  rfl
def spStep : Sp := fun vs H Q _ => ∃ (t : Addr) (one two : List Nat) (s : Nat) (st left : Int), vs = [.ref t, sg s, .int st, .int left] ∧ SetsAt H t one two ∧ Sets one two ∧ Bit st ∧
  (sst one two st left s = none → Q .non H) ∧ ∀ c l, sst one two st left s = some (c, l) → ∀ H' p, Same H H' → H p = none → H' p = some (.tup [.int c, .int l]) → Q (.ref p) H'
theorem ok_p_sign_step (T : Txt K mg) : FnOk P w K mg base CX0 2 T.a_p_sign_step T.d_p_sign_step ["sets", "sign", "state", "left"] spStep := by
  refine T.F_p_sign_step.ok sc_p_sign_step (fun vs H Q E h => ?_) (fun cdv A outer s H vs Q E hr h => ?_)
  · obtain ⟨t, one, two, s, st, left, rfl, _⟩ := h
    rfl
  · obtain ⟨t, one, two, s, st, left, rfl, hT, hs, hb, q1, q2⟩ := h
    have htp := hs.top
    refine ⟨_,
    (pss_cons (ps_set (i := 4) sc_p_sign_step.nd rfl (Or.inl rfl) (pe_m1 PySem.F.slot_str_find PySem.F.type_str_find mt_find (pe_ix ix_tup (pv 0) (pv 2) (fun _ _ => rfl)) (pv 1))) 
    (pss_cons (ps_if (pt_cmpR op_lt (pv 4) pe_int (nomark _)) 
      (pss_one (ps_ret pe_non)) pss_nil) 
    (pss_cons (ps_if (PW.pt (pw_or (pt_cmpR op_eq (pv 3) (pe_glob (v := .int (-1)) (by rfl) T.c_FREE ⟨_, rfl⟩) (nomark _)) (pw_or1 (pt_val (pe_call (ok_p_is_common T) (hr.mono (by decide)) (by rfl) T.g_p_is_common T.F_p_is_common.kp T.b_p_is_common .nil pass0 (pa_cons (pv 0) (pa_cons (pv 4) pa_nil))))))) 
      (pss_one (ps_ret (pe_tup (pa_cons (pv 4) (pa_cons (pv 3) pa_nil))))) pss_nil) 
    (pss_cons (ps_if (pt_cmpR op_eq (pv 3) pe_int (nomark _)) 
      (pss_one (ps_ret pe_non)) pss_nil) 
    (pss_one (ps_ret (pe_tup (pa_cons (pv 4) (pa_cons (pe_op op_sub (pv 3) pe_int) pa_nil))))))))), ?_⟩
    refine ⟨_, rfl, _, rfl, t, _, st, _, rfl, rfl, SqT.of hT, at_sets hb, ⟨_, rfl⟩, _, rfl, _, _, rfl, rfl, ?_⟩
    rw [code_of hb]
    refine ⟨_, rfl, _, _, rfl, rfl, _, rfl, ite2 (fun h => ?_) (fun h => ?_)⟩
    · have h' : cdS one two st s < 0 := of_decide_eq_true h
      refine q1 ?_
      unfold sst
      rw [if_pos h']
    · have h' : ¬ cdS one two st s < 0 := of_decide_eq_false (by simpa using h)
      obtain ⟨h0, h1, _⟩ := cdS_range hs h'
      unfold sst at q1 q2
      rw [if_neg h'] at q1 q2
      have fin : ∀ l, (∀ H' p, Same H H' → H p = none → H' p = some (.tup [.int (cdS one two st s), .int l]) → Q (.ref p) H') → ∀ p, H p = none → Q (.ref p) (upd H p (.tup [.int (cdS one two st s), .int l])) := fun l q p hp => q _ p (Same.new hp) hp upd_same
      refine ⟨_, rfl, rfl, _, rfl, ?_⟩
      rw [dec_int]
      by_cases e : left = -1
      · rw [if_pos (.inl e)] at q2
        rw [decide_eq_true e]
        refine iteT ⟨_, rfl, _, rfl, (by show 2 ≤ sizeLine; decide), fin _ (q2 _ _ rfl)⟩
      · rw [decide_eq_false e]
        refine iteF ⟨_, rfl, _, rfl, t, one, two, _, rfl, hT, hs, h0, h1, _, rfl, ?_⟩
        by_cases hk : comm one two (cdS one two st s) = true
        · rw [if_pos (.inr hk)] at q2
          rw [hk]
          refine iteT ⟨_, rfl, _, rfl, (by show 2 ≤ sizeLine; decide), fin _ (q2 _ _ rfl)⟩
        · have hk' : comm one two (cdS one two st s) = false := by simpa using hk
          rw [if_neg (by simp [e, hk'])] at q1 q2
          rw [hk']
          refine iteF ⟨_, rfl, rfl, _, rfl, ?_⟩
          rw [dec_int]
          by_cases hz : left = 0
          · rw [if_pos hz] at q1
            rw [decide_eq_true hz]
            exact iteT (q1 rfl)
          · rw [if_neg hz] at q2
            rw [decide_eq_false hz]
            refine iteF ⟨_, rfl, _, rfl, _, _, rfl, rfl, (by show 2 ≤ sizeLine; decide), fin _ (q2 _ _ rfl)⟩

/-- lists of rows of four numbers, each in a tuple of its own -/
abbrev Row4 := Int × Int × Int × Int
def x4 (x : Row4) : List V := [.int x.1, .int x.2.1, .int x.2.2.1, .int x.2.2.2]
structure FoundAt (H : Hp) (o : Addr) (ps : List Addr) (L : List Row4) : Prop where
  lst : H o = some (.lst (ps.map V.ref))
  len : ps.length = L.length
  at' : ∀ (i : Nat) (a : Addr), ps[i]? = some a → ∃ x, L[i]? = some x ∧ H a = some (.tup (x4 x))
theorem FoundAt.same {H H' : Hp} {o : Addr} {ps : List Addr} {L : List Row4} (h : FoundAt H o ps L) (s : Same H H') : FoundAt H' o ps L :=
  ⟨s _ _ h.lst, h.len, fun i a e => let ⟨x, h1, h2⟩ := h.at' i a e; ⟨x, h1, s _ _ h2⟩⟩
theorem FoundAt.put {H : Hp} {o a : Addr} {ps : List Addr} {L : List Row4} {x : Row4} (h : FoundAt H o ps L) (ha : H a = some (.tup (x4 x))) : FoundAt (upd H o (.lst (ps.map V.ref ++ [.ref a]))) o (ps ++ [a]) (L ++ [x]) := by
  have ne : ∀ b y, H b = some (.tup (x4 y)) → b ≠ o := fun b y e z => by rw [z, h.lst] at e; cases e
  refine ⟨by rw [upd_same, List.map_append]; rfl, by simp [h.len], fun i b e => ?_⟩
  by_cases hi : i < ps.length
  · rw [List.getElem?_append_left hi] at e
    obtain ⟨y, h1, h2⟩ := h.at' i b e
    refine ⟨y, by rw [List.getElem?_append_left (by rw [← h.len]; exact hi)]; exact h1, ?_⟩
    rw [upd_ne (ne b y h2)]
    exact h2
  · rw [List.getElem?_append_right (by omega)] at e
    have hj : i - ps.length = 0 := by
      cases hk : i - ps.length with
      | zero => rfl
      | succ k => rw [hk] at e; simp at e
    rw [hj] at e
    cases e
    refine ⟨x, ?_, ?_⟩
    · rw [List.getElem?_append_right (by rw [← h.len]; omega), ← h.len, hj]
      rfl
    · rw [upd_ne (ne _ x ha)]
      exact ha
def signL (one two : List Nat) (s : Nat) (st left : Int) : List Row4 := match sst one two st left s with | none => [] | some (c, l) => [(c, 1, st, l)]
def shiftL (one : List Nat) (st most : Int) : List Row4 := [((one.length : Int) + 0, 0, 0, kept most st 0), ((one.length : Int) + 1, 0, 1, kept most st 1)]
def stepL (one two : List Nat) (s : Nat) (st left most : Int) : List Row4 := signL one two s st left ++ shiftL one st most
theorem shift_at (one : List Nat) (st most : Int) {i : Nat} {x : V} (h : [V.int 0, V.int 1][i]? = some x) : ∃ k : Int, x = .int k ∧ Bit k ∧ (shiftL one st most)[i]? = some ((one.length : Int) + k, 0, k, kept most st k) := by
  match i, h with
  | 0, h => cases h; exact ⟨0, rfl, .inl rfl, rfl⟩
  | 1, h => cases h; exact ⟨1, rfl, .inr rfl, rfl⟩
def spSteps : Sp := fun vs H Q _ => ∃ (t : Addr) (one two : List Nat) (s : Nat) (st left most : Int), vs = [.ref t, sg s, .int st, .int left, .int most] ∧ SetsAt H t one two ∧ Sets one two ∧ Bit st ∧
  ∀ H' p ps, Same H H' → H p = none → FoundAt H' p ps (stepL one two s st left most) → Q (.ref p) H'
theorem ok_p_steps (T : Txt K mg) : FnOk P w K mg base CX0 3 T.a_p_steps T.d_p_steps ["sets", "sign", "state", "left", "most"] spSteps := by
  refine T.F_p_steps.ok sc_p_steps (fun vs H Q E h => ?_) (fun cdv A outer s H vs Q E hr h => ?_)
  · obtain ⟨t, one, two, s, st, left, most, rfl, _⟩ := h
    rfl
  · obtain ⟨t, one, two, s, st, left, most, rfl, hT, hs, hb, q⟩ := h
    have htp := hs.top
    refine ⟨_,
    (pss_cons (ps_set (i := 5) sc_p_steps.nd rfl (Or.inl rfl) (pe_callB call_len_str (by rfl) T.m_len PySem.boot_len (pa_cons (pe_ix ix_tup (pv 0) pe_int (fun _ _ => rfl)) pa_nil))) 
    (pss_cons (ps_set (i := 6) sc_p_steps.nd rfl (Or.inl rfl) (pe_lst pa_nil)) 
    (pss_cons (ps_set (i := 7) sc_p_steps.nd rfl (Or.inl rfl) (pe_call (ok_p_sign_step T) (hr.mono (by decide)) (by rfl) T.g_p_sign_step T.F_p_sign_step.kp T.b_p_sign_step .nil pass0 (pa_cons (pv 0) (pa_cons (pv 1) (pa_cons (pv 2) (pa_cons (pv 3) pa_nil)))))) 
    (C8.pss_cut (ps_if (pt_cmpR op_notN (pv 7) pe_non (nomark _)) 
      (pss_cons (ps_asg (pv 7) (pg_tup rfl (pgs_cons (pg_name (i := 8) sc_p_steps.nd rfl (Or.inl rfl)) (pgs_cons (pg_name (i := 9) sc_p_steps.nd rfl (Or.inl rfl)) pgs_nil)))) 
      (pss_one (ps_expr (pe_bm PySem.F.plainAttrs_list PySem.F.slot_list_append PySem.F.type_list_append mt_append (pv 6) (pa_cons (pe_tup (pa_cons (pv 8) (pa_cons pe_int (pa_cons (pv 2) (pa_cons (pv 9) pa_nil))))) pa_nil))))) pss_nil) 
    (pss_cons (ps_for PassesOwn.never rfl (pi_tup (pe_tup (pa_cons pe_int (pa_cons pe_int pa_nil)))) (pg_name (i := 10) sc_p_steps.nd rfl (Or.inl rfl)) 
      (pss_cons (ps_set (i := 9) sc_p_steps.nd rfl (Or.inl rfl) (pe_cut (pe_ifExp (pt_cmpR op_eq (pv 10) (pv 2) (nomark _)) (pe_glob (v := .int (-1)) (by rfl) T.c_FREE ⟨_, rfl⟩) (pv 4)))) 
      (pss_one (ps_expr (pe_bm PySem.F.plainAttrs_list PySem.F.slot_list_append PySem.F.type_list_append mt_append (pv 6) (pa_cons (pe_tup (pa_cons (pe_op op_add (pv 5) (pv 10)) (pa_cons pe_int (pa_cons (pv 10) (pa_cons (pv 9) pa_nil))))) pa_nil)))))) 
    (pss_one (ps_ret (pv 6)))))))), ?_⟩
    refine ⟨_, rfl, t, _, 0, _, rfl, rfl, SqT.of hT, atI_nat (j := 0) rfl, _, rfl, small_le (by rw [S_len]; omega), Nat.zero_le _, fun o ho => ?_⟩
    have hoN := ho
    have f0 : FoundAt (upd H o (.lst [])) o [] [] := ⟨upd_same, rfl, fun i a e => by simp at e⟩
    have s0 : Same H (upd H o (.lst [])) := Same.new ho
    generalize upd H o (.lst []) = H1 at f0 s0 ⊢
    have hlen : (signL one two s st left).length ≤ 1 := by
      unfold signL
      split <;> simp
    refine ⟨_, rfl, _, rfl, _, rfl, _, rfl, t, one, two, s, st, left, rfl, s0 _ _ hT, hs, hb, fun hn => ?_, fun c l hc H2 p s1 hp ep => ?_⟩
    all_goals refine ⟨fun σ' H'' => ∃ y7 y8 y9, σ' = [some (.ref t), some (sg s), some (.int st), some (.int left), some (.int most), some (.int (S one).length), some (.ref o), y7, y8, y9, none] ∧ Same H H'' ∧ ∃ ps, FoundAt H'' o ps (signL one two s st left), ?_, ?_⟩
    · refine ⟨_, rfl, rfl, _, rfl, ?_⟩
      refine iteF ⟨_, _, _, rfl, s0, [], ?_⟩
      unfold signL
      rw [hn]
      exact f0
    rotate_left
    · refine ⟨_, rfl, rfl, _, rfl, ?_⟩
      refine iteT ⟨_, rfl, p, _, rfl, SqT.of ep, rfl, _, _, rfl, _, _, rfl, rfl, ?_⟩
      have f2 := f0.same s1
      refine ⟨_, rfl, .inl ⟨rfl, _, SqL.of f2.lst⟩, _, rfl, _, rfl, _, rfl, (by show 4 ≤ sizeLine; decide), fun u hu => ?_⟩
      have su := Same.new (o := .tup [.int c, .int 1, .int st, .int l]) hu
      have f3 := f2.same su
      have eu : (upd H2 u (.tup [.int c, .int 1, .int st, .int l])) u = some (.tup (x4 (c, 1, st, l))) := upd_same
      refine ⟨o, _, _, rfl, rfl, f3.lst, small_le (by simp), _, _, _, rfl, Same.mut ((s0.trans s1).trans su) hoN, [u], ?_⟩
      unfold signL
      rw [hc]
      exact f3.put eu
    all_goals
      rintro σ' H'' ⟨y7, y8, y9, rfl, s5, ps, f5⟩
      refine ⟨(by show 2 ≤ sizeLine; decide), fun z hz => ?_⟩
      have sz := Same.new (o := .tup [.int 0, .int 1]) hz
      have f6 := f5.same sz
      have s6 := s5.trans sz
      have ez : (upd H'' z (.tup [.int 0, .int 1])) z = some (.tup [.int 0, .int 1]) := upd_same
      have hzo : z ≠ o := fun e => by have h6 := f6.lst; rw [← e, ez] at h6; cases h6
      generalize upd H'' z (.tup [.int 0, .int 1]) = H7 at f6 s6 ez ⊢
      refine ⟨z, rfl, ⟨_, SqT.of ez⟩, for_tup (xs := [.int 0, .int 1]) (fun i σ H' => ∃ y7 y8 y9 y10, σ = [some (.ref t), some (sg s), some (.int st), some (.int left), some (.int most), some (.int (S one).length), some (.ref o), y7, y8, y9, y10] ∧ Same H H' ∧ H' z = some (.tup [.int 0, .int 1]) ∧ ∃ ps, FoundAt H' o ps (signL one two s st left ++ (shiftL one st most).take i)) ⟨_, _, _, _, rfl, s6, ez, ps, by simpa using f6⟩ ?_ ?_ ?_⟩
      · rintro i σ H' _ ⟨_, _, _, _, rfl, _, e, _⟩
        exact SqT.of e
      · rintro i x σ H' hx ⟨y7, y8, y9, y10, rfl, sm, e, ps, f⟩
        obtain ⟨k, rfl, hk, hat⟩ := shift_at one st most hx
        have hi : i < 2 := (List.getElem?_eq_some_iff.mp hx).1
        refine ⟨fun v H'' => v = .int (kept most st k) ∧ H' = H'', ?_, ?_⟩
        · refine ⟨_, rfl, _, rfl, rfl, _, rfl, ?_⟩
          rw [dec_int]
          unfold kept
          by_cases hks : k = st
          · rw [if_pos hks, decide_eq_true hks]
            exact iteT ⟨rfl, rfl⟩
          · rw [if_neg hks, decide_eq_false hks]
            exact iteF ⟨_, rfl, rfl, rfl⟩
        · rintro v H'' ⟨rfl, rfl⟩
          refine ⟨_, rfl, .inl ⟨rfl, _, SqL.of f.lst⟩, _, rfl, _, rfl, _, _, rfl, rfl, _, rfl, _, rfl, (by show 4 ≤ sizeLine; decide), fun u hu => ?_⟩
          have su := Same.new (o := .tup [.int (((S one).length : Int) + k), .int 0, .int k, .int (kept most st k)]) hu
          have f3 := f.same su
          have eu : (upd H' u (.tup [.int (((S one).length : Int) + k), .int 0, .int k, .int (kept most st k)])) u = some (.tup (x4 ((one.length : Int) + k, 0, k, kept most st k))) := by
            rw [upd_same, S_len]
            rfl
          have hl3 := f3.len
          rw [List.length_append, List.length_take] at hl3
          refine ⟨o, _, _, rfl, rfl, f3.lst, small_le (by rw [List.length_map]; omega), _, _, _, _, rfl, Same.mut (sm.trans su) hoN, ?_, ps ++ [u], ?_⟩
          · rw [upd_ne hzo]
            exact su _ _ e
          · rw [take_snoc hat, ← List.append_assoc]
            exact f3.put eu
      · rintro σ H' ⟨y7, y8, y9, y10, rfl, sm, e, ps, f⟩
        exact ⟨_, rfl, q _ o ps sm hoN f⟩

/-- all of H but what stands at b -/
theorem Keep.back {b : Addr} {H H' : Hp} {u : HO} (k : Keep b H H') (e : H b = some u) : Same H (L2.upd H' b u) := fun x o h => by
  by_cases z : x = b
  · subst z
    rw [e] at h
    cases h
    exact upd_same
  · rw [upd_ne z]
    exact k x o z h
theorem dget_row {H : Hp} {a z : Addr} {F : Int → Int → Int} {ks : List (Int × Int)} {s l : Int} (e : Rd H a (.dT (rowOf F ks))) (ez : H z = some (.tup [.int s, .int l])) (h : (s, l) ∈ ks) : DGet H a (.ref z) (some (.int (F s l))) :=
  .inr ⟨_, key2 s l, z, e, rfl, ez, (val_row h).symm⟩
theorem put_next {H2 : Hp} {D z : Addr} {G : Int → Int → Int} {ks : List (Int × Int)} {i : Nat} {s l : Int} (hn : ks.Nodup) (hk : ks[i]? = some (s, l)) (hl : ks.length ≤ 900) (eD : H2 D = some (.dT (rowOf G (ks.take i)))) (hz : H2 z = none) :
    ∃ H4, DPut (upd H2 z (.tup [.int s, .int l])) D (.ref z) (.int (G s l)) H4 ∧ (∀ x o, x ≠ D → H2 x = some o → H4 x = some o) ∧ H4 D = some (.dT (rowOf G (ks.take (i + 1)))) := by
  have hDz : D ≠ z := ne_of_none eD hz
  have s1 : Same H2 (upd H2 z (.tup [.int s, .int l])) := Same.new hz
  have e1 := s1 _ _ eD
  have hlen : (rowOf G (ks.take i)).length < sizeLine := small1000 (by rw [len_row, List.length_take]; omega)
  refine ⟨_, DPut.t (k := key2 s l) e1 upd_same hlen, fun x o hx e => ?_, ?_⟩
  · rw [upd_ne hx]
    exact s1 _ _ e
  · rw [upd_same, put_row hn hk]
def aheadF (one two : List Nat) (most : Int) (F : Int → Int → Int) (s : Nat) (st left : Int) : Int := min4 (onc one two F s st left) (1 + onc one two F s st (-1)) (1 + onc one two F s (1 - st) most) (2 + onc one two F s (1 - st) (-1))
theorem Lf_ahead (one two : List Nat) (most : Int) (s : Nat) (ss : List Nat) : Lf one two most (s :: ss) = aheadF one two most (Lf one two most ss) s := rfl
def spAhead : Sp := fun vs H Q _ => ∃ (t b : Addr) (one two : List Nat) (s : Nat) (most : Int) (F : Int → Int → Int), vs = [.ref t, sg s, .ref b, .int most] ∧ SetsAt H t one two ∧ Sets one two ∧ -1 ≤ most ∧ most ≤ 400 ∧ H b = some (.dT (rowOf F (keysM most))) ∧
  ∀ H' p, Same H H' → H p = none → H' p = some (.dT (rowOf (aheadF one two most F s) (keysM most))) → Q (.ref p) H'
theorem ok_p_lengths_ahead (T : Txt K mg) : FnOk P w K mg base CX0 3 T.a_p_lengths_ahead T.d_p_lengths_ahead ["sets", "sign", "behind", "most"] spAhead := by
  refine T.F_p_lengths_ahead.ok sc_p_lengths_ahead (fun vs H Q E h => ?_) (fun cdv A outer s H vs Q E hr h => ?_)
  · obtain ⟨t, b, one, two, s, most, F, rfl, _⟩ := h
    rfl
  · obtain ⟨t, b, one, two, s, most, F, rfl, hT, hs, hm0, hm1, hB, q⟩ := h
    have hnd := nodup_keys most
    have hlk := len_keys hm0
    have hmem : ∀ {x y : Int}, (x, y) ∈ keysM most ↔ Bit x ∧ -1 ≤ y ∧ y ≤ most := mem_keys hm0
    have htb : t ≠ b := fun z => by rw [SetsAt, z, hB] at hT; cases hT
    refine ⟨_,
    (pss_cons (ps_set (i := 4) sc_p_lengths_ahead.nd rfl (Or.inl rfl) pe_dnewT) 
    (pss_cons (ps_lock (ps_for PassesOwn.never rfl (pi_keys (pv 2)) (pg_tup rfl (pgs_cons (pg_name (i := 5) sc_p_lengths_ahead.nd rfl (Or.inl rfl)) (pgs_cons (pg_name (i := 6) sc_p_lengths_ahead.nd rfl (Or.inl rfl)) pgs_nil))) 
      (pss_cons (ps_set (i := 7) sc_p_lengths_ahead.nd rfl (Or.inl rfl) (pe_call (ok_p_sign_step T) (hr.mono (by decide)) (by rfl) T.g_p_sign_step T.F_p_sign_step.kp T.b_p_sign_step .nil pass0 (pa_cons (pv 0) (pa_cons (pv 1) (pa_cons (pv 5) (pa_cons (pv 6) pa_nil)))))) 
      (pss_one (ps_dput (hu_of hr) (pv 4) (pe_tup (pa_cons (pv 5) (pa_cons (pv 6) pa_nil))) (pe_ifExp (pt_cmpR op_isN (pv 7) pe_non (nomark _)) (pe_glob (v := .int 1000000) (by rfl) T.c_NEVER ⟨_, rfl⟩) (pe_op op_add pe_int (pe_dget (hu_of hr) (pv 2) (pe_tup (pa_cons (pv 5) (pa_cons (pe_ix ix_tup (pv 7) pe_int (fun _ _ => rfl)) pa_nil))) (fun _ _ => rfl)))) rfl))))) 
    (pss_cons (ps_set (i := 8) sc_p_lengths_ahead.nd rfl (Or.inl rfl) pe_dnewT) 
    (pss_cons (ps_lock (ps_for PassesOwn.never rfl (pi_keys (pv 2)) (pg_tup rfl (pgs_cons (pg_name (i := 5) sc_p_lengths_ahead.nd rfl (Or.inl rfl)) (pgs_cons (pg_name (i := 6) sc_p_lengths_ahead.nd rfl (Or.inl rfl)) pgs_nil))) 
      (pss_cons (ps_set (i := 9) sc_p_lengths_ahead.nd rfl (Or.inl rfl) (pe_op op_sub pe_int (pv 5))) 
      (pss_one (ps_dput (hu_of hr) (pv 8) (pe_tup (pa_cons (pv 5) (pa_cons (pv 6) pa_nil))) (pe_callB (call_min4 rfl) (by rfl) T.m_min (by decide +kernel) (pa_cons (pe_dget (hu_of hr) (pv 4) (pe_tup (pa_cons (pv 5) (pa_cons (pv 6) pa_nil))) (fun _ _ => rfl)) (pa_cons (pe_op op_add pe_int (pe_dget (hu_of hr) (pv 4) (pe_tup (pa_cons (pv 5) (pa_cons (pe_glob (v := .int (-1)) (by rfl) T.c_FREE ⟨_, rfl⟩) pa_nil))) (fun _ _ => rfl))) (pa_cons (pe_op op_add pe_int (pe_dget (hu_of hr) (pv 4) (pe_tup (pa_cons (pv 9) (pa_cons (pv 3) pa_nil))) (fun _ _ => rfl))) (pa_cons (pe_op op_add pe_int (pe_dget (hu_of hr) (pv 4) (pe_tup (pa_cons (pv 9) (pa_cons (pe_glob (v := .int (-1)) (by rfl) T.c_FREE ⟨_, rfl⟩) pa_nil))) (fun _ _ => rfl))) pa_nil))))) rfl))))) 
    (pss_one (ps_ret (pv 8))))))), ?_⟩
    intro D hD
    have hbD : b ≠ D := ne_of_none hB hD
    have sD : Same H (upd H D (.dT [])) := Same.new hD
    have eD0 : (upd H D (.dT [])) D = some (.dT (rowOf (onc one two F s) ((keysM most).take 0))) := upd_same
    generalize upd H D (.dT []) = H1 at sD eD0 ⊢
    refine ⟨b, _, sD _ _ hB, trivial, fun od => ?_⟩
    refine ⟨_, rfl, b, od, rfl, .inr ⟨_, upd_same, for_it walk_keysT (fun i σ H' => ∃ y5 y6 y7, σ = [some (.ref t), some (sg s), some (.ref b), some (.int most), some (.ref D), y5, y6, y7, none, none] ∧ Keep b H H' ∧
      H' b = some (.frz od (.dT (rowOf F (keysM most)))) ∧ H' D = some (.dT (rowOf (onc one two F s) ((keysM most).take i)))) ⟨none, none, none, rfl, (Keep.same sD).trans Keep.upd, upd_same, by rw [upd_ne (Ne.symm hbD)]; exact eD0⟩ ?_ ?_ ?_⟩⟩
    · rintro i σ H' _ ⟨_, _, _, rfl, _, eb, _⟩
      exact eb
    · rintro i x σ H' _ hi ⟨y5, y6, y7, rfl, kp, eb, eD⟩ ⟨rfl, k, v, u, hk, rfl, eu⟩
      obtain ⟨st, left, hat, rfl, rfl⟩ := row_at hk
      have hks := List.mem_of_getElem? hat
      obtain ⟨hbit, hl0, hl1⟩ := hmem.mp hks
      refine ⟨u, [.int st, .int left], rfl, SqT.of eu, rfl, _, _, rfl, _, _, rfl, rfl, ?_⟩
      refine ⟨_, rfl, _, rfl, _, rfl, _, rfl, t, one, two, s, st, left, rfl, kp _ _ htb hT, hs, hbit, fun hnone => ?_, fun c l hc H3 p s3 hp ep => ?_⟩
      · refine ⟨_, rfl, rfl, _, rfl, iteT ⟨_, rfl, _, rfl, _, rfl, (by show 2 ≤ sizeLine; decide), fun z hz => ?_⟩⟩
        obtain ⟨H4, d, k4, e4⟩ := put_next (s := st) (l := left) hnd hat (by omega) eD hz
        rw [onc_none hnone] at d
        exact ⟨D, H4, rfl, d, _, _, _, rfl, fun x o hx e => k4 x o (fun z => by rw [z, hD] at e; cases e) (kp x o hx e), k4 _ _ hbD eb, e4⟩
      · refine ⟨_, rfl, rfl, _, rfl, iteF ⟨_, rfl, _, rfl, _, rfl, p, _, 1, _, rfl, rfl, SqT.of ep, atI_nat (j := 1) rfl, (by show 2 ≤ sizeLine; decide), fun z hz => ?_⟩⟩
        have sz := s3.trans (Same.new (o := .tup [.int st, .int l]) hz)
        have ez : (upd H3 z (.tup [.int st, .int l])) z = some (.tup [.int st, .int l]) := upd_same
        obtain ⟨hc0, hc1, hl2, hl3, _⟩ := sst_range hs hc ⟨hl0, hl1⟩
        generalize upd H3 z (.tup [.int st, .int l]) = H5 at sz ez ⊢
        refine ⟨b, _, rfl, dget_row (.inr ⟨_, sz _ _ eb⟩) ez (hmem.mpr ⟨hbit, hl2, hl3⟩), _, _, rfl, rfl, _, rfl, _, rfl, _, rfl, (by show 2 ≤ sizeLine; decide), fun z2 hz2 => ?_⟩
        obtain ⟨H4, d, k4, e4⟩ := put_next (s := st) (l := left) hnd hat (by omega) (sz _ _ eD) hz2
        rw [onc_some hc] at d
        exact ⟨D, H4, rfl, d, _, _, _, rfl, fun x o hx e => k4 x o (fun z => by rw [z, hD] at e; cases e) (sz x o (kp x o hx e)), k4 _ _ hbD (sz _ _ eb), e4⟩
    · rintro σ H' ⟨y5, y6, y7, rfl, kp, eb, eD⟩
      rw [len_row, List.take_of_length_le (Nat.le_refl _)] at eD
      refine ⟨eb, ?_⟩
      have sm := kp.back hB
      have eD2 : (upd H' b (.dT (rowOf F (keysM most)))) D = some (.dT (rowOf (onc one two F s) (keysM most))) := by
        rw [upd_ne (Ne.symm hbD)]
        exact eD
      generalize upd H' b (.dT (rowOf F (keysM most))) = H2 at sm eD2 ⊢
      intro D2 hD2
      have hbD2 : b ≠ D2 := ne_of_none (sm _ _ hB) hD2
      have hDD2 : D ≠ D2 := ne_of_none eD2 hD2
      have hD2N := sm.free hD2
      have sD2 : Same H2 (upd H2 D2 (.dT [])) := Same.new hD2
      have eD0 : (upd H2 D2 (.dT [])) D2 = some (.dT (rowOf (aheadF one two most F s) ((keysM most).take 0))) := upd_same
      have eD3 := sD2 _ _ eD2
      have s2 := sm.trans sD2
      generalize upd H2 D2 (.dT []) = H3 at eD0 eD3 s2 ⊢
      refine ⟨b, _, s2 _ _ hB, trivial, fun od => ?_⟩
      refine ⟨_, rfl, b, od, rfl, .inr ⟨_, upd_same, for_it walk_keysT (fun i σ H' => ∃ y5 y6 y7 y9, σ = [some (.ref t), some (sg s), some (.ref b), some (.int most), some (.ref D), y5, y6, y7, some (.ref D2), y9] ∧ Keep b H H' ∧
        H' b = some (.frz od (.dT (rowOf F (keysM most)))) ∧ H' D = some (.dT (rowOf (onc one two F s) (keysM most))) ∧ H' D2 = some (.dT (rowOf (aheadF one two most F s) ((keysM most).take i)))) ⟨_, _, _, none, rfl, (Keep.same s2).trans Keep.upd, upd_same, by rw [upd_ne (Ne.symm hbD)]; exact eD3, by rw [upd_ne (Ne.symm hbD2)]; exact eD0⟩ ?_ ?_ ?_⟩⟩
      · rintro i σ H' _ ⟨_, _, _, _, rfl, _, eb, _⟩
        exact eb
      · rintro i x σ _ H' hi ⟨y5, y6, y7, y9, rfl, kp, eb, eD, eA⟩ ⟨rfl, k, v, u, hk, rfl, eu⟩
        obtain ⟨st, left, hat, rfl, rfl⟩ := row_at hk
        have hks := List.mem_of_getElem? hat
        obtain ⟨hbit, hl0, hl1⟩ := hmem.mp hks
        have hob := bit_other hbit
        refine ⟨u, [.int st, .int left], rfl, SqT.of eu, rfl, _, _, rfl, _, _, rfl, rfl, ?_⟩
        refine ⟨_, rfl, _, _, rfl, rfl, ?_⟩
        refine ⟨_, rfl, _, rfl, _, rfl, (by show 2 ≤ sizeLine; decide), fun z1 hz1 => ?_⟩
        have t1 := Same.new (o := .tup [.int st, .int left]) hz1
        have e1 : (upd H' z1 (.tup [.int st, .int left])) z1 = some (.tup [.int st, .int left]) := upd_same
        generalize upd H' z1 (.tup [.int st, .int left]) = K1 at t1 e1 ⊢
        refine ⟨D, _, rfl, dget_row (.inl (t1 _ _ eD)) e1 hks, _, rfl, _, rfl, (by show 2 ≤ sizeLine; decide), fun z2 hz2 => ?_⟩
        have t2 := t1.trans (Same.new (o := .tup [.int st, .int (-1)]) hz2)
        have e2 : (upd K1 z2 (.tup [.int st, .int (-1)])) z2 = some (.tup [.int st, .int (-1)]) := upd_same
        generalize upd K1 z2 (.tup [.int st, .int (-1)]) = K2 at t2 e2 ⊢
        refine ⟨D, _, rfl, dget_row (.inl (t2 _ _ eD)) e2 (hmem.mpr ⟨hbit, by omega, by omega⟩), _, _, rfl, rfl, _, rfl, _, rfl, _, rfl, (by show 2 ≤ sizeLine; decide), fun z3 hz3 => ?_⟩
        have t3 := t2.trans (Same.new (o := .tup [.int (1 - st), .int most]) hz3)
        have e3 : (upd K2 z3 (.tup [.int (1 - st), .int most])) z3 = some (.tup [.int (1 - st), .int most]) := upd_same
        generalize upd K2 z3 (.tup [.int (1 - st), .int most]) = K3 at t3 e3 ⊢
        refine ⟨D, _, rfl, dget_row (.inl (t3 _ _ eD)) e3 (hmem.mpr ⟨hob, by omega, by omega⟩), _, _, rfl, rfl, _, rfl, _, rfl, (by show 2 ≤ sizeLine; decide), fun z4 hz4 => ?_⟩
        have t4 := t3.trans (Same.new (o := .tup [.int (1 - st), .int (-1)]) hz4)
        have e4 : (upd K3 z4 (.tup [.int (1 - st), .int (-1)])) z4 = some (.tup [.int (1 - st), .int (-1)]) := upd_same
        generalize upd K3 z4 (.tup [.int (1 - st), .int (-1)]) = K4 at t4 e4 ⊢
        refine ⟨D, _, rfl, dget_row (.inl (t4 _ _ eD)) e4 (hmem.mpr ⟨hob, by omega, by omega⟩), _, _, rfl, rfl, _, _, _, _, rfl, _, rfl, _, rfl, _, rfl, (by show 2 ≤ sizeLine; decide), fun z5 hz5 => ?_⟩
        obtain ⟨H4, d, k4, e5⟩ := put_next (s := st) (l := left) hnd hat (by omega) (t4 _ _ eA) hz5
        exact ⟨D2, H4, rfl, d, _, _, _, _, rfl, fun x o hx e => k4 x o (fun z => by rw [z, hD2N] at e; cases e) (t4 x o (kp x o hx e)), k4 _ _ hbD2 (t4 _ _ eb), k4 _ _ hDD2 (t4 _ _ eD), e5⟩
      · rintro σ H' ⟨y5, y6, y7, y9, rfl, kp, eb, eD, eA⟩
        rw [len_row, List.take_of_length_le (Nat.le_refl _)] at eA
        refine ⟨eb, _, rfl, q _ D2 (kp.back hB) hD2N ?_⟩
        rw [upd_ne (Ne.symm hbD2)]
        exact eA

theorem dc_it {J : It} {n : Nat} {G : Hp → Prop} {Y : Nat → Hp → V → Hp → Prop} (w : Walk J n G Y) {H0 : Hp} {End : Hp → Prop} {Body : V → Hp → (Hp → Prop) → Prop} (Pv : Nat → Hp → Prop) (h0 : Pv 0 H0) (hG : ∀ i H, i ≤ n → Pv i H → G H)
    (hs : ∀ i x H H', i < n → Pv i H → Y i H x H' → Body x H' (Pv (i + 1))) (hd : ∀ H, Pv n H → End H) :
    ∃ W : Nat → Nat → Hp → Prop, (∃ m, W 0 m H0) ∧ ∀ i m H, W i m H → (J.stop i H ∧ End H) ∨ (J.go i H ∧ ∃ Nx : Hp → Prop, (∀ H', Nx H' → ∃ m', m' < m ∧ W (i + 1) m' H') ∧ ∀ x H', J.yld i H x H' → Body x H' Nx) := by
  refine ⟨fun i m H => m = n - i ∧ i ≤ n ∧ Pv i H, ⟨n, by simp, Nat.zero_le _, h0⟩, ?_⟩
  rintro i m H ⟨rfl, hi, p⟩
  have q := hG i H hi p
  by_cases hlt : i < n
  · exact .inr ⟨w.goes i H hlt q, Pv (i + 1), fun H' p' => ⟨n - (i + 1), by omega, rfl, hlt, p'⟩, fun x H' y => hs i x H H' hlt p (w.yields i H x H' hlt q y)⟩
  · have e : i = n := by omega
    subst e
    exact .inl ⟨w.stops H q, hd H p⟩
theorem lefts_rg {most : Int} (h : -1 ≤ most) : [V.int (-1)] ++ rgV 0 (most + 1) = Ints (leftsM most) := by
  unfold rgV leftsM
  simp
theorem key_at {most l : Int} {st : Int} {i j : Nat} (hi : [V.int 0, V.int 1][i]? = some (.int st)) (h : (leftsM most)[j]? = some l) : (keysM most)[i * (leftsM most).length + j]? = some (st, l) := by
  have hj : j < (leftsM most).length := (List.getElem?_eq_some_iff.mp h).1
  unfold keysM
  match i, hi with
  | 0, hi =>
    cases hi
    rw [Nat.zero_mul, Nat.zero_add, List.getElem?_append_left (by rw [List.length_map]; exact hj), List.getElem?_map, h]
    rfl
  | 1, hi =>
    cases hi
    rw [Nat.one_mul, List.getElem?_append_right (by rw [List.length_map]; omega), List.length_map, Nat.add_sub_cancel_left, List.getElem?_map, h]
    rfl
/-- rows of the least lengths, behind each place of the text -/
structure RowsAt (H : Hp) (p : Addr) (ps : List Addr) (one two : List Nat) (most : Int) (tx : List Nat) : Prop where
  lst : H p = some (.lst (ps.map V.ref))
  len : ps.length = tx.length + 1
  at' : ∀ (i : Nat) (a : Addr), ps[i]? = some a → H a = some (.dT (rowOf (Lf one two most (tx.drop i)) (keysM most)))
def spLens : Sp := fun vs H Q _ => ∃ (t : Addr) (one two tx : List Nat) (most : Int), vs = [.ref t, .str (S tx), .int most] ∧ SetsAt H t one two ∧ Sets one two ∧ -1 ≤ most ∧ most ≤ 400 ∧ tx.length ≤ 900 ∧
  ∀ H' p ps, Same H H' → H p = none → RowsAt H' p ps one two most tx → Q (.ref p) H'
theorem ok_p_shortest_lengths (T : Txt K mg) : FnOk P w K mg base CX0 4 T.a_p_shortest_lengths T.d_p_shortest_lengths ["sets", "text", "most"] spLens := by
  refine T.F_p_shortest_lengths.ok sc_p_shortest_lengths (fun vs H Q E h => ?_) (fun cdv A outer s H vs Q E hr h => ?_)
  · obtain ⟨t, one, two, tx, most, rfl, _⟩ := h
    rfl
  · obtain ⟨t, one, two, tx, most, rfl, hT, hs, hm0, hm1, hl, q⟩ := h
    have hnd := nodup_keys most
    have hlk := len_keys hm0
    have hll := len_lefts hm0
    refine ⟨_,
    (pss_cons (ps_set (i := 3) sc_p_shortest_lengths.nd rfl (Or.inr rfl) (pe_op op_cat (pe_lst (pa_cons (pe_glob (v := .int (-1)) (by rfl) T.c_FREE ⟨_, rfl⟩) pa_nil)) (pe_listRg rfl (by rfl) T.m_list (prg_1 (by rfl) T.m_range (pe_op op_add (pv 2) pe_int))))) 
    (pss_cons (ps_setDc2 (i := 4) (own := [("state", 7), ("left", 8)]) (vs1 := [8]) (hu0_of hr) rfl sc_p_shortest_lengths.nd rfl rfl (swD_true rfl rfl rfl (by decide +kernel)) (pi_tup (pe_tup (pa_cons pe_int (pa_cons pe_int pa_nil)))) (blkOk_by (own := [("state", 7), ("left", 8)]) (N := n_p_shortest_lengths) (sc := (defScope s_p_shortest_lengths)) (by decide +kernel)) (by decide) (fun _ _ _ _ _ => (pg_name (i := 7) sc_p_shortest_lengths.nd rfl (Or.inl rfl))) (fun _ _ _ _ _ => (pi_list (pv 3) : PI _ _ _ (iList K _))) (fun _ _ _ _ _ => (pg_name (i := 8) sc_p_shortest_lengths.nd rfl (Or.inl rfl))) (fun _ _ _ _ _ => (pe_tup (pa_cons (pv 7) (pa_cons (pv 8) pa_nil)))) (fun _ _ _ _ _ => pe_int)) 
    (pss_cons (ps_set (i := 5) sc_p_shortest_lengths.nd rfl (Or.inl rfl) (pe_lst (pa_cons (pv 4) pa_nil))) 
    (pss_cons (ps_for PassesOwn.never rfl (pi_revS (by rfl) T.m_reversed (pv 1)) (pg_name (i := 6) sc_p_shortest_lengths.nd rfl (Or.inl rfl)) 
      (pss_cons (ps_set (i := 4) sc_p_shortest_lengths.nd rfl (Or.inl rfl) (pe_call (ok_p_lengths_ahead T) (hr.mono (by decide)) (by rfl) T.g_p_lengths_ahead T.F_p_lengths_ahead.kp T.b_p_lengths_ahead .nil pass0 (pa_cons (pv 0) (pa_cons (pv 6) (pa_cons (pv 4) (pa_cons (pv 2) pa_nil)))))) 
      (pss_one (ps_expr (pe_bm PySem.F.plainAttrs_list PySem.F.slot_list_append PySem.F.type_list_append mt_append (pv 5) (pa_cons (pv 4) pa_nil)))))) 
    (pss_cons (ps_expr (pe_bm0 PySem.F.plainAttrs_list PySem.F.slot_list_reverse PySem.F.type_list_reverse mt_reverse (pv 5))) 
    (pss_one (ps_ret (pv 5)))))))), ?_⟩
    refine ⟨(by show 1 ≤ sizeLine; decide), fun x hx => ?_⟩
    have s1 := Same.new (o := .lst [.int (-1)]) hx
    refine ⟨_, rfl, _, _, rfl, rfl, _, rfl, RgOk.of_le (by decide) (by omega) (by decide) (by omega), fun y hy => ?_⟩
    have s2 := s1.trans (Same.new (o := .lst (rgV 0 (most + 1))) hy)
    have ex : (upd (upd H x (.lst [.int (-1)])) y (.lst (rgV 0 (most + 1)))) x = some (.lst [.int (-1)]) := Same.new hy _ _ upd_same
    have ey : (upd (upd H x (.lst [.int (-1)])) y (.lst (rgV 0 (most + 1)))) y = some (.lst (rgV 0 (most + 1))) := upd_same
    generalize upd (upd H x (.lst [.int (-1)])) y (.lst (rgV 0 (most + 1))) = H1 at s2 ex ey ⊢
    have hlr : ([V.int (-1)] ++ rgV 0 (most + 1)).length ≤ 1000 := by
      rw [lefts_rg hm0, List.length_map, hll]
      omega
    refine ⟨x, y, _, _, rfl, rfl, ex, ey, small_le (by rw [← List.length_append]; exact hlr), fun lf hlf => ?_⟩
    have s3 := s2.trans (Same.new (o := .lst ([.int (-1)] ++ rgV 0 (most + 1))) hlf)
    have elf : (upd H1 lf (.lst ([.int (-1)] ++ rgV 0 (most + 1)))) lf = some (.lst (Ints (leftsM most))) := by
      rw [upd_same, lefts_rg hm0]
    generalize upd H1 lf (.lst ([.int (-1)] ++ rgV 0 (most + 1))) = H2 at s3 elf ⊢
    refine ⟨(by show 2 ≤ sizeLine; decide), fun z hz => ?_⟩
    have s4 := s3.trans (Same.new (o := .tup [.int 0, .int 1]) hz)
    have elf4 := (Same.new (o := .tup [.int 0, .int 1]) hz) _ _ elf
    have ez : (upd H2 z (.tup [.int 0, .int 1])) z = some (.tup [.int 0, .int 1]) := upd_same
    generalize upd H2 z (.tup [.int 0, .int 1]) = H3 at s4 elf4 ez ⊢
    refine ⟨z, rfl, ⟨_, SqT.of ez⟩, fun D hD => ?_⟩
    have s5 := s4.trans (Same.new (o := .dT []) hD)
    have hDN := s4.free hD
    have hDlf : D ≠ lf := fun e => by rw [e, elf4] at hD; cases hD
    have hDz : D ≠ z := fun e => by rw [e, ez] at hD; cases hD
    have elf5 := (Same.new (o := .dT []) hD) _ _ elf4
    have ez5 := (Same.new (o := .dT []) hD) _ _ ez
    have eD : (upd H3 D (.dT [])) D = some (.dT (rowOf (Lf one two most []) ((keysM most).take 0))) := upd_same
    refine dc_it (walk_tup (xs := [.int 0, .int 1])) (fun i H' => Same H H' ∧ H' lf = some (.lst (Ints (leftsM most))) ∧ H' z = some (.tup [.int 0, .int 1]) ∧ H' D = some (.dT (rowOf (Lf one two most []) ((keysM most).take (i * (leftsM most).length))))) ⟨s5, elf5, ez5, by rw [Nat.zero_mul]; exact eD⟩ ?_ ?_ ?_
    · rintro i H' _ ⟨_, _, e, _⟩
      exact SqT.of e
    · rintro i x _ H' hi ⟨sm, elf', ez', eD'⟩ ⟨rfl, hx⟩
      obtain ⟨st, rfl⟩ : ∃ st : Int, x = .int st := by
        match i, hx with
        | 0, hx => cases hx; exact ⟨0, rfl⟩
        | 1, hx => cases hx; exact ⟨1, rfl⟩
      refine ⟨rfl, _, rfl, lf, rfl, ⟨_, SqL.of elf'⟩, ?_⟩
      refine dc_it (walk_list (xs := Ints (leftsM most))) (fun j H' => Same H H' ∧ H' lf = some (.lst (Ints (leftsM most))) ∧ H' z = some (.tup [.int 0, .int 1]) ∧ H' D = some (.dT (rowOf (Lf one two most []) ((keysM most).take (i * (leftsM most).length + j))))) ⟨sm, elf', ez', eD'⟩ ?_ ?_ ?_
      · rintro j H' _ ⟨_, e, _, _⟩
        exact SqL.of e
      · rintro j y _ H' hj ⟨sm, elf', ez', eD'⟩ ⟨rfl, hy⟩
        obtain ⟨l, hl', rfl⟩ := ints_at hy
        have hat := key_at hx hl'
        refine ⟨rfl, _, rfl, _, rfl, (by show 2 ≤ sizeLine; decide), fun u hu => ?_⟩
        have su := Same.new (o := .tup [.int st, .int l]) hu
        have hlen : (rowOf (Lf one two most []) ((keysM most).take (i * (leftsM most).length + j))).length < sizeLine := small1000 (by rw [len_row, List.length_take]; omega)
        refine ⟨u, _, key2 st l, rfl, upd_same, su _ _ eD', hlen, Same.mut (sm.trans su) hDN, ?_, ?_, ?_⟩
        · rw [upd_ne (Ne.symm hDlf)]
          exact su _ _ elf'
        · rw [upd_ne (Ne.symm hDz)]
          exact su _ _ ez'
        · rw [upd_same, show (V.int 0) = V.int (Lf one two most [] st l) from rfl, put_row hnd hat]
          rfl
      · rintro H' ⟨sm, elf', ez', eD'⟩
        refine ⟨sm, elf', ez', ?_⟩
        rw [List.length_map] at eD'
        rw [Nat.succ_mul]
        exact eD'
    · rintro H' ⟨sm, elf', ez', eD'⟩
      have e2 : [V.int 0, V.int 1].length * (leftsM most).length = (keysM most).length := by
        rw [hlk, hll]
        rfl
      rw [e2, List.take_of_length_le (Nat.le_refl _)] at eD'
      refine ⟨_, rfl, (by show 1 ≤ sizeLine; decide), fun o ho => ?_⟩
      have hoN := sm.free ho
      have s6 := sm.trans (Same.new (o := .lst [.ref D]) ho)
      have eo : (upd H' o (.lst [.ref D])) o = some (.lst [.ref D]) := upd_same
      have eD6 := (Same.new (o := .lst [.ref D]) ho) _ _ eD'
      generalize upd H' o (.lst [.ref D]) = H4 at s6 eo eD6 ⊢
      have hsz : (S tx).length = tx.length := S_len tx
      refine ⟨_, rfl, _, rfl, small_le (by rw [hsz]; omega), for_it (walk_revS (x := S tx)) (fun i σ H' => ∃ (r : Addr) (y6 : Option V) (ps : List Addr), σ = [some (.ref t), some (.str (S tx)), some (.int most), some (.ref lf), some (.ref r), some (.ref o), y6, none, none] ∧ Same H H' ∧ H' o = some (.lst (ps.map V.ref)) ∧ ps.length = i + 1 ∧
        (∀ (j : Nat) (a : Addr), ps[j]? = some a → H' a = some (.dT (rowOf (Lf one two most (tx.drop (tx.length - j))) (keysM most)))) ∧ ps[i]? = some r) ⟨D, none, [D], rfl, s6, eo, rfl, fun j a e => ?_, rfl⟩ ?_ ?_ ?_⟩
      · cases j with
        | zero =>
          cases e
          rw [Nat.sub_zero, List.drop_length]
          exact eD6
        | succ j => simp at e
      · intros
        exact True.intro
      · rintro i x σ _ H' hi ⟨r, y6, ps, rfl, sm, eo, hlp, hat, hlast⟩ ⟨rfl, c, hc, rfl⟩
        rw [hsz] at hi hc
        have hc' : tx[tx.length - 1 - i]? = some c := by
          have e : (S tx).cps[tx.length - 1 - i]? = tx[tx.length - 1 - i]? := by
            show tx.toArray[_]? = _
            simp
          rw [← e]
          exact hc
        have hdrop : tx.drop (tx.length - (i + 1)) = c :: tx.drop (tx.length - i) := by
          obtain ⟨h1, h2⟩ := List.getElem?_eq_some_iff.mp hc'
          rw [show tx.length - (i + 1) = tx.length - 1 - i by omega, ← List.getElem_cons_drop (i := tx.length - 1 - i) (h := h1), h2, show tx.length - 1 - i + 1 = tx.length - i by omega]
        refine ⟨_, rfl, _, rfl, _, rfl, _, rfl, t, r, one, two, c, most, _, rfl, sm _ _ hT, hs, hm0, hm1, hat i r hlast, fun H5 p5 s5 hp5 ep5 => ?_⟩
        have hop : o ≠ p5 := ne_of_none eo hp5
        have eo5 := s5 _ _ eo
        refine ⟨_, rfl, .inl ⟨rfl, _, SqL.of eo5⟩, _, rfl, o, _, _, rfl, rfl, eo5, small1000 (by rw [List.length_map]; omega), p5, _, ps ++ [p5], rfl, Same.mut (sm.trans s5) hoN, ?_, by simp [hlp], fun j a e => ?_, ?_⟩
        · rw [upd_same, List.map_append]
          rfl
        · by_cases hj : j < ps.length
          · rw [List.getElem?_append_left hj] at e
            have h6 := hat j a e
            have h7 : a ≠ o := fun z => by rw [z, eo] at h6; cases h6
            rw [upd_ne h7]
            exact s5 _ _ h6
          · rw [List.getElem?_append_right (by omega)] at e
            have hj0 : j - ps.length = 0 := by
              cases hk : j - ps.length with
              | zero => rfl
              | succ k => rw [hk] at e; simp at e
            rw [hj0] at e
            cases e
            rw [upd_ne (Ne.symm hop), show j = i + 1 by omega, hdrop, Lf_ahead]
            exact ep5
        · rw [List.getElem?_append_right (by omega), hlp, Nat.sub_self]
          rfl
      · rintro σ H' ⟨r, y6, ps, rfl, sm, eo, hlp, hat, hlast⟩
        rw [hsz] at hlp
        refine ⟨_, rfl, .inl ⟨rfl, _, SqL.of eo⟩, o, _, rfl, rfl, eo, _, rfl, q _ o ps.reverse (Same.mut sm hoN) hoN ⟨by rw [upd_same, List.map_reverse], by rw [List.length_reverse, hlp], fun i a e => ?_⟩⟩
        have hi : i < ps.length := by
          have := (List.getElem?_eq_some_iff.mp e).1
          rwa [List.length_reverse] at this
        rw [List.getElem?_reverse hi] at e
        have h6 := hat _ a e
        have h7 : a ≠ o := fun z => by rw [z, eo] at h6; cases h6
        rw [upd_ne h7]
        rw [show tx.length - (ps.length - 1 - i) = i by omega] at h6
        exact h6

theorem step_of {one two : List Nat} {s : Nat} {st left most : Int} {j : Nat} {x : Row4} (h : (stepL one two s st left most)[j]? = some x) : (∃ c l, sst one two st left s = some (c, l) ∧ x = ((c, 1, st, l) : Row4)) ∨
    ∃ k, Bit k ∧ x = (((one.length : Int) + k, 0, k, kept most st k) : Row4) ∧ (∀ c l, sst one two st left s = some (c, l) → ∃ j' : Nat, j' < j ∧ (stepL one two s st left most)[j']? = some ((c, 1, st, l) : Row4)) ∧
      ∀ k', Bit k' → k' < k → ∃ j' : Nat, j' < j ∧ (stepL one two s st left most)[j']? = some (((one.length : Int) + k', 0, k', kept most st k') : Row4) := by
  have low : ∀ k' : Int, Bit k' → ¬ k' < 0 := fun k' hk' => by unfold Bit at hk'; omega
  have low1 : ∀ k' : Int, Bit k' → k' < 1 → k' = 0 := fun k' hk' => by unfold Bit at hk'; omega
  cases e : sst one two st left s with
  | none =>
    have eL : stepL one two s st left most = shiftL one st most := by
      unfold stepL signL
      rw [e]
      rfl
    rw [eL] at h ⊢
    right
    match j, h with
    | 0, h =>
      cases h
      exact ⟨0, .inl rfl, rfl, fun c l z => (by cases z), fun k' hk' z => absurd z (low k' hk')⟩
    | 1, h =>
      cases h
      exact ⟨1, .inr rfl, rfl, fun c l z => (by cases z), fun k' hk' z => by cases low1 k' hk' z; exact ⟨0, by omega, rfl⟩⟩
  | some v =>
    obtain ⟨c, l⟩ := v
    have eL : stepL one two s st left most = (c, 1, st, l) :: shiftL one st most := by
      unfold stepL signL
      rw [e]
      rfl
    rw [eL] at h ⊢
    match j, h with
    | 0, h =>
      cases h
      exact .inl ⟨_, _, rfl, rfl⟩
    | 1, h =>
      cases h
      exact .inr ⟨0, .inl rfl, rfl, fun c' l' z => by cases z; exact ⟨0, by omega, rfl⟩, fun k' hk' z => absurd z (low k' hk')⟩
    | 2, h =>
      cases h
      exact .inr ⟨1, .inr rfl, rfl, fun c' l' z => by cases z; exact ⟨0, by omega, rfl⟩, fun k' hk' z => by cases low1 k' hk' z; exact ⟨1, by omega, rfl⟩⟩
theorem step_has {one two : List Nat} {s : Nat} {st left most : Int} : (∀ c l, sst one two st left s = some (c, l) → ∃ j : Nat, (stepL one two s st left most)[j]? = some ((c, 1, st, l) : Row4)) ∧
    ∀ k, Bit k → ∃ j : Nat, (stepL one two s st left most)[j]? = some (((one.length : Int) + k, 0, k, kept most st k) : Row4) := by
  cases e : sst one two st left s with
  | none =>
    have eL : stepL one two s st left most = shiftL one st most := by
      unfold stepL signL
      rw [e]
      rfl
    rw [eL]
    refine ⟨fun c l z => (by cases z), fun k hk => ?_⟩
    rcases hk with rfl | rfl
    · exact ⟨0, rfl⟩
    · exact ⟨1, rfl⟩
  | some v =>
    obtain ⟨c, l⟩ := v
    have eL : stepL one two s st left most = (c, 1, st, l) :: shiftL one st most := by
      unfold stepL signL
      rw [e]
      rfl
    rw [eL]
    refine ⟨fun c' l' z => (by cases z; exact ⟨0, rfl⟩), fun k hk => ?_⟩
    rcases hk with rfl | rfl
    · exact ⟨1, rfl⟩
    · exact ⟨2, rfl⟩
theorem RowsAt.same {H H' : Hp} {p : Addr} {ps : List Addr} {one two : List Nat} {most : Int} {tx : List Nat} (h : RowsAt H p ps one two most tx) (s : Same H H') : RowsAt H' p ps one two most tx :=
  ⟨s _ _ h.lst, h.len, fun i a e => s _ _ (h.at' i a e)⟩
theorem RowsAt.get {H : Hp} {p : Addr} {ps : List Addr} {one two : List Nat} {most : Int} {tx : List Nat} (h : RowsAt H p ps one two most tx) {i : Nat} (hi : i ≤ tx.length) : ∃ a, (ps.map V.ref)[i]? = some (.ref a) ∧ H a = some (.dT (rowOf (Lf one two most (tx.drop i)) (keysM most))) := by
  have hlt : i < ps.length := by rw [h.len]; omega
  refine ⟨ps[i], by rw [List.getElem?_map, List.getElem?_eq_getElem hlt]; rfl, h.at' i _ (List.getElem?_eq_getElem hlt)⟩
theorem Lf_nil (one two : List Nat) (most st left : Int) : Lf one two most [] st left = 0 := rfl
/-- a code that keeps all in reach: what is told of the rest holds of the whole -/
theorem best_step {one two : List Nat} (hs : Sets one two) {most st left : Int} {s : Nat} {ss : List Nat} {j : Nat} {x : Row4} (hb : Bit st) (hst : Stands one two (s :: ss)) (hl : (s :: ss).length ≤ 1000) (hlf : -1 ≤ left ∧ left ≤ most)
    (hx : (stepL one two s st left most)[j]? = some x) (e : 1 + Lf one two most ((s :: ss).drop x.2.1.toNat) x.2.2.1 x.2.2.2 = Lf one two most (s :: ss) st left)
    (hno : ∀ (j' : Nat) (y : Row4), j' < j → (stepL one two s st left most)[j']? = some y → 1 + Lf one two most ((s :: ss).drop y.2.1.toNat) y.2.2.1 y.2.2.2 ≠ Lf one two most (s :: ss) st left)
    {R : List Int} (hR : Best one two most x.2.2.1 x.2.2.2 ((s :: ss).drop x.2.1.toNat) R) : Best one two most st left (s :: ss) (x.1 :: R) := by
  rcases step_of hx with ⟨c, l, hc, rfl⟩ | ⟨k, hk, rfl, hn1, hn2⟩
  · exact best_sign hs hb hst hl hlf hc e.symm hR
  · refine best_shift hs hb hk hst hl (fun c l hc z => ?_) (fun k' hk' hlt z => ?_) e.symm hR
    · obtain ⟨j', h1, h2⟩ := hn1 c l hc
      exact hno j' _ h1 h2 z.symm
    · obtain ⟨j', h1, h2⟩ := hn2 k' hk' hlt
      exact hno j' _ h1 h2 z.symm
theorem step_reads {one two : List Nat} (hs : Sets one two) {s : Nat} {st left most : Int} {j : Nat} {x : Row4} (hb : Bit st) (hlf : -1 ≤ left ∧ left ≤ most) (hx : (stepL one two s st left most)[j]? = some x) : (x.2.1 = 0 ∨ x.2.1 = 1) ∧ Bit x.2.2.1 ∧ -1 ≤ x.2.2.2 ∧ x.2.2.2 ≤ most := by
  rcases step_of hx with ⟨c, l, hc, rfl⟩ | ⟨k, hk, rfl, _⟩
  · obtain ⟨_, _, h1, h2, _⟩ := sst_range hs hc hlf
    exact ⟨.inr rfl, hb, h1, h2⟩
  · refine ⟨.inl rfl, hk, ?_⟩
    show -1 ≤ kept most st k ∧ kept most st k ≤ most
    unfold kept
    split <;> omega
def spShortest : Sp := fun vs H Q _ => ∃ (t : Addr) (one two tx : List Nat) (st most : Int), vs = [.ref t, .str (S tx), .int st, .int most] ∧ SetsAt H t one two ∧ Sets one two ∧ Bit st ∧ Stands one two tx ∧ -1 ≤ most ∧ most ≤ 400 ∧ tx.length ≤ 300 ∧
  ∀ H' p R, Same H H' → H p = none → Best one two most st (-1) tx R → H' p = some (.lst (Ints R)) → Q (.ref p) H'
theorem ok_p_shortest (T : Txt K mg) : FnOk P w K mg base CX0 5 T.a_p_shortest T.d_p_shortest ["sets", "text", "state", "most"] spShortest := by
  refine T.F_p_shortest.ok sc_p_shortest (fun vs H Q E h => ?_) (fun cdv A outer s H vs Q E hr h => ?_)
  · obtain ⟨t, one, two, tx, st, most, rfl, _⟩ := h
    rfl
  · obtain ⟨t, one, two, tx, st, most, rfl, hT, hs, hb, hst, hm0, hm1, hl, q⟩ := h
    have hmem : ∀ {x y : Int}, (x, y) ∈ keysM most ↔ Bit x ∧ -1 ≤ y ∧ y ≤ most := mem_keys hm0
    have hbd := Lf_bound (one := one) (two := two) (most := most) (tx := tx) (left := -1) hb hst
    refine ⟨_,
    (pss_cons (ps_set (i := 4) sc_p_shortest.nd rfl (Or.inl rfl) (pe_call (ok_p_shortest_lengths T) (hr.mono (by decide)) (by rfl) T.g_p_shortest_lengths T.F_p_shortest_lengths.kp T.b_p_shortest_lengths .nil pass0 (pa_cons (pv 0) (pa_cons (pv 1) (pa_cons (pv 3) pa_nil))))) 
    (pss_cons (ps_set (i := 5) sc_p_shortest.nd rfl (Or.inl rfl) (pe_lst pa_nil)) 
    (pss_cons (ps_set (i := 6) sc_p_shortest.nd rfl (Or.inl rfl) pe_int) 
    (pss_cons (ps_set (i := 7) sc_p_shortest.nd rfl (Or.inl rfl) (pv 2)) 
    (pss_cons (ps_set (i := 8) sc_p_shortest.nd rfl (Or.inl rfl) (pe_glob (v := .int (-1)) (by rfl) T.c_FREE ⟨_, rfl⟩)) 
    (pss_cons (ps_while PassesOwn.never (pt_cmpR op_lt (pv 6) (pe_callB call_len_str (by rfl) T.m_len PySem.boot_len (pa_cons (pv 1) pa_nil)) (nomark _)) 
      (pss_cons (ps_set (i := 9) sc_p_shortest.nd rfl (Or.inl rfl) (pe_dget (hu_of hr) (pe_ix ix_list (pv 4) (pv 6) (fun _ _ => rfl)) (pe_tup (pa_cons (pv 7) (pa_cons (pv 8) pa_nil))) (fun _ _ => rfl))) 
      (pss_one (ps_for PassesOwn.never rfl (pi_list (pe_call (ok_p_steps T) (hr.mono (by decide)) (by rfl) T.g_p_steps T.F_p_steps.kp T.b_p_steps .nil pass0 (pa_cons (pv 0) (pa_cons (pe_ix ix_str (pv 1) (pv 6) (fun _ _ => rfl)) (pa_cons (pv 7) (pa_cons (pv 8) (pa_cons (pv 3) pa_nil))))))) (pg_tup rfl (pgs_cons (pg_name (i := 10) sc_p_shortest.nd rfl (Or.inl rfl)) (pgs_cons (pg_name (i := 11) sc_p_shortest.nd rfl (Or.inl rfl)) (pgs_cons (pg_name (i := 12) sc_p_shortest.nd rfl (Or.inl rfl)) (pgs_cons (pg_name (i := 13) sc_p_shortest.nd rfl (Or.inl rfl)) pgs_nil))))) 
        (pss_one (ps_if (pt_cmpR op_eq (pe_op op_add pe_int (pe_dget (hu_of hr) (pe_ix ix_list (pv 4) (pe_op op_add (pv 6) (pv 11)) (fun _ _ => rfl)) (pe_tup (pa_cons (pv 12) (pa_cons (pv 13) pa_nil))) (fun _ _ => rfl))) (pv 9) (nomark _)) 
          (pss_cons (ps_expr (pe_bm PySem.F.plainAttrs_list PySem.F.slot_list_append PySem.F.type_list_append mt_append (pv 5) (pa_cons (pv 10) pa_nil))) 
          (pss_cons (ps_par3 (i := 6) (j := 7) (l := 8) rfl sc_p_shortest.nd rfl rfl rfl (by decide) (by decide) (by decide) rfl rfl rfl (pa_cons (pe_op op_add (pv 6) (pv 11)) (pa_cons (pv 12) (pa_cons (pv 13) pa_nil))) (by rfl)) 
          (pss_one ps_break))) pss_nil)))))) 
    (pss_one (ps_ret (pv 5))))))))), ?_⟩
    refine ⟨_, rfl, _, rfl, _, rfl, t, one, two, tx, most, rfl, hT, hs, hm0, hm1, by omega, fun H1 rp ps s1 hrp R1 => ?_⟩
    refine ⟨Nat.zero_le _, fun o ho => ?_⟩
    have hoN := s1.free ho
    have hrpo : rp ≠ o := ne_of_none R1.lst ho
    have s2 := s1.trans (Same.new (o := .lst []) ho)
    have R2 := R1.same (Same.new (o := .lst []) ho)
    have eo : (upd H1 o (.lst [])) o = some (.lst (Ints [])) := upd_same
    generalize upd H1 o (.lst []) = H2 at s2 R2 eo ⊢
    refine ⟨_, rfl, fun m σ H' => ∃ (i : Nat) (now left : Int) (L : List Int) (y9 y10 y11 y12 y13 : Option V), m = (Lf one two most (tx.drop i) now left).toNat ∧ σ = [some (.ref t), some (.str (S tx)), some (.int st), some (.int most), some (.ref rp), some (.ref o), some (.int (i : Nat)), some (.int now), some (.int left), y9, y10, y11, y12, y13] ∧
      i ≤ tx.length ∧ Same H H' ∧ RowsAt H' rp ps one two most tx ∧ H' o = some (.lst (Ints L)) ∧ Bit now ∧ -1 ≤ left ∧ left ≤ most ∧ (L.length : Int) + Lf one two most (tx.drop i) now left = Lf one two most tx st (-1) ∧
      ∀ R, Best one two most now left (tx.drop i) R → Best one two most st (-1) tx (L ++ R), ⟨_, 0, st, -1, [], none, none, none, none, none, rfl, rfl, Nat.zero_le _, s2, R2, eo, hb, by decide, hm0, by simp, fun R hR => hR⟩, ?_⟩
    rintro m σ H' ⟨i, now, left, L, y9, y10, y11, y12, y13, rfl, rfl, hi, sm, hR, eo, hbn, hl0, hl1, hlen, hall⟩
    refine ⟨_, rfl, _, rfl, _, rfl, small_le (by rw [S_len]; omega), _, _, rfl, rfl, _, rfl, ite2 (fun h => ?_) (fun h => ?_)⟩
    · have h' : (i : Int) < ((S tx).length : Int) := of_decide_eq_true h
      rw [S_len] at h'
      have hlt : i < tx.length := by omega
      obtain ⟨s, hs', hd⟩ : ∃ s, tx[i]? = some s ∧ tx.drop i = s :: tx.drop (i + 1) := ⟨tx[i], List.getElem?_eq_getElem hlt, (List.getElem_cons_drop (i := i) (h := hlt)).symm⟩
      have hstd : Stands one two (s :: tx.drop (i + 1)) := fun c hc => hst c (by rw [← hd] at hc; exact List.mem_of_mem_drop hc)
      have hld : (s :: tx.drop (i + 1)).length ≤ 300 := by
        rw [← hd, List.length_drop]
        omega
      have hdr : ∀ k : Nat, k = 0 ∨ k = 1 → (s :: tx.drop (i + 1)).drop k = tx.drop (i + k) := by
        rintro k (rfl | rfl)
        · exact hd.symm
        · rfl
      have hpos : 1 ≤ Lf one two most (tx.drop i) now left := by
        rw [hd]
        exact Lf_pos
      obtain ⟨ra, hra1, hra2⟩ := hR.get hi
      refine ⟨fun σ' H'' => ∃ m', m' < (Lf one two most (tx.drop i) now left).toNat ∧ ∃ (i' : Nat) (now' left' : Int) (L' : List Int) (y9 y10 y11 y12 y13 : Option V), m' = (Lf one two most (tx.drop i') now' left').toNat ∧ σ' = [some (.ref t), some (.str (S tx)), some (.int st), some (.int most), some (.ref rp), some (.ref o), some (.int (i' : Nat)), some (.int now'), some (.int left'), y9, y10, y11, y12, y13] ∧
        i' ≤ tx.length ∧ Same H H'' ∧ RowsAt H'' rp ps one two most tx ∧ H'' o = some (.lst (Ints L')) ∧ Bit now' ∧ -1 ≤ left' ∧ left' ≤ most ∧ (L'.length : Int) + Lf one two most (tx.drop i') now' left' = Lf one two most tx st (-1) ∧
        ∀ R, Best one two most now' left' (tx.drop i') R → Best one two most st (-1) tx (L' ++ R), fun σ' H'' h => h, ?_⟩
      refine ⟨_, rfl, _, rfl, rp, _, (i : Int), _, rfl, rfl, SqL.of hR.lst, atI_nat hra1, _, rfl, _, rfl, (by show 2 ≤ sizeLine; decide), fun z hz => ?_⟩
      have sz := Same.new (o := .tup [.int now, .int left]) hz
      have ez : (upd H' z (.tup [.int now, .int left])) z = some (.tup [.int now, .int left]) := upd_same
      have hR3 := hR.same sz
      have s3 := sm.trans sz
      have eo3 := sz _ _ eo
      have hra3 := sz _ _ hra2
      generalize upd H' z (.tup [.int now, .int left]) = H3 at ez hR3 s3 eo3 hra3 ⊢
      refine ⟨ra, _, rfl, dget_row (.inl hra3) ez (hmem.mpr ⟨hbn, hl0, hl1⟩), ?_⟩
      refine ⟨_, rfl, _, rfl, _, rfl, _, _, _, rfl, rfl, small_le (by rw [S_len]; omega), atI_nat (j := i) (by show tx.toArray.toList[i]? = _; exact hs'), _, rfl, _, rfl, _, rfl, t, one, two, s, now, left, most, rfl, s3 _ _ hT, hs, hbn, fun H4 f fs s4 hf F4 => ?_⟩
      have hR4 := hR3.same s4
      have s5 := s3.trans s4
      have eo4 := s4 _ _ eo3
      refine ⟨f, rfl, ⟨_, SqL.of F4.lst⟩, for_list (xs := fs.map V.ref) (fun j σ H' => ∃ y10 y11 y12 y13, σ = [some (.ref t), some (.str (S tx)), some (.int st), some (.int most), some (.ref rp), some (.ref o), some (.int (i : Nat)), some (.int now), some (.int left), some (.int (Lf one two most (tx.drop i) now left)), y10, y11, y12, y13] ∧ Same H H' ∧ Same H4 H' ∧
        ∀ (j' : Nat) (y : Row4), j' < j → (stepL one two s now left most)[j']? = some y → 1 + Lf one two most ((s :: tx.drop (i + 1)).drop y.2.1.toNat) y.2.2.1 y.2.2.2 ≠ Lf one two most (s :: tx.drop (i + 1)) now left) ⟨_, _, _, _, rfl, s5, Same.refl _, fun j' y h => absurd h (Nat.not_lt_zero _)⟩ ?_ ?_ ?_⟩
      · rintro j σ H' _ ⟨_, _, _, _, rfl, _, k, _⟩
        exact SqL.of (k _ _ F4.lst)
      · rintro j x σ H' hx ⟨y10, y11, y12, y13, rfl, sm5, k5, hno⟩
        obtain ⟨a, rfl, ha⟩ : ∃ a, x = V.ref a ∧ fs[j]? = some a := by
          rw [List.getElem?_map] at hx
          cases e : fs[j]? with
          | none => rw [e] at hx; cases hx
          | some a => rw [e] at hx; cases hx; exact ⟨a, rfl, rfl⟩
        obtain ⟨⟨c, rd, tl, kp⟩, hxj, ea⟩ := F4.at' j a ha
        obtain ⟨hrd, hbt, hk0, hk1⟩ := step_reads hs hbn ⟨hl0, hl1⟩ hxj
        simp only at hrd hbt hk0 hk1
        obtain ⟨r, rfl, hr01⟩ : ∃ r : Nat, rd = (r : Int) ∧ (r = 0 ∨ r = 1) := by
          rcases hrd with rfl | rfl
          · exact ⟨0, rfl, .inl rfl⟩
          · exact ⟨1, rfl, .inr rfl⟩
        have hir : i + r ≤ tx.length := by omega
        have hR5 := hR4.same k5
        obtain ⟨rb, hrb1, hrb2⟩ := hR5.get hir
        refine ⟨a, _, rfl, SqT.of (k5 _ _ ea), rfl, _, _, rfl, _, _, rfl, _, _, rfl, _, _, rfl, rfl, ?_⟩
        refine ⟨_, rfl, _, rfl, _, rfl, _, _, rfl, rfl, rp, _, ((i + r : Nat) : Int), _, rfl, rfl, SqL.of hR5.lst, atI_nat hrb1, _, rfl, _, rfl, (by show 2 ≤ sizeLine; decide), fun z hz => ?_⟩
        have sz := Same.new (o := .tup [.int tl, .int kp]) hz
        have ez : (upd H' z (.tup [.int tl, .int kp])) z = some (.tup [.int tl, .int kp]) := upd_same
        have hR6 := hR5.same sz
        have s6 := sm5.trans sz
        have k6 := k5.trans sz
        have hrb6 := sz _ _ hrb2
        generalize upd H' z (.tup [.int tl, .int kp]) = H6 at ez hR6 s6 k6 hrb6 ⊢
        refine ⟨rb, _, rfl, dget_row (.inl hrb6) ez (hmem.mpr ⟨hbt, hk0, hk1⟩), _, _, rfl, rfl, _, rfl, rfl, _, rfl, ?_⟩
        have eo6 := k6 _ _ eo4
        rw [dec_int]
        by_cases he : 1 + Lf one two most (tx.drop (i + r)) tl kp = Lf one two most (tx.drop i) now left
        · rw [decide_eq_true he]
          have hLl : L.length ≤ 900 := by omega
          have hnn := Lf_nonneg one two most (tx.drop (i + r)) tl kp
          refine iteT ⟨_, rfl, .inl ⟨rfl, _, SqL.of eo6⟩, _, rfl, o, _, _, rfl, rfl, eo6, small1000 (by rw [List.length_map]; omega), ?_⟩
          refine ⟨_, rfl, _, rfl, _, _, rfl, rfl, _, rfl, _, rfl, _, _, _, rfl, ?_⟩
          refine ⟨_, ?_, i + r, tl, kp, L ++ [c], _, _, _, _, _, rfl, rfl, hir, Same.mut s6 hoN, ?_, ?_, hbt, hk0, hk1, ?_, ?_⟩
          · omega
          · refine ⟨?_, hR6.len, fun j' b eb => ?_⟩
            · have h7 := hR6.lst
              rw [upd_ne hrpo]
              exact h7
            · have h7 := hR6.at' j' b eb
              rw [upd_ne (fun z => by rw [z, eo6] at h7; cases h7)]
              exact h7
          · rw [upd_same, ints_snoc]
          · rw [List.length_append, List.length_singleton]
            omega
          · intro R hB
            rw [List.append_assoc]
            refine hall _ ?_
            rw [hd]
            rw [hd] at he
            have hB2 := best_step hs (x := (c, ((r : Nat) : Int), tl, kp)) hbn hstd (by omega) ⟨hl0, hl1⟩ hxj (by
              show 1 + Lf one two most ((s :: tx.drop (i + 1)).drop ((r : Nat) : Int).toNat) tl kp = _
              rw [Int.toNat_natCast, hdr r hr01]
              exact he) hno (R := R) (by
              show Best one two most tl kp ((s :: tx.drop (i + 1)).drop ((r : Nat) : Int).toNat) R
              rw [Int.toNat_natCast, hdr r hr01]
              exact hB)
            exact hB2
        · rw [decide_eq_false he]
          refine iteF ⟨_, _, _, _, rfl, s6, k6, fun j' y hj' hy => ?_⟩
          by_cases hjj : j' < j
          · exact hno j' y hjj hy
          · have : j' = j := by omega
            subst this
            rw [hxj] at hy
            cases hy
            show 1 + Lf one two most ((s :: tx.drop (i + 1)).drop ((r : Nat) : Int).toNat) tl kp ≠ _
            rw [Int.toNat_natCast, hdr r hr01, ← hd]
            exact he
      · rintro σ H' ⟨y10, y11, y12, y13, rfl, sm5, k5, hno⟩
        exfalso
        rw [List.length_map, F4.len] at hno
        have hlt' : ∀ {j' : Nat} {y : Row4}, (stepL one two s now left most)[j']? = some y → j' < (stepL one two s now left most).length := fun h => (List.getElem?_eq_some_iff.mp h).1
        rcases Lf_attain (most := most) (left := left) hbn hstd (by rw [List.length_cons] at hld; omega) with ⟨c, l, hc, e⟩ | ⟨k, hk, e⟩
        · obtain ⟨j', hj⟩ := step_has.1 c l hc
          exact hno j' _ (hlt' hj) hj e.symm
        · obtain ⟨j', hj⟩ := step_has.2 k hk
          exact hno j' _ (hlt' hj) hj e.symm
    · have h' : ¬ (i : Int) < ((S tx).length : Int) := of_decide_eq_false (by simpa using h)
      rw [S_len] at h'
      have hd : tx.drop i = [] := List.drop_of_length_le (by omega)
      rw [hd] at hall
      have := hall [] best_nil
      rw [List.append_nil] at this
      exact ⟨_, rfl, q _ o L sm hoN this eo⟩

def spLeast : Sp := fun vs H Q _ => ∃ (t : Addr) (one two tx : List Nat) (st : Int), vs = [.ref t, .str (S tx), .int st] ∧ SetsAt H t one two ∧ Sets one two ∧ Bit st ∧ Stands one two tx ∧ tx.length ≤ 300 ∧
  ∀ H' p R, Same H H' → H p = none → Best one two (-1) st (-1) tx R → H' p = some (.lst (Ints R)) → Q (.ref p) H'
theorem ok_p_least (T : Txt K mg) : FnOk P w K mg base CX0 6 T.a_p_least T.d_p_least ["sets", "text", "state"] spLeast := by
  refine T.F_p_least.ok sc_p_least (fun vs H Q E h => ?_) (fun cdv A outer s H vs Q E hr h => ?_)
  · obtain ⟨t, one, two, tx, st, rfl, _⟩ := h
    rfl
  · obtain ⟨t, one, two, tx, st, rfl, hT, hs, hb, hst, hl, q⟩ := h
    refine ⟨_,
    (pss_cons (ps_expr (pe_call (ok_p_check_sets T) (hr.mono (by decide)) (by rfl) T.g_p_check_sets T.F_p_check_sets.kp T.b_p_check_sets .nil pass0 (pa_cons (pv 0) pa_nil))) 
    (pss_cons (ps_expr (pe_call (ok_p_check_text T) (hr.mono (by decide)) (by rfl) T.g_p_check_text T.F_p_check_text.kp T.b_p_check_text .nil pass0 (pa_cons (pv 0) (pa_cons (pv 1) pa_nil)))) 
    (pss_cons (ps_expr (pe_call (ok_p_check_state T) (hr.mono (by decide)) (by rfl) T.g_p_check_state T.F_p_check_state.kp T.b_p_check_state .nil pass0 (pa_cons (pv 2) pa_nil))) 
    (pss_one (ps_ret (pe_call (ok_p_shortest T) (hr.mono (by decide)) (by rfl) T.g_p_shortest T.F_p_shortest.kp T.b_p_shortest .nil pass0 (pa_cons (pv 0) (pa_cons (pv 1) (pa_cons (pv 2) (pa_cons (pe_glob (v := .int (-1)) (by rfl) T.c_FREE ⟨_, rfl⟩) pa_nil)))))))))), ?_⟩
    refine ⟨_, rfl, t, one, two, rfl, hT, hs, ?_⟩
    refine ⟨_, rfl, _, rfl, t, one, two, tx, rfl, hT, hs, hst, fun H1 s1 => ?_⟩
    refine ⟨_, rfl, st, rfl, hb, fun H2 s2 => ?_⟩
    have s3 := s1.trans s2
    exact ⟨_, rfl, _, rfl, _, rfl, t, one, two, tx, st, -1, rfl, s3 _ _ hT, hs, hb, hst, by decide, by decide, hl, fun H4 p R s4 hp hB e => q H4 p R (s3.trans s4) (s3.free hp) hB e⟩

def spTrimmed : Sp := fun vs H Q _ => ∃ (t a : Addr) (one two : List Nat) (tp : List Int) (st : Int), vs = [.ref t, .ref a, .int st] ∧ SetsAt H t one two ∧ Sets one two ∧ H a = some (.lst (Ints tp)) ∧ Tape one.length tp ∧ Bit st ∧
  ∀ H' p, Same H H' → H p = none → H' p = some (.lst (Ints (trim one two st tp))) → Q (.ref p) H'
theorem ok_p_trimmed (T : Txt K mg) : FnOk P w K mg base CX0 3 T.a_p_trimmed T.d_p_trimmed ["sets", "tape", "state"] spTrimmed := by
  refine T.F_p_trimmed.ok sc_p_trimmed (fun vs H Q E h => ?_) (fun cdv A outer s H vs Q E hr h => ?_)
  · obtain ⟨t, a, one, two, tp, st, rfl, _⟩ := h
    rfl
  · obtain ⟨t, a, one, two, tp, st, rfl, hT, hs, hA, hc, hb, q⟩ := h
    have htp := hs.top
    have hl200 := hc.1
    refine ⟨_,
    (pss_cons (ps_expr (pe_call (ok_p_check_sets T) (hr.mono (by decide)) (by rfl) T.g_p_check_sets T.F_p_check_sets.kp T.b_p_check_sets .nil pass0 (pa_cons (pv 0) pa_nil))) 
    (pss_cons (ps_expr (pe_call (ok_p_check_tape T) (hr.mono (by decide)) (by rfl) T.g_p_check_tape T.F_p_check_tape.kp T.b_p_check_tape .nil pass0 (pa_cons (pv 0) (pa_cons (pv 1) pa_nil)))) 
    (pss_cons (ps_expr (pe_call (ok_p_check_state T) (hr.mono (by decide)) (by rfl) T.g_p_check_state T.F_p_check_state.kp T.b_p_check_state .nil pass0 (pa_cons (pv 2) pa_nil))) 
    (pss_cons (ps_set (i := 3) sc_p_trimmed.nd rfl (Or.inl rfl) (pe_callB call_len_str (by rfl) T.m_len PySem.boot_len (pa_cons (pe_ix ix_tup (pv 0) pe_int (fun _ _ => rfl)) pa_nil))) 
    (pss_cons (ps_set (i := 4) sc_p_trimmed.nd rfl (Or.inl rfl) (pe_lst pa_nil)) 
    (pss_cons (ps_set (i := 5) sc_p_trimmed.nd rfl (Or.inl rfl) (pv 2)) 
    (pss_cons (ps_set (i := 6) sc_p_trimmed.nd rfl (Or.inl rfl) (pv 2)) 
    (pss_cons (ps_for PassesOwn.never rfl (pi_list (pv 1)) (pg_name (i := 7) sc_p_trimmed.nd rfl (Or.inl rfl)) 
      (pss_cons (ps_if (pt_cmpR op_ge (pv 7) (pv 3) (nomark _)) 
        (pss_cons (ps_set (i := 5) sc_p_trimmed.nd rfl (Or.inl rfl) (pe_op op_sub (pv 7) (pv 3))) 
        (pss_one ps_continue)) pss_nil) 
      (C8.pss_cut (ps_if (PW.pt (pw_and (pt_cmpR op_ne (pv 6) (pv 5) (nomark _)) (pw_and1 (pt_not (pt_val (pe_call (ok_p_is_common T) (hr.mono (by decide)) (by rfl) T.g_p_is_common T.F_p_is_common.kp T.b_p_is_common .nil pass0 (pa_cons (pv 0) (pa_cons (pv 7) pa_nil)))))))) 
        (pss_cons (ps_expr (pe_bm PySem.F.plainAttrs_list PySem.F.slot_list_append PySem.F.type_list_append mt_append (pv 4) (pa_cons (pe_op op_add (pv 3) (pv 5)) pa_nil))) 
        (pss_one (ps_set (i := 6) sc_p_trimmed.nd rfl (Or.inl rfl) (pv 5)))) pss_nil) 
      (pss_one (ps_expr (pe_bm PySem.F.plainAttrs_list PySem.F.slot_list_append PySem.F.type_list_append mt_append (pv 4) (pa_cons (pv 7) pa_nil))))))) 
    (pss_one (ps_ret (pv 4))))))))))), ?_⟩
    refine ⟨_, rfl, t, one, two, rfl, hT, hs, ?_⟩
    refine ⟨_, rfl, _, rfl, t, a, one, two, tp, rfl, hT, hs, hA, hc, fun H1 s1 => ?_⟩
    refine ⟨_, rfl, st, rfl, hb, fun H2 s2 => ?_⟩
    have sm := s1.trans s2
    have hT2 := sm _ _ hT
    have hA2 := sm _ _ hA
    refine ⟨_, rfl, t, _, 0, _, rfl, rfl, SqT.of hT2, atI_nat (j := 0) rfl, _, rfl, small_le (by rw [S_len]; omega), Nat.zero_le _, fun o ho => ?_⟩
    have hoN : H o = none := Same.free sm ho
    have s3 : Same H (upd H2 o (.lst [])) := sm.trans (Same.new ho)
    refine ⟨_, rfl, _, rfl, _, rfl, a, rfl, ⟨_, SqL.of (s3 _ _ hA)⟩, for_list (xs := Ints tp) (fun i σ H' => ∃ y7, σ = [some (.ref t), some (.ref a), some (.int st), some (.int (S one).length), some (.ref o), some (.int (rdS one st (tp.take i))), some (.int (trmS one two st (need one st (tp.take i)))), y7] ∧
      Same H H' ∧ H' o = some (.lst (Ints (trm one two st (need one st (tp.take i)))))) ⟨none, rfl, s3, upd_same⟩ ?_ ?_ ?_⟩
    · rintro i σ H' _ ⟨y7, rfl, sm', eo⟩
      exact SqL.of (sm' _ _ hA)
    · rintro i x σ H' hx ⟨y7, rfl, sm', eo⟩
      obtain ⟨c, hcx, rfl⟩ := ints_at hx
      have hi : i < tp.length := (List.getElem?_eq_some_iff.mp hcx).1
      have hm := hc.2 c (List.mem_of_getElem? hcx)
      have hbi : Bit (rdS one st (tp.take i)) := rdS_bit hb (Codes.take hc.2 i)
      have e1 := need_snoc one c st (tp.take i)
      have e2 := rdS_snoc one c st (tp.take i)
      have e3 := trm_snoc one two (c, rdS one st (tp.take i)) st (need one st (tp.take i))
      have e4 := trmS_snoc one two (c, rdS one st (tp.take i)) st (need one st (tp.take i))
      rw [← take_snoc hcx] at e1 e2
      have hlen := trm_len (one := one) (two := two) (st := st) (sh := st) (l := tp.take i)
      rw [if_pos rfl, List.length_take] at hlen
      generalize hnow : rdS one st (tp.take i) = now at *
      generalize hL : need one st (tp.take i) = L at *
      refine ⟨_, rfl, _, rfl, _, _, rfl, rfl, _, rfl, ite2 (fun h => ?_) (fun h => ?_)⟩
      · have h' : ((S one).length : Int) ≤ c := of_decide_eq_true h
        rw [S_len] at h'
        have hn : ¬ c < (one.length : Int) := by omega
        rw [if_neg hn] at e1 e2
        rw [List.append_nil] at e1
        refine ⟨_, rfl, _, rfl, _, _, rfl, rfl, some (.int c), ?_, sm', ?_⟩
        · rw [e1, e2, S_len]
          rfl
        · rw [e1]
          exact eo
      · have h' : ¬ ((S one).length : Int) ≤ c := of_decide_eq_false (by simpa using h)
        rw [S_len] at h'
        have hn : c < (one.length : Int) := by omega
        rw [if_pos hn] at e1 e2
        rw [← e1] at e3 e4
        refine ⟨fun σ' H'' => σ' = [some (.ref t), some (.ref a), some (.int st), some (.int (S one).length), some (.ref o), some (.int now), some (.int (trmS one two st (need one st (tp.take (i + 1))))), some (.int c)] ∧ Same H H'' ∧ ∃ l, H'' o = some (.lst (Ints l)) ∧ trm one two st (need one st (tp.take (i + 1))) = l ++ [c] ∧ l.length ≤ 500, ?_, ?_⟩
        · refine ⟨_, rfl, _, rfl, rfl, _, rfl, ?_⟩
          rw [dec_int]
          by_cases hz : trmS one two st L = now
          · have hw : ¬ wants one two (trmS one two st L) (c, now) = true := by simp [wants, hz]
            rw [if_neg hw] at e3 e4
            rw [decide_eq_true hz]
            refine iteF ⟨?_, sm', _, eo, e3, by omega⟩
            rw [e4]
            rfl
          · rw [decide_eq_false hz]
            refine iteT ⟨_, rfl, _, rfl, t, one, two, c, rfl, sm' _ _ hT, hs, hm.1, hn, _, rfl, ?_⟩
            by_cases hk : comm one two c = true
            · have hw : ¬ wants one two (trmS one two st L) (c, now) = true := by simp [wants, hk]
              rw [if_neg hw] at e3 e4
              rw [hk]
              refine iteF ⟨?_, sm', _, eo, e3, by omega⟩
              rw [e4]
              rfl
            · have hw : wants one two (trmS one two st L) (c, now) = true := by
                unfold wants
                simp [hk]
                exact fun z => hz z.symm
              rw [if_pos hw] at e3 e4
              have hk' : comm one two c = false := by simpa using hk
              rw [hk']
              refine iteT ⟨_, rfl, .inl ⟨rfl, _, SqL.of eo⟩, _, rfl, _, rfl, _, _, rfl, rfl, o, _, _, rfl, rfl, eo, small1000 (by rw [List.length_map]; omega), _, rfl, ?_, Same.mut sm' hoN, trm one two st L ++ [(one.length : Int) + now], ?_, ?_, ?_⟩
              · rw [e4]
                rfl
              · rw [upd_same, ints_snoc, S_len]
              · rw [e3, List.append_assoc]
                rfl
              · rw [List.length_append]
                simp
                omega
        · rintro σ' H'' ⟨rfl, s5, l, el, e5, hl5⟩
          refine ⟨_, rfl, .inl ⟨rfl, _, SqL.of el⟩, _, rfl, o, _, _, rfl, rfl, el, small1000 (by rw [List.length_map]; omega), some (.int c), ?_, Same.mut s5 hoN, ?_⟩
          · rw [e2]
          · rw [upd_same, e5, ints_snoc]
    · rintro σ H' ⟨y7, rfl, sm', eo⟩
      rw [List.length_map, List.take_of_length_le (Nat.le_refl _)] at eo
      exact ⟨_, rfl, q _ o sm' hoN eo⟩

/-- a row of the sets -/
def Row (one two row : List Nat) : Prop := row = one ∨ row = two
theorem Row.len {one two row : List Nat} (h : Row one two row) (hs : Sets one two) : 1 ≤ row.length ∧ row.length ≤ 10 := by
  have h1 := hs.pos
  have h2 := hs.top
  have h3 := hs.same
  rcases h with rfl | rfl <;> omega
theorem Row.mem {one two row : List Nat} (h : Row one two row) {c : Nat} (hc : c ∈ row) : c ∈ one ∨ c ∈ two := by
  rcases h with rfl | rfl
  · exact .inl hc
  · exact .inr hc
theorem Stands.snoc {one two tx : List Nat} {c : Nat} (h : Stands one two tx) (hc : c ∈ one ∨ c ∈ two) : Stands one two (tx ++ [c]) := by
  intro x hx
  rcases List.mem_append.mp hx with hx | hx
  · exact h x hx
  · rw [List.mem_singleton.mp hx]
    exact hc
theorem S_snoc (tx : List Nat) (c : Nat) : S tx ++ ⟨#[c]⟩ = S (tx ++ [c]) := S_cat tx [c]
theorem sign_in {row : List Nat} {k : Int} (h0 : 0 ≤ k) (h1 : k < (row.length : Int)) : row.getD k.toNat 0 ∈ row := by
  have hlt : k.toNat < row.length := by omega
  rw [List.getD_eq_getElem?_getD, List.getElem?_eq_getElem hlt]
  exact List.getElem_mem hlt
def spText : Sp := fun vs H Q _ => ∃ (d t : Addr) (ds : List Int) (one two : List Nat) (m : Int), vs = [.ref d, .ref t, .int m] ∧ H d = some (.lst (Ints ds)) ∧ Dice ds ∧ SetsAt H t one two ∧ Sets one two ∧ 0 ≤ m ∧ m ≤ 200 ∧
  ∀ H' ds' tx, Keep d H H' → H' d = some (.lst (Ints ds')) → Dice ds' → Stands one two tx → (tx.length : Int) ≤ m → Q (.str (S tx)) H'
theorem ok_l_text (T : Txt K mg) : FnOk P w K mg base CX0 2 T.a_l_text T.d_l_text ["_law_d", "_law_sets_here", "_law_most"] spText := by
  refine T.F_l_text.ok sc_l_text (fun vs H Q E h => ?_) (fun cdv A outer s H vs Q E hr h => ?_)
  · obtain ⟨d, t, ds, one, two, m, rfl, _⟩ := h
    rfl
  · obtain ⟨d, t, ds, one, two, m, rfl, hd, hD, hT, hs, hm0, hm1, q⟩ := h
    have htd : t ≠ d := ne_of hT hd (by intro z; cases z)
    refine ⟨_,
    (pss_cons (ps_set (i := 3) sc_l_text.nd rfl (Or.inl rfl) pe_str) 
    (pss_cons (ps_set (i := 4) sc_l_text.nd rfl (Or.inl rfl) (pe_ix ix_tup (pv 1) pe_int (fun _ _ => rfl))) 
    (pss_cons (ps_for PassesOwn.never rfl (pi_range1 (by rfl) T.m_range (pa_cons (pe_call (ok_l_offK T) (hr.mono (by decide)) (by rfl) T.g_l_off T.F_l_off.kp T.b_l_off .nil pass0 (pa_cons (pv 0) (pa_cons (pe_op op_add (pv 2) pe_int) pa_nil))) pa_nil)) (pg_name (i := 5) sc_l_text.nd rfl (Or.inl rfl)) 
      (C8.pss_cut (ps_if (pt_cmpR op_eq (pe_call (ok_l_offK T) (hr.mono (by decide)) (by rfl) T.g_l_off T.F_l_off.kp T.b_l_off .nil pass0 (pa_cons (pv 0) (pa_cons pe_int pa_nil))) pe_int (nomark _)) 
        (pss_one (ps_set (i := 4) sc_l_text.nd rfl (Or.inl rfl) (pe_ix ix_tup (pv 1) (pe_call (ok_l_offK T) (hr.mono (by decide)) (by rfl) T.g_l_off T.F_l_off.kp T.b_l_off .nil pass0 (pa_cons (pv 0) (pa_cons pe_int pa_nil))) (fun _ _ => rfl)))) pss_nil) 
      (pss_one (ps_set (i := 3) sc_l_text.nd rfl (Or.inl rfl) (pe_op op_add_str (pv 3) (pe_ix ix_str (pv 4) (pe_call (ok_l_offK T) (hr.mono (by decide)) (by rfl) T.g_l_off T.F_l_off.kp T.b_l_off .nil pass0 (pa_cons (pv 0) (pa_cons (pe_callB call_len_str (by rfl) T.m_len PySem.boot_len (pa_cons (pv 4) pa_nil)) pa_nil))) (fun _ _ => rfl))))))) 
    (pss_one (ps_ret (pv 3)))))), ?_⟩
    refine ⟨_, rfl, t, _, 0, _, rfl, rfl, SqT.of hT, atI_nat (j := 0) rfl, ?_⟩
    refine ⟨_, rfl, _, rfl, _, _, rfl, rfl, d, ds, _, rfl, hd, hD, by omega, by omega, fun k1 ds1 H1 hk0 hk1 hD1 kp1 e1 => ?_⟩
    refine ⟨k1, rfl, by omega, by omega, for_range (n := k1.toNat) (fun i σ H' => ∃ (tx row : List Nat) (y5 : Option V) (ds' : List Int), σ = [some (.ref d), some (.ref t), some (.int m), some (.str (S tx)), some (.str (S row)), y5] ∧ Keep d H H' ∧ H' d = some (.lst (Ints ds')) ∧ Dice ds' ∧
      Row one two row ∧ Stands one two tx ∧ tx.length = i) ⟨[], one, none, ds1, rfl, kp1, e1, hD1, .inl rfl, by simp [Stands], rfl⟩ ?_ ?_⟩
    · rintro i σ H' hi ⟨tx, row, y5, ds', rfl, kp, ed, hD', hrow, hst, hl⟩
      refine ⟨fun σ' H'' => ∃ (row : List Nat) (ds' : List Int), σ' = [some (.ref d), some (.ref t), some (.int m), some (.str (S tx)), some (.str (S row)), some (.int (0 + (i : Nat)))] ∧ Keep d H H'' ∧ H'' d = some (.lst (Ints ds')) ∧ Dice ds' ∧ Row one two row, ?_, ?_⟩
      · refine ⟨_, rfl, d, ds', 3, rfl, ed, hD', by decide, by decide, fun k2 ds2 H2 hk2 hk3 hD2 kp2 e2 => ?_⟩
        have kp2' := kp.trans kp2
        refine ⟨rfl, _, rfl, ite2 (fun h => ?_) (fun h => ?_)⟩
        · refine ⟨_, rfl, _, rfl, d, ds2, 2, rfl, e2, hD2, by decide, by decide, fun k3 ds3 H3 hk4 hk5 hD3 kp3 e3 => ?_⟩
          have kp3' := kp2'.trans kp3
          have hb : Bit k3 := by unfold Bit; omega
          refine ⟨t, _, k3, _, rfl, rfl, SqT.of (kp3' _ _ htd hT), at_sets hb, _, ds3, rfl, kp3', e3, hD3, ?_⟩
          rcases hb with rfl | rfl
          · exact .inl rfl
          · exact .inr rfl
        · exact ⟨row, ds2, rfl, kp2', e2, hD2, hrow⟩
      · rintro σ' H2 ⟨row, ds', rfl, kp, ed, hD', hrow⟩
        obtain ⟨hr1, hr2⟩ := hrow.len hs
        refine ⟨_, rfl, _, rfl, _, rfl, _, rfl, _, rfl, small_le (by rw [S_len]; omega), d, ds', _, rfl, ed, hD', (by rw [S_len]; omega), (by rw [S_len]; omega), fun k3 ds3 H3 hk4 hk5 hD3 kp3 e3 => ?_⟩
        rw [S_len] at hk5
        refine ⟨_, _, _, rfl, rfl, small_le (by rw [S_len]; omega), at_sign hk4 hk5, _, _, rfl, rfl, ?_, ?_⟩
        · show (S tx).length + 1 ≤ sizeLine
          exact small_le (by rw [S_len]; omega)
        · refine ⟨tx ++ [row.getD k3.toNat 0], row, _, ds3, by rw [← S_snoc]; rfl, kp.trans kp3, e3, hD3, hrow, hst.snoc (hrow.mem (sign_in hk4 hk5)), by simp [hl]⟩
    · rintro σ H' ⟨tx, row, y5, ds', rfl, kp, ed, hD', hrow, hst, hl⟩
      exact ⟨_, rfl, q H' ds' tx kp ed hD' hst (by omega)⟩

def absL : List Nat := [33, 63, 90, 61, 97, 98, 99, 100, 101, 102, 103, 104, 105, 106, 107, 108, 109, 110, 111, 112, 113, 114, 115, 116, 117, 118, 119, 120, 121, 122]
theorem far_two {m : List Nat} (h : m.length ≤ 20) : ∃ c d r, off2 absL m = c :: d :: r ∧ c ∈ absL ∧ d ∈ absL ∧ c ∉ m ∧ d ∉ m := by
  have hn : absL.Nodup := by decide
  have hl : absL.length = 30 := rfl
  obtain ⟨c, r, e, h1, h2⟩ := off2_ne hn (m := m) (by omega)
  obtain ⟨d, r2, e2, h3, h4⟩ := off2_ne hn (m := c :: m) (by rw [List.length_cons]; omega)
  have hd : d ∈ off2 absL m := by
    unfold off2
    refine List.mem_filter.mpr ⟨h3, ?_⟩
    have : d ∉ m := fun z => h4 (List.mem_cons_of_mem _ z)
    simp [this]
  rw [e] at hd
  have hdr : d ∈ r := by
    rcases List.mem_cons.mp hd with z | z
    · exact absurd (by rw [z]; exact List.mem_cons_self) h4
    · exact z
  cases r with
  | nil => simp at hdr
  | cons x r =>
    have hx : x ∈ off2 absL m := by rw [e]; simp
    unfold off2 at hx
    obtain ⟨hx1, hx2⟩ := List.mem_filter.mp hx
    exact ⟨c, x, r, e, h1, hx1, h2, by simpa using hx2⟩
def spAbsent : Sp := fun vs H Q _ => ∃ (t : Addr) (one two : List Nat), vs = [.ref t] ∧ SetsAt H t one two ∧ Sets one two ∧
  ∀ H' p, Same H H' → H p = none → H' p = some (.lst (Sgs (off2 absL (one ++ two)))) → Q (.ref p) H'
theorem ok_l_absent (T : Txt K mg) : FnOk P w K mg base CX0 1 T.a_l_absent T.d_l_absent ["_law_sets_here"] spAbsent := by
  refine T.F_l_absent.ok sc_l_absent (fun vs H Q E h => ?_) (fun cdv A outer s H vs Q E hr h => ?_)
  · obtain ⟨t, one, two, rfl, _⟩ := h
    rfl
  · obtain ⟨t, one, two, rfl, hT, hs, q⟩ := h
    have hp := hs.pos
    have htp := hs.top
    have hsm := hs.same
    have eA : (Str.ofString "!?Z=abcdefghijklmnopqrstuvwxyz") = S absL := by decide +kernel
    refine ⟨_,
    (pss_one (ps_ret (pe_lc (own := [("_law_sign", 1)]) (g := gName 1) rfl sc_l_absent.nd (pi_str pe_str) (blkOk_by (own := [("_law_sign", 1)]) (N := n_l_absent) (sc := (defScope s_l_absent)) (by decide +kernel)) (fun _ _ _ _ _ => (pg_name (i := 1) sc_l_absent.nd rfl (Or.inl rfl))) (fun _ _ _ _ _ => (pts_one (pt_cmpR op_notIn_sign (pv 1) (pe_op op_add_str (pe_ix (ix_tup : IxR _ (rIxT K)) (pv 0) pe_int (fun _ _ => rfl)) (pe_ix (ix_tup : IxR _ (rIxT K)) (pv 0) pe_int (fun _ _ => rfl))) (by rfl)))) (fun _ _ _ _ _ => (pv 1))))), ?_⟩
    refine ⟨S absL, by rw [← eA], fun D hD => lc_it (walk_str (z := S absL)) (fun k H' => H' D = some (.lst (Sgs (off2 (absL.take k) (one ++ two)))) ∧ Same H H') ⟨upd_same, Same.new hD⟩ ?_ ?_ ?_⟩
    · intros
      exact True.intro
    · rintro k x _ H' hk ⟨eD, sm⟩ ⟨rfl, c, hc, rfl⟩
      have hcx : absL[k]? = some c := by
        have e : (S absL).cps[k]? = absL[k]? := by
          show absL.toArray[k]? = _
          simp
        rw [← e]
        exact hc
      refine ⟨rfl, _, rfl, ?_⟩
      refine ⟨_, rfl, t, _, 0, _, rfl, rfl, SqT.of (sm _ _ hT), atI_nat (j := 0) rfl, _, rfl, t, _, 1, _, rfl, rfl, SqT.of (sm _ _ hT), atI_nat (j := 1) rfl, S one, S two, rfl, rfl, small_le (by rw [S_len, S_len]; omega), ?_⟩
      rw [S_cat]
      refine ⟨c, S (one ++ two), rfl, rfl, _, rfl, ?_⟩
      rw [take_snoc hcx, off2_snoc]
      by_cases hm : c ∈ one ++ two
      · rw [decide_eq_true (show c ∈ (S (one ++ two)).cps.toList from hm), if_pos hm]
        exact ⟨eD, sm⟩
      · rw [decide_eq_false (show ¬ c ∈ (S (one ++ two)).cps.toList from hm), if_neg hm]
        refine ⟨_, rfl, _, eD, ?_, ?_, Same.mut sm hD⟩
        · rw [len_sg]
          have h1 := List.length_filter_le (fun c => !decide (c ∈ one ++ two)) (absL.take k)
          have h2 : (absL.take k).length ≤ 30 := by
            rw [List.length_take]
            exact Nat.min_le_right _ _
          exact small1000 (by unfold off2; omega)
        · rw [upd_same, sgs_snoc]
          rfl
    rintro H' ⟨eD, sm⟩
    have e : (S absL).cps.size = absL.length := S_len absL
    rw [e, List.take_of_length_le (Nat.le_refl _)] at eD
    exact q H' D sm hD eD

/-! ### what the law makes -/
theorem at_mem {xs : List Int} {k : Int} (h0 : 0 ≤ k) (h1 : k < (xs.length : Int)) : ∃ m, m ∈ xs ∧ atI (Ints xs) k = some (.int m) := by
  obtain ⟨j, rfl⟩ : ∃ j : Nat, k = (j : Int) := ⟨k.toNat, by omega⟩
  have hj : j < xs.length := by omega
  exact ⟨xs[j], List.getElem_mem hj, atI_nat (by rw [List.getElem?_map, List.getElem?_eq_getElem hj]; rfl)⟩
theorem at_sg {xs : List Nat} {k : Int} (h0 : 0 ≤ k) (h1 : k < (xs.length : Int)) : ∃ c, c ∈ xs ∧ atI (Sgs xs) k = some (sg c) := by
  obtain ⟨j, rfl⟩ : ∃ j : Nat, k = (j : Int) := ⟨k.toNat, by omega⟩
  have hj : j < xs.length := by omega
  exact ⟨xs[j], List.getElem_mem hj, atI_nat (by rw [List.getElem?_map, List.getElem?_eq_getElem hj]; rfl)⟩
theorem bad_tape {n k : Nat} {tp r : List Int} {c : Int} (ht : Tape n tp) (hk : k ≤ tp.length) (hl : tp.length ≤ 40) (hc : c < 0 ∨ (n : Int) + 2 ≤ c) : BadAt n (tp.take k ++ [c] ++ tp.drop k ++ r) k := by
  have tl : (tp.take k).length = k := by rw [List.length_take]; omega
  have e : (tp.take k ++ [c] ++ tp.drop k ++ r)[k]? = some c := by
    rw [List.append_assoc, List.append_assoc, List.getElem?_append_right (by omega), tl, Nat.sub_self]
    rfl
  refine ⟨(List.getElem?_eq_some_iff.mp e).1, fun z => ?_, fun i hi => ⟨by omega, fun x hx => ?_⟩⟩
  · have := z.2 _ e
    omega
  · rw [List.append_assoc, List.append_assoc, List.getElem?_append_left (by omega)] at hx
    exact ht.2 x (List.mem_of_mem_take (List.mem_of_getElem? hx))
theorem bad_long {n : Nat} {r : List Int} (h : r ≠ []) : BadAt n (List.replicate 200 0 ++ r) 200 := by
  have hl : 0 < r.length := List.length_pos_iff.mpr h
  refine ⟨by rw [List.length_append, List.length_replicate]; omega, fun z => z.1 rfl, fun i hi => ⟨by omega, fun x hx => ?_⟩⟩
  rw [List.getElem?_append_left (by rw [List.length_replicate]; exact hi)] at hx
  rw [List.eq_of_mem_replicate (List.mem_of_getElem? hx)]
  omega
theorem bad_text {one two tx r : List Nat} {c k : Nat} (h : Stands one two tx) (hk : k ≤ tx.length) (hc : c ∉ one ++ two) : BadTx one two (tx.take k ++ [c] ++ tx.drop k ++ r) k := by
  have tl : (tx.take k).length = k := by rw [List.length_take]; omega
  have e : (tx.take k ++ [c] ++ tx.drop k ++ r)[k]? = some c := by
    rw [List.append_assoc, List.append_assoc, List.getElem?_append_right (by omega), tl, Nat.sub_self]
    rfl
  refine ⟨⟨c, e, fun z => hc (List.mem_append_left _ z), fun z => hc (List.mem_append_right _ z)⟩, fun i hi x hx => ?_⟩
  rw [List.append_assoc, List.append_assoc, List.getElem?_append_left (by omega)] at hx
  exact h x (List.mem_of_mem_take (List.mem_of_getElem? hx))
/-! ### what stays -/
def StayL (H H' : Hp) : Prop := ∀ b o, H b = some o → (∀ xs, o ≠ .lst xs) → H' b = some o
theorem StayL.same {H H' : Hp} (s : Same H H') : StayL H H' := fun b o h _ => s b o h
theorem StayL.keep {H H' : Hp} {d : Addr} {xs : List V} (k : Keep d H H') (e : H d = some (.lst xs)) : StayL H H' := fun b o h n => k b o (fun z => by
  rw [z, e] at h
  exact n xs (Option.some.inj h).symm) h
theorem StayL.put {H : Hp} {d : Addr} {xs : List V} {o : HO} (e : H d = some (.lst xs)) : StayL H (upd H d o) := StayL.keep (d := d) Keep.upd e
theorem tabs_stay {T : List (Addr × Str)} {H H' : Hp} (h : LamX.Tabs T H) (s : StayL H H') : LamX.Tabs T H' := fun p hp => by
  obtain ⟨ps, h1, h2, h3⟩ := h p hp
  refine ⟨ps, s _ _ h1 (fun xs z => by cases z), h2, fun pos cv hc => ?_⟩
  obtain ⟨c', e1, e2⟩ := h3 pos cv hc
  exact ⟨c', e1, s _ _ e2 codeO_nl⟩
structure Base3 (TTs : List (Addr × Str)) (t d : Addr) (one two : List Nat) (Ls : List (Addr × List Int)) (H : Hp) (ds : List Int) : Prop where
  tt : LamX.Tabs TTs H
  ss : SetsAt H t one two
  dd : H d = some (.lst (Ints ds))
  ls : ∀ p ∈ Ls, H p.1 = some (.lst (Ints p.2)) ∧ p.1 ≠ d
section
variable {TTs : List (Addr × Str)} {t d : Addr} {one two : List Nat} {Ls : List (Addr × List Int)} {H H' : Hp} {ds ds' : List Int}
theorem Base3.same (B : Base3 TTs t d one two Ls H ds) (sm : Same H H') : Base3 TTs t d one two Ls H' ds :=
  ⟨tabs_stay B.tt (.same sm), sm _ _ B.ss, sm _ _ B.dd, fun p hp => ⟨sm _ _ (B.ls p hp).1, (B.ls p hp).2⟩⟩
theorem Base3.keep (B : Base3 TTs t d one two Ls H ds) (kp : Keep d H H') (e : H' d = some (.lst (Ints ds'))) : Base3 TTs t d one two Ls H' ds' :=
  ⟨tabs_stay B.tt (.keep kp B.dd), kp _ _ (ne_of B.ss B.dd (by intro z; cases z)) B.ss, e, fun p hp => ⟨kp _ _ (B.ls p hp).2 (B.ls p hp).1, (B.ls p hp).2⟩⟩
theorem Base3.ext (B : Base3 TTs t d one two Ls H ds) (x : LamX.ExtN H H') (T' : LamX.Tabs TTs H') : Base3 TTs t d one two Ls H' ds :=
  ⟨T', x _ _ B.ss (fun _ z => by cases z), x _ _ B.dd (fun _ z => by cases z), fun p hp => ⟨x _ _ (B.ls p hp).1 (fun _ z => by cases z), (B.ls p hp).2⟩⟩
theorem Base3.new (B : Base3 TTs t d one two Ls H ds) {b : Addr} {o : HO} (h : H b = none) : Base3 TTs t d one two Ls (upd H b o) ds := B.same (Same.new h)
theorem Base3.more (B : Base3 TTs t d one two Ls H ds) {b : Addr} {xs : List Int} (e : H b = some (.lst (Ints xs))) (n : b ≠ d) : Base3 TTs t d one two ((b, xs) :: Ls) H ds :=
  ⟨B.tt, B.ss, B.dd, fun p hp => by
    rcases List.mem_cons.mp hp with rfl | hp
    · exact ⟨e, n⟩
    · exact B.ls p hp⟩
theorem Base3.less (B : Base3 TTs t d one two Ls H ds) {Ms : List (Addr × List Int)} (h : ∀ p ∈ Ms, p ∈ Ls) : Base3 TTs t d one two Ms H ds := ⟨B.tt, B.ss, B.dd, fun p hp => B.ls p (h p hp)⟩
/-- L is none of them -/
def Off3 (L d : Addr) (Ls : List (Addr × List Int)) : Prop := d ≠ L ∧ ∀ p ∈ Ls, p.1 ≠ L
theorem Base3.fresh (B : Base3 TTs t d one two Ls H ds) {L : Addr} (h : H L = none) : Off3 L d Ls := ⟨ne_of_none B.dd h, fun p hp => ne_of_none (B.ls p hp).1 h⟩
theorem Base3.put (B : Base3 TTs t d one two Ls H ds) {L : Addr} {xs : List V} {o : HO} (e : H L = some (.lst xs)) (f : Off3 L d Ls) : Base3 TTs t d one two Ls (upd H L o) ds :=
  ⟨tabs_stay B.tt (.put e), by
    unfold SetsAt
    rw [upd_ne (ne_of B.ss e (by intro z; cases z))]
    exact B.ss, by rw [upd_ne f.1]; exact B.dd, fun p hp => ⟨by rw [upd_ne (f.2 p hp)]; exact (B.ls p hp).1, (B.ls p hp).2⟩⟩
end
/-! ### works, each known -/
def Wk (n : Nat) (A : Hp → Addr → Prop) (e0 e1 : List Expr) (H : Hp) (f : Addr) : Prop :=
  (∀ H'', ExtL H H'' → A H'' f) ∨ (∃ e, e ∈ e0 ∧ Live0 H qLaw (cellsL n) f e) ∨ (∃ e, e ∈ e1 ∧ Live1 H qLaw (cellsL n) f e)
theorem Wk.to {n : Nat} {A : Hp → Addr → Prop} {e0 e1 g0 g1 : List Expr} {H H' : Hp} {f : Addr} (h : Wk n A e0 e1 H f) (s : ExtL H H') (s0 : ∀ e ∈ e0, e ∈ g0) (s1 : ∀ e ∈ e1, e ∈ g1) : Wk n A g0 g1 H' f := by
  rcases h with h | ⟨e, he, h⟩ | ⟨e, he, h⟩
  · exact .inl fun H'' x => h H'' (s.trans x)
  · exact .inr (.inl ⟨e, s0 e he, h.to s⟩)
  · exact .inr (.inr ⟨e, s1 e he, h.to s⟩)
structure WL (n : Nat) (A : Hp → Addr → Prop) (e0 e1 : List Expr) (m : Nat) (H : Hp) (L : Addr) (gs : List Addr) : Prop where
  lst : H L = some (.lst (gs.map V.ref))
  len : gs.length ≤ m
  mem : ∀ f ∈ gs, Wk n A e0 e1 H f
section
variable {n m : Nat} {A : Hp → Addr → Prop} {e0 e1 : List Expr} {H H' : Hp} {L p : Addr} {gs hs : List Addr}
theorem WL.ext (W : WL n A e0 e1 m H L gs) (x : LamX.ExtN H H') : WL n A e0 e1 m H' L gs :=
  ⟨x _ _ W.lst (fun _ z => by cases z), W.len, fun f hf => (W.mem f hf).to (.ext x) (fun _ h => h) (fun _ h => h)⟩
theorem WL.same (W : WL n A e0 e1 m H L gs) (x : Same H H') : WL n A e0 e1 m H' L gs := W.ext (LamX.ExtN.of x)
theorem WL.size (W : WL n A e0 e1 m H L gs) (h : m ≤ 40) : (gs.map V.ref).length ≤ 40 := by
  rw [List.length_map]
  exact Nat.le_trans W.len h
/-- a longer one, anew -/
theorem WL.cat (W : WL n A e0 e1 m H L gs) {g0 g1 : List Expr} (hp : H p = none) (h0 : ∀ e ∈ e0, e ∈ g0) (h1 : ∀ e ∈ e1, e ∈ g1) (hh : ∀ f ∈ hs, Wk n A g0 g1 H f) : WL n A g0 g1 (m + hs.length) (upd H p (.lst (gs.map V.ref ++ hs.map V.ref))) p (gs ++ hs) := by
  have s : ExtL H (upd H p (.lst (gs.map V.ref ++ hs.map V.ref))) := .same (Same.new hp)
  refine ⟨by rw [upd_same, List.map_append], by rw [List.length_append]; have := W.len; omega, fun f hf => ?_⟩
  rcases List.mem_append.mp hf with hf | hf
  · exact (W.mem f hf).to s h0 h1
  · exact (hh f hf).to s (fun _ h => h) (fun _ h => h)
/-- one more, at its end -/
theorem WL.app (W : WL n A e0 e1 m H L gs) {g1 : List Expr} {f : Addr} (h1 : ∀ e ∈ e1, e ∈ g1) (hf : Wk n A e0 g1 H f) : WL n A e0 g1 (m + 1) (upd H L (.lst (gs.map V.ref ++ [.ref f]))) L (gs ++ [f]) := by
  have s : ExtL H (upd H L (.lst (gs.map V.ref ++ [.ref f]))) := .put W.lst
  refine ⟨by rw [upd_same, List.map_append]; rfl, by rw [List.length_append]; have := W.len; simp; omega, fun g hg => ?_⟩
  rcases List.mem_append.mp hg with hg | hg
  · exact (W.mem g hg).to s (fun _ h => h) h1
  · rw [List.mem_singleton.mp hg]
    exact hf.to s (fun _ h => h) (fun _ h => h)
end
/-! ### a work is refused as it is due -/
def Fine (T : Txt K mg) (P : Program) (w : World) (base : Heap) (G : Hp) (f : Addr) (word : Str) (val : V) : Prop :=
  ∃ tl : XK → VK → Prop, Acts P w K mg base 6 G f tl ∧ ∀ (E' : XK) (Q' : VK), (∀ C d H', RefOk T word val C d H' → Same G H' → E' C d H') → tl E' Q'
section
variable {T : Txt K mg} {G : Hp} {f : Addr} {j : Nat} {val : V} {n : Nat} {tp : List Int} {st : Int}
theorem fine_t (h : Acts P w K mg base 6 G f (fun E _ => XOut G E T.X_BadTape.C "at" (.int (j : Nat)))) : Fine T P w base G f "tape" (.int (j : Nat)) := ⟨_, h, fun _ _ hE _ _ sm _ ed => hE _ _ _ (.tape ed) sm⟩
theorem fine_s (h : Acts P w K mg base 6 G f (fun E _ => XOut G E T.X_NoSign.C "at" (.int (j : Nat)))) : Fine T P w base G f "sign" (.int (j : Nat)) := ⟨_, h, fun _ _ hE _ _ sm _ ed => hE _ _ _ (.sign ed) sm⟩
theorem fine_n (h : Acts P w K mg base 6 G f (fun E _ => NOut G E T.X_BadNumber.C)) : Fine T P w base G f "number" val := ⟨_, h, fun _ _ hE _ sm => hE _ _ _ .number sm⟩
theorem fine_tt (h : Acts P w K mg base 6 G f (fun E _ => TSt T n tp st G E)) (hb : BadAt n tp j) : Fine T P w base G f "tape" (.int (j : Nat)) := ⟨_, h, fun _ _ hE => .inl ⟨j, hb, fun _ _ sm _ ed => hE _ _ _ (.tape ed) sm⟩⟩
theorem fine_tn (h : Acts P w K mg base 6 G f (fun E _ => TSt T n tp st G E)) (ht : Tape n tp) (hs : ¬ Bit st) : Fine T P w base G f "number" val := ⟨_, h, fun _ _ hE => .inr ⟨ht, hs, fun _ sm => hE _ _ _ .number sm⟩⟩
end

/-! ### the law -/
def spLawT (K : PySem.W.Frag) (Ps : List Addr) : Sp := fun vs H Q _ => ∃ (a : Addr) (ns : List Int), vs = [.ref a] ∧ SqL K H a (ns.map V.int) ∧ ns.length ≤ 63 ∧ (∀ P ∈ Ps, H P = some (.tbl #[])) ∧ ∀ H', Q (.bl true) H'
theorem ok_law (T : Txt K mg) (TB1 : LamX.TabB base mg T.c_l_works T.P_l_works) (TB : LamX.TabB base mg T.c_law T.P_law) (hne : T.P_law ≠ T.P_l_works) : FnOk P w K mg base CX0 8 T.a_law T.d_law ["_law_script"] (spLawT K [T.P_l_works, T.P_law]) := by
  have hNL : ∀ x ∈ (["_law_sets_here", "_law_bad", "_law_tape_here", "_law_none", "_law_state", "_law_text_here", "_law_most"] : List Str), (defScope s_law).names.lookup x = some .cell := by decide +kernel
  obtain ⟨TTs, hTTs⟩ : ∃ TTs : List (Addr × Str), TTs = [(T.P_law, qLaw), (T.P_l_works, qWorks)] := ⟨_, rfl⟩
  have hm : (T.P_law, qLaw) ∈ TTs := by rw [hTTs]; simp
  have hmW : (T.P_l_works, qWorks) ∈ TTs := by rw [hTTs]; simp
  have hu : ∀ p ∈ TTs, p.1 = T.P_law → p.2 = qLaw := fun p hp e => by
    rw [hTTs] at hp
    rcases List.mem_cons.mp hp with rfl | hp
    · rfl
    · cases List.mem_singleton.mp hp
      exact absurd e.symm hne
  have huW : ∀ p ∈ TTs, p.1 = T.P_l_works → p.2 = qWorks := fun p hp e => by
    rw [hTTs] at hp
    rcases List.mem_cons.mp hp with rfl | hp
    · exact absurd e hne
    · cases List.mem_singleton.mp hp
      rfl
  refine T.FC_law.ok sc_law (fun vs H Q E h => ?_) (fun A outer s H vs Q E hr h => ?_)
  · obtain ⟨a, ns, rfl, _⟩ := h
    rfl
  · obtain ⟨sa, ns, rfl, hS, hn, hP, q⟩ := h
    have TT : LamX.Tabs TTs H := fun p hp => by
      rw [hTTs] at hp
      rcases List.mem_cons.mp hp with rfl | hp
      · exact LamX.TabS.nil (hP _ (by simp))
      · cases List.mem_singleton.mp hp
        exact LamX.TabS.nil (hP _ (by simp))
    refine ⟨_,
    (pss_cons (ps_set (i := 1) sc_law.nd rfl (Or.inl rfl) (pe_call (ok_l_dice T) (hr.mono (by decide)) (by rfl) T.g_l_dice T.F_l_dice.kp T.b_l_dice .nil pass0 (pa_cons (pv 0) (pa_cons pe_int pa_nil)))) 
    (pss_cons (ps_set (i := 10) sc_law.nd rfl (Or.inr rfl) (pe_call (ok_l_sets T) (hr.mono (by decide)) (by rfl) T.g_l_sets T.F_l_sets.kp T.b_l_sets .nil pass0 (pa_cons (pv 1) pa_nil))) 
    (pss_cons (ps_set (i := 12) sc_law.nd rfl (Or.inr rfl) (pe_call (ok_l_tape T) (hr.mono (by decide)) (by rfl) T.g_l_tape T.F_l_tape.kp T.b_l_tape .nil pass0 (pa_cons (pv 1) (pa_cons (pv 10) (pa_cons pe_int pa_nil))))) 
    (pss_cons (ps_set (i := 2) sc_law.nd rfl (Or.inr rfl) (pe_call (ok_l_offK T) (hr.mono (by decide)) (by rfl) T.g_l_off T.F_l_off.kp T.b_l_off .nil pass0 (pa_cons (pv 1) (pa_cons (pe_op op_add (pe_callB call_len_seq (by rfl) T.m_len PySem.boot_len (pa_cons (pv 12) pa_nil)) pe_int) pa_nil)))) 
    (pss_cons (ps_set (i := 3) sc_law.nd rfl (Or.inl rfl) (pe_ix ix_list (pe_lst (pa_cons (pe_un un_neg pe_int) (pa_cons (pe_op op_add (pe_callB call_len_str (by rfl) T.m_len PySem.boot_len (pa_cons (pe_ix ix_tup (pv 10) pe_int (fun _ _ => rfl)) pa_nil)) pe_int) (pa_cons (pe_op op_pow pe_int pe_int) (pa_cons (pe_un un_neg (pe_op op_pow pe_int pe_int)) pa_nil))))) (pe_call (ok_l_offK T) (hr.mono (by decide)) (by rfl) T.g_l_off T.F_l_off.kp T.b_l_off .nil pass0 (pa_cons (pv 1) (pa_cons pe_int pa_nil))) (fun _ _ => rfl))) 
    (pss_cons (ps_set (i := 7) sc_law.nd rfl (Or.inr rfl) (pe_op op_cat (pe_op op_cat (pe_op op_cat (pe_slice sl_list (pv 12) po_none (po_some (pv 2))) (pe_lst (pa_cons (pv 3) pa_nil))) (pe_slice sl_list (pv 12) (po_some (pv 2)) po_none)) (pe_op op_rep (pe_lst (pa_cons (pe_un un_neg pe_int) pa_nil)) (pe_call (ok_l_offK T) (hr.mono (by decide)) (by rfl) T.g_l_off T.F_l_off.kp T.b_l_off .nil pass0 (pa_cons (pv 1) (pa_cons pe_int pa_nil)))))) 
    (C8.pss_cut (ps_if (pt_cmpR op_eq (pe_call (ok_l_offK T) (hr.mono (by decide)) (by rfl) T.g_l_off T.F_l_off.kp T.b_l_off .nil pass0 (pa_cons (pv 1) (pa_cons pe_int pa_nil))) pe_int (nomark _)) 
      (pss_cons (ps_set (i := 7) sc_law.nd rfl (Or.inr rfl) (pe_op op_cat (pe_op op_rep (pe_lst (pa_cons pe_int pa_nil)) pe_int) (pe_slice sl_list (pe_lst (pa_cons (pe_call (ok_l_offK T) (hr.mono (by decide)) (by rfl) T.g_l_off T.F_l_off.kp T.b_l_off .nil pass0 (pa_cons (pv 1) (pa_cons pe_int pa_nil))) (pa_cons (pe_un un_neg pe_int) pa_nil))) po_none (po_some (pe_op op_add pe_int (pe_call (ok_l_offK T) (hr.mono (by decide)) (by rfl) T.g_l_off T.F_l_off.kp T.b_l_off .nil pass0 (pa_cons (pv 1) (pa_cons pe_int pa_nil)))))))) 
      (pss_one (ps_set (i := 2) sc_law.nd rfl (Or.inr rfl) pe_int))) pss_nil) 
    (pss_cons (ps_set (i := 11) sc_law.nd rfl (Or.inr rfl) (pe_ix ix_list (pe_lst (pa_cons (pe_un un_neg pe_int) (pa_cons pe_int (pa_cons (pe_op op_pow pe_int pe_int) (pa_cons (pe_un un_neg (pe_op op_pow pe_int pe_int)) pa_nil))))) (pe_call (ok_l_offK T) (hr.mono (by decide)) (by rfl) T.g_l_off T.F_l_off.kp T.b_l_off .nil pass0 (pa_cons (pv 1) (pa_cons pe_int pa_nil))) (fun _ _ => rfl))) 
    (pss_cons (ps_set (i := 4) sc_law.nd rfl (Or.inl rfl) (pe_op op_cat (pe_call (ok_l_works (P := P) (w := w) T TB1) (hr.mono (by decide)) (by rfl) T.g_l_works T.F_l_works.kp T.b_l_works .nil pass0 (pa_cons (pv 10) (pa_cons (pv 7) (pa_cons (pv 11) pa_nil)))) (pe_lst (pa_cons (pe_lam0 (T := TTs) TB rfl hm hu rfl rfl (by show lamFreeB (defScope s_law) _ = true; decide +kernel)) (pa_cons (pe_lam1 (T := TTs) TB rfl hm hu rfl pe_int rfl (by show lamFreeB (defScope s_law) _ = true; decide +kernel)) pa_nil))))) 
    (pss_cons (ps_set (i := 4) sc_law.nd rfl (Or.inl rfl) (pe_op op_cat (pv 4) (pe_lst (pa_cons (pe_lam1 (T := TTs) TB rfl hm hu rfl pe_int rfl (by show lamFreeB (defScope s_law) _ = true; decide +kernel)) (pa_cons (pe_lam1 (T := TTs) TB rfl hm hu rfl pe_int rfl (by show lamFreeB (defScope s_law) _ = true; decide +kernel)) pa_nil))))) 
    (pss_cons (ps_expr (pe_bm PySem.F.plainAttrs_list PySem.F.slot_list_append PySem.F.type_list_append mt_append (pv 4) (pa_cons (pe_lam1 (T := TTs) TB rfl hm hu rfl pe_int rfl (by show lamFreeB (defScope s_law) _ = true; decide +kernel)) pa_nil))) 
    (pss_cons (ps_if (pt_cmpR (op_neD hr.units) (pe_lcN (ns := ["_law_sets_here", "_law_bad", "_law_tape_here", "_law_none", "_law_state", "_law_text_here", "_law_most"]) (own := [("_law_work", 14)]) (i0 := 14) rfl sc_law.nd (pv 4) (blkOk_by (own := [("_law_work", 14)]) (N := n_law) (sc := (defScope s_law)) (by decide +kernel)) (by decide) hNL (fun _ => rfl) (by decide +kernel) (fun _ _ _ _ _ => (pg_name (i := 14) sc_law.nd rfl (Or.inl rfl))) (fun _ _ _ _ _ => (pts_one (pt_not (pt_val (pe_call (ok_l_refused (P := P) (w := w) (base := base) T) (hr.mono (by decide)) (by rfl) T.g_l_refused T.F_l_refused.kp T.b_l_refused .nil pass0 (pa_cons (pv 14) (pa_cons pe_str (pa_cons (pv 2) pa_nil))))))))) (pe_lst pa_nil) (nomark _)) 
      (pss_one (ps_ret pe_bl)) pss_nil) 
    (pss_cons (ps_set (i := 13) sc_law.nd rfl (Or.inr rfl) (pe_call (ok_l_text T) (hr.mono (by decide)) (by rfl) T.g_l_text T.F_l_text.kp T.b_l_text .nil pass0 (pa_cons (pv 1) (pa_cons (pv 10) (pa_cons pe_int pa_nil))))) 
    (pss_cons (ps_set (i := 5) sc_law.nd rfl (Or.inr rfl) (pe_call (ok_l_offK T) (hr.mono (by decide)) (by rfl) T.g_l_off T.F_l_off.kp T.b_l_off .nil pass0 (pa_cons (pv 1) (pa_cons (pe_op op_add (pe_callB call_len_str (by rfl) T.m_len PySem.boot_len (pa_cons (pv 13) pa_nil)) pe_int) pa_nil)))) 
    (pss_cons (ps_set (i := 6) sc_law.nd rfl (Or.inl rfl) (pe_call (ok_l_absent T) (hr.mono (by decide)) (by rfl) T.g_l_absent T.F_l_absent.kp T.b_l_absent .nil pass0 (pa_cons (pv 10) pa_nil))) 
    (pss_cons (ps_set (i := 9) sc_law.nd rfl (Or.inr rfl) (pe_op op_add_str (pe_op op_add_str (pe_op op_add_str (pe_slice sl_str (pv 13) po_none (po_some (pv 5))) (pe_ix ix_list (pv 6) (pe_call (ok_l_offK T) (hr.mono (by decide)) (by rfl) T.g_l_off T.F_l_off.kp T.b_l_off .nil pass0 (pa_cons (pv 1) (pa_cons (pe_callB call_len_seq (by rfl) T.m_len PySem.boot_len (pa_cons (pv 6) pa_nil)) pa_nil))) (fun _ _ => rfl))) (pe_slice sl_str (pv 13) (po_some (pv 5)) po_none)) (pe_op op_mulS (pe_ix ix_list (pv 6) pe_int (fun _ _ => rfl)) (pe_call (ok_l_offK T) (hr.mono (by decide)) (by rfl) T.g_l_off T.F_l_off.kp T.b_l_off .nil pass0 (pa_cons (pv 1) (pa_cons pe_int pa_nil)))))) 
    (pss_cons (ps_set (i := 4) sc_law.nd rfl (Or.inl rfl) (pe_lst (pa_cons (pe_lam0 (T := TTs) TB rfl hm hu rfl rfl (by show lamFreeB (defScope s_law) _ = true; decide +kernel)) (pa_cons (pe_lam1 (T := TTs) TB rfl hm hu rfl pe_int rfl (by show lamFreeB (defScope s_law) _ = true; decide +kernel)) pa_nil)))) 
    (pss_cons (ps_if (pt_cmpR (op_neD hr.units) (pe_lcN (ns := ["_law_sets_here", "_law_bad", "_law_tape_here", "_law_none", "_law_state", "_law_text_here", "_law_most"]) (own := [("_law_work", 14)]) (i0 := 14) rfl sc_law.nd (pv 4) (blkOk_by (own := [("_law_work", 14)]) (N := n_law) (sc := (defScope s_law)) (by decide +kernel)) (by decide) hNL (fun _ => rfl) (by decide +kernel) (fun _ _ _ _ _ => (pg_name (i := 14) sc_law.nd rfl (Or.inl rfl))) (fun _ _ _ _ _ => (pts_one (pt_not (pt_val (pe_call (ok_l_refused (P := P) (w := w) (base := base) T) (hr.mono (by decide)) (by rfl) T.g_l_refused T.F_l_refused.kp T.b_l_refused .nil pass0 (pa_cons (pv 14) (pa_cons pe_str (pa_cons (pv 5) pa_nil))))))))) (pe_lst pa_nil) (nomark _)) 
      (pss_one (ps_ret pe_bl)) pss_nil) 
    (pss_cons (ps_set (i := 8) sc_law.nd rfl (Or.inr rfl) (pe_ix ix_list (pe_lst (pa_cons (pe_un un_neg pe_int) (pa_cons pe_int (pa_cons (pe_op op_pow pe_int pe_int) pa_nil)))) (pe_call (ok_l_offK T) (hr.mono (by decide)) (by rfl) T.g_l_off T.F_l_off.kp T.b_l_off .nil pass0 (pa_cons (pv 1) (pa_cons pe_int pa_nil))) (fun _ _ => rfl))) 
    (pss_cons (ps_set (i := 4) sc_law.nd rfl (Or.inl rfl) (pe_op op_cat (pe_call (ok_l_works (P := P) (w := w) T TB1) (hr.mono (by decide)) (by rfl) T.g_l_works T.F_l_works.kp T.b_l_works .nil pass0 (pa_cons (pv 10) (pa_cons (pv 12) (pa_cons (pv 11) pa_nil)))) (pe_lst (pa_cons (pe_lam0 (T := TTs) TB rfl hm hu rfl rfl (by show lamFreeB (defScope s_law) _ = true; decide +kernel)) pa_nil)))) 
    (pss_cons (ps_expr (pe_bm PySem.F.plainAttrs_list PySem.F.slot_list_append PySem.F.type_list_append mt_append (pv 4) (pa_cons (pe_lam1 (T := TTs) TB rfl hm hu rfl pe_int rfl (by show lamFreeB (defScope s_law) _ = true; decide +kernel)) pa_nil))) 
    (pss_cons (ps_set (i := 4) sc_law.nd rfl (Or.inl rfl) (pe_op op_cat (pv 4) (pe_lst (pa_cons (pe_lam1 (T := TTs) TB rfl hm hu rfl pe_int rfl (by show lamFreeB (defScope s_law) _ = true; decide +kernel)) (pa_cons (pe_lam1 (T := TTs) TB rfl hm hu rfl pe_int rfl (by show lamFreeB (defScope s_law) _ = true; decide +kernel)) pa_nil))))) 
    (pss_cons (ps_expr (pe_bm PySem.F.plainAttrs_list PySem.F.slot_list_append PySem.F.type_list_append mt_append (pv 4) (pa_cons (pe_lam1 (T := TTs) TB rfl hm hu rfl pe_int rfl (by show lamFreeB (defScope s_law) _ = true; decide +kernel)) pa_nil))) 
    (pss_cons (ps_if (pt_cmpR (op_neD hr.units) (pe_lcN (ns := ["_law_sets_here", "_law_bad", "_law_tape_here", "_law_none", "_law_state", "_law_text_here", "_law_most"]) (own := [("_law_work", 14)]) (i0 := 14) rfl sc_law.nd (pv 4) (blkOk_by (own := [("_law_work", 14)]) (N := n_law) (sc := (defScope s_law)) (by decide +kernel)) (by decide) hNL (fun _ => rfl) (by decide +kernel) (fun _ _ _ _ _ => (pg_name (i := 14) sc_law.nd rfl (Or.inl rfl))) (fun _ _ _ _ _ => (pts_one (pt_not (pt_val (pe_call (ok_l_refused (P := P) (w := w) (base := base) T) (hr.mono (by decide)) (by rfl) T.g_l_refused T.F_l_refused.kp T.b_l_refused .nil pass0 (pa_cons (pv 14) (pa_cons pe_str (pa_cons pe_int pa_nil))))))))) (pe_lst pa_nil) (nomark _)) 
      (pss_one (ps_ret pe_bl)) pss_nil) 
    (pss_one (ps_ret (pe_and (pe_callB call_isi (by rfl) T.m_isinstance (by decide +kernel) (pa_cons (pe_call (ok_p_least T) (hr.mono (by decide)) (by rfl) T.g_p_least T.F_p_least.kp T.b_p_least .nil pass0 (pa_cons (pv 10) (pa_cons (pv 13) (pa_cons pe_int pa_nil)))) (pa_cons (pe_bltn (v := .ty "list") (by rfl) T.m_list (by decide +kernel) rfl) pa_nil))) (pe_one (pe_callB call_isi (by rfl) T.m_isinstance (by decide +kernel) (pa_cons (pe_call (ok_p_trimmed T) (hr.mono (by decide)) (by rfl) T.g_p_trimmed T.F_p_trimmed.kp T.b_p_trimmed .nil pass0 (pa_cons (pv 10) (pa_cons (pv 12) (pa_cons pe_int pa_nil)))) (pa_cons (pe_bltn (v := .ty "list") (by rfl) T.m_list (by decide +kernel) rfl) pa_nil))))))))))))))))))))))))))))))), ?_⟩
    have small : ∀ {k : Nat}, k ≤ 1000 → k ≤ sizeLine := fun h => small_le (by omega)
    refine ⟨_, rfl, sa, ns, rfl, hS, hn, fun H1 d ds sm1 hd e1 hD => ?_⟩
    have T1 := tabs_stay TT (StayL.same sm1)
    refine ⟨_, rfl, d, ds, rfl, e1, hD, fun H2 t ds2 one two kp2 ht e2 hD2 eT hs => ?_⟩
    have B2 : Base3 TTs t d one two [] H2 ds2 := ⟨tabs_stay T1 (StayL.keep kp2 e1), eT, e2, fun _ z => nomatch z⟩
    have htp := hs.top
    have hps := hs.pos
    have hsm := hs.same
    refine ⟨_, rfl, _, rfl, d, t, ds2, one, two, 40, rfl, e2, hD2, eT, hs, by decide, by decide, fun H3 a ds3 tp kp3 ha e3 hD3 eA htape hl40 => ?_⟩
    have hl40 : tp.length ≤ 40 := by omega
    have B3 := (B2.keep kp3 e3).more eA (fun z => by rw [z, e2] at ha; cases ha)
    clear B2 T1 TT
    refine ⟨_, rfl, _, rfl, a, _, rfl, .inl (SqL.of eA), _, _, rfl, rfl, d, ds3, _, rfl, e3, hD3, by rw [List.length_map]; omega, by rw [List.length_map]; omega, fun at_ ds4 H4 ha0 ha1 hD4 kp4 e4 => ?_⟩
    rw [List.length_map] at ha1
    obtain ⟨kk, rfl⟩ : ∃ kk : Nat, at_ = (kk : Int) := ⟨at_.toNat, by omega⟩
    have hkk : kk ≤ tp.length := by omega
    have B4 := B3.keep kp4 e4
    clear B3 eA e3 e2 eT
    -- the odd code
    refine ⟨_, rfl, _, rfl, t, _, 0, _, rfl, rfl, SqT.of B4.ss, atI_nat (j := 0) rfl, _, rfl, small (by rw [S_len]; omega), _, _, rfl, rfl, ?_⟩
    refine ⟨_, _, rfl, rfl, ⟨by decide, by decide, by decide⟩, ?_⟩
    refine ⟨_, _, rfl, rfl, ⟨by decide, by decide, by decide⟩, _, rfl, ?_⟩
    refine ⟨(by show 4 ≤ sizeLine; decide), fun l hl => ?_⟩
    have B5 := B4.new (o := .lst (Ints [-1, (S one).length + 2, 10 ^ (9 : Int).toNat, -(10 ^ (9 : Int).toNat)])) hl
    have hdl := (B4.fresh hl).1
    refine ⟨_, rfl, d, ds4, 4, rfl, B5.dd, hD4, by decide, by decide, fun ko ds5 H5 ho0 ho1 hD5 kp5 e5 => ?_⟩
    obtain ⟨odd, hodd, eodd⟩ := at_mem (xs := [-1, (S one).length + 2, 10 ^ (9 : Int).toNat, -(10 ^ (9 : Int).toNat)]) ho0 ho1
    have hod : odd < 0 ∨ (one.length : Int) + 2 ≤ odd := by
      simp only [List.mem_cons, List.not_mem_nil, or_false, S_len] at hodd
      have z : (10 : Int) ^ (9 : Int).toNat = 1000000000 := by decide
      rw [z] at hodd
      omega
    refine ⟨l, _, ko, .int odd, rfl, rfl, SqL.of (kp5 l _ hdl.symm upd_same), eodd, ?_⟩
    have B6 := B5.keep kp5 e5
    clear B5 B4 hodd eodd ho0 ho1 hl hdl
    have eA6 := (B6.ls (a, tp) (by simp)).1
    -- the bad tape
    refine ⟨_, rfl, _, rfl, _, rfl, a, _, rfl, SqL.of eA6, fun z1 hz1 => ?_⟩
    have B7 := B6.new (o := .lst (cutV (Ints tp) none (some (kk : Int)))) hz1
    have ez1 : (upd H5 z1 (.lst (cutV (Ints tp) none (some (kk : Int))))) z1 = some (.lst (Ints (tp.take kk))) := by
      rw [upd_same, cutV_to ha0, Int.toNat_natCast, ← List.map_take]
    generalize upd H5 z1 (.lst (cutV (Ints tp) none (some (kk : Int)))) = H7 at B7 ez1 ⊢
    refine ⟨_, rfl, (by show 1 ≤ sizeLine; decide), fun l1 hl1 => ?_⟩
    have B8 := B7.new (o := .lst [.int odd]) hl1
    have ez18 := (Same.new (o := .lst [.int odd]) hl1) _ _ ez1
    have el1 := upd_same (H := H7) (a := l1) (o := .lst [.int odd])
    generalize upd H7 l1 (.lst [.int odd]) = H8 at B8 ez18 el1 ⊢
    have lk : (tp.take kk).length ≤ 40 := by rw [List.length_take]; omega
    have ld : (tp.drop kk).length ≤ 40 := by rw [List.length_drop]; omega
    refine ⟨z1, l1, _, _, rfl, rfl, ez18, el1, small (by rw [List.length_map]; simp; omega), fun y1 hy1 => ?_⟩
    have B9 := B8.new (o := .lst (Ints (tp.take kk) ++ [.int odd])) hy1
    have ey1 : (upd H8 y1 (.lst (Ints (tp.take kk) ++ [.int odd]))) y1 = some (.lst (Ints (tp.take kk ++ [odd]))) := by
      rw [upd_same, ints_app]
      rfl
    generalize upd H8 y1 (.lst (Ints (tp.take kk) ++ [.int odd])) = H9 at B9 ey1 ⊢
    refine ⟨_, rfl, _, rfl, _, rfl, a, _, rfl, SqL.of (B9.ls (a, tp) (by simp)).1, fun z2 hz2 => ?_⟩
    have B10 := B9.new (o := .lst (cutV (Ints tp) (some (kk : Int)) none)) hz2
    have ey10 := (Same.new (o := .lst (cutV (Ints tp) (some (kk : Int)) none)) hz2) _ _ ey1
    have ez2 : (upd H9 z2 (.lst (cutV (Ints tp) (some (kk : Int)) none))) z2 = some (.lst (Ints (tp.drop kk))) := by
      rw [upd_same, cutV_from ha0, Int.toNat_natCast, ← List.map_drop]
    generalize upd H9 z2 (.lst (cutV (Ints tp) (some (kk : Int)) none)) = H10 at B10 ey10 ez2 ⊢
    refine ⟨y1, z2, _, _, rfl, rfl, ey10, ez2, small (by rw [List.length_map, List.length_map, List.length_append]; simp; omega), fun y5 hy5 => ?_⟩
    have B11 := B10.new (o := .lst (Ints (tp.take kk ++ [odd]) ++ Ints (tp.drop kk))) hy5
    have hy5d : y5 ≠ d := fun z => by rw [z, B10.dd] at hy5; cases hy5
    have ey5 : (upd H10 y5 (.lst (Ints (tp.take kk ++ [odd]) ++ Ints (tp.drop kk)))) y5 = some (.lst (Ints (tp.take kk ++ [odd] ++ tp.drop kk))) := by
      rw [upd_same, ← ints_app]
    generalize upd H10 y5 (.lst (Ints (tp.take kk ++ [odd]) ++ Ints (tp.drop kk))) = H11 at B11 ey5 ⊢
    refine ⟨_, rfl, (by show 1 ≤ sizeLine; decide), fun l2 hl2 => ?_⟩
    have B12 := B11.new (o := .lst [.int (-1)]) hl2
    have ey52 := (Same.new (o := .lst [.int (-1)]) hl2) _ _ ey5
    have el2 := upd_same (H := H11) (a := l2) (o := .lst [.int (-1)])
    have hl2d : l2 ≠ d := fun z => by rw [z, B11.dd] at hl2; cases hl2
    generalize upd H11 l2 (.lst [.int (-1)]) = H12 at B12 ey52 el2 ⊢
    refine ⟨_, rfl, d, ds5, 2, rfl, B12.dd, hD5, by decide, by decide, fun k2 ds13 H13 h2 h2' hD13 kp13 e13 => ?_⟩
    have B13 := B12.keep kp13 e13
    refine ⟨l2, k2, _, rfl, rfl, kp13 _ _ hl2d el2, by omega, by omega, ?_, fun y6 hy6 => ?_⟩
    · rw [sizeLine_eq]
      simp only [List.length_cons, List.length_nil]
      omega
    have erep : (List.replicate k2.toNat ([.int (-1)] : List V)).flatten = Ints (List.replicate k2.toNat (-1)) := by
      generalize k2.toNat = m
      induction m with
      | zero => rfl
      | succ m ih => rw [List.replicate_succ, List.replicate_succ, List.flatten_cons, ih]; rfl
    have lr : (List.replicate k2.toNat (-1 : Int)).length ≤ 1 := by rw [List.length_replicate]; omega
    rw [erep]
    generalize List.replicate k2.toNat (-1 : Int) = rr at lr ⊢
    have B14 := B13.new (o := .lst (Ints rr)) hy6
    have ey514 := (Same.new (o := .lst (Ints rr)) hy6) _ _ (kp13 _ _ hy5d ey52)
    have ey6 := upd_same (H := H13) (a := y6) (o := .lst (Ints rr))
    generalize upd H13 y6 (.lst (Ints rr)) = H14 at B14 ey514 ey6 ⊢
    refine ⟨y5, y6, _, _, rfl, rfl, ey514, ey6, small (by rw [List.length_map, List.length_map, List.length_append, List.length_append]; simp; omega), fun Bd hBd => ?_⟩
    have B15 := B14.new (o := .lst (Ints (tp.take kk ++ [odd] ++ tp.drop kk) ++ Ints rr)) hBd
    have hBdd : Bd ≠ d := fun z => by rw [z, B14.dd] at hBd; cases hBd
    have eBd : (upd H14 Bd (.lst (Ints (tp.take kk ++ [odd] ++ tp.drop kk) ++ Ints rr))) Bd = some (.lst (Ints (tp.take kk ++ [odd] ++ tp.drop kk ++ rr))) := by
      rw [upd_same, ← ints_app]
    have hbad := bad_tape (r := rr) htape hkk hl40 hod
    have B16 := B15.more eBd hBdd
    generalize upd H14 Bd (.lst (Ints (tp.take kk ++ [odd] ++ tp.drop kk) ++ Ints rr)) = H16 at B16 ⊢
    generalize tp.take kk ++ [odd] ++ tp.drop kk ++ rr = bl at B16 hbad
    clear B15 B14 B13 B12 B11 B10 B9 B8 B7 B6 eA6 ez1 ez18 el1 ey1 ey10 ez2 ey5 ey52 el2 ey514 ey6 eBd hBd hBdd hy6 hy5 hy5d hl2 hl2d hz2 hy1 hl1 hz1 lr ld lk erep h2 h2' kp13 e13
    -- a long one
    refine ⟨fun σ H' => ∃ (j : Nat) (B' : Addr) (bl' ds' : List Int), σ = [some (.ref sa), some (.ref d), some (.int (j : Nat)), some (.int odd), none, none, none, some (.ref B'), none, none, some (.ref t), none, some (.ref a), none, none] ∧
      Base3 TTs t d one two [(B', bl'), (a, tp)] H' ds' ∧ Dice ds' ∧ BadAt one.length bl' j, ?_, ?_⟩
    · refine ⟨_, rfl, d, ds13, 4, rfl, B16.dd, hD13, by decide, by decide, fun k5 ds5 H5 h5 h5' hD5 kp5 e5 => ?_⟩
      have B5 := B16.keep kp5 e5
      refine ⟨rfl, _, rfl, ite2 (fun _ => ?_) (fun _ => ?_)⟩
      · refine ⟨(by show 1 ≤ sizeLine; decide), fun l1 hl1 => ?_⟩
        have B6 := B5.new (o := .lst [.int 0]) hl1
        have el1 := upd_same (H := H5) (a := l1) (o := .lst [.int 0])
        generalize upd H5 l1 (.lst [.int 0]) = H6 at B6 el1 ⊢
        refine ⟨l1, 200, _, rfl, rfl, el1, by decide, by decide, (by show 200 ≤ sizeLine; decide), fun y hy => ?_⟩
        have erep : (List.replicate (200 : Int).toNat ([.int 0] : List V)).flatten = Ints (List.replicate 200 0) := by
          show (List.replicate 200 ([.int 0] : List V)).flatten = Ints (List.replicate 200 0)
          generalize 200 = m
          induction m with
          | zero => rfl
          | succ m ih => rw [List.replicate_succ, List.replicate_succ, List.flatten_cons, ih]; rfl
        rw [erep]
        have lz : (List.replicate 200 (0 : Int)).length = 200 := List.length_replicate
        generalize hzz : List.replicate 200 (0 : Int) = zz at lz ⊢
        have B7 := B6.new (o := .lst (Ints zz)) hy
        have ey := upd_same (H := H6) (a := y) (o := .lst (Ints zz))
        have hyd : y ≠ d := fun z => by rw [z, B6.dd] at hy; cases hy
        generalize upd H6 y (.lst (Ints zz)) = H7 at B7 ey ⊢
        refine ⟨_, rfl, d, ds5, 2, rfl, B7.dd, hD5, by decide, by decide, fun ka ds8 H8 ha8 ha8' hD8 kp8 e8 => ?_⟩
        have B8 := B7.keep kp8 e8
        have ey8 := kp8 _ _ hyd ey
        refine ⟨_, rfl, (by show 2 ≤ sizeLine; decide), fun l2 hl2 => ?_⟩
        have B9 := B8.new (o := .lst (Ints [ka, -1])) hl2
        have ey9 := (Same.new (o := .lst (Ints [ka, -1])) hl2) _ _ ey8
        have el2 := upd_same (H := H8) (a := l2) (o := .lst (Ints [ka, -1]))
        have hl2d : l2 ≠ d := fun z => by rw [z, B8.dd] at hl2; cases hl2
        refine ⟨_, rfl, d, ds8, 2, rfl, B9.dd, hD8, by decide, by decide, fun kb ds10 H10 hb10 hb10' hD10 kp10 e10 => ?_⟩
        have B10 := B9.keep kp10 e10
        have ey10 := kp10 _ _ hyd ey9
        have el10 := kp10 _ _ hl2d el2
        refine ⟨_, _, rfl, rfl, _, rfl, l2, _, rfl, SqL.of el10, fun z hz => ?_⟩
        have ecut : cutV (Ints [ka, -1]) none (some (1 + kb)) = Ints (([ka, -1] : List Int).take (1 + kb).toNat) := by
          rw [cutV_to (by omega), ← List.map_take]
        rw [ecut]
        have lc : (([ka, -1] : List Int).take (1 + kb).toNat).length ≤ 2 := by rw [List.length_take]; simp; omega
        have nc : ([ka, -1] : List Int).take (1 + kb).toNat ≠ [] := by
          obtain ⟨m, hm⟩ : ∃ m : Nat, (1 + kb).toNat = m + 1 := ⟨kb.toNat, by omega⟩
          rw [hm]
          simp
        generalize ([ka, -1] : List Int).take (1 + kb).toNat = cc at lc nc ⊢
        have B11 := B10.new (o := .lst (Ints cc)) hz
        have ey11 := (Same.new (o := .lst (Ints cc)) hz) _ _ ey10
        have ez := upd_same (H := H10) (a := z) (o := .lst (Ints cc))
        generalize upd H10 z (.lst (Ints cc)) = H11 at B11 ey11 ez ⊢
        refine ⟨y, z, _, _, rfl, rfl, ey11, ez, small (by rw [List.length_map, List.length_map]; omega), fun Bn hBn => ?_⟩
        have eBn : (upd H11 Bn (.lst (Ints zz ++ Ints cc))) Bn = some (.lst (Ints (zz ++ cc))) := by
          rw [upd_same, ints_app]
        have hBnd : Bn ≠ d := fun z => by rw [z, B11.dd] at hBn; cases hBn
        exact ⟨200, Bn, zz ++ cc, ds10, rfl, ((B11.new hBn).less (Ms := [(a, tp)]) (by simp)).more eBn hBnd, hD10, by rw [← hzz]; exact bad_long nc⟩
      · exact ⟨kk, Bd, bl, ds5, rfl, B5, hD5, hbad⟩
    rintro σ H5 ⟨j, B', bl', ds5, rfl, B5, hD5, hbad⟩
    clear B16 hod hD13
    -- the state
    refine ⟨_, rfl, _, _, rfl, rfl, ⟨by decide, by decide, by decide⟩, ?_⟩
    refine ⟨_, _, rfl, rfl, ⟨by decide, by decide, by decide⟩, _, rfl, (by show 4 ≤ sizeLine; decide), fun l hl => ?_⟩
    have B6 := B5.new (o := .lst (Ints [-1, 2, 10 ^ (9 : Int).toNat, -(10 ^ (9 : Int).toNat)])) hl
    have hdl := (B5.fresh hl).1
    refine ⟨_, rfl, d, ds5, 4, rfl, B6.dd, hD5, by decide, by decide, fun ko ds7 H7 ho0 ho1 hD7 kp7 e7 => ?_⟩
    obtain ⟨st, hst, est⟩ := at_mem (xs := [-1, 2, 10 ^ (9 : Int).toNat, -(10 ^ (9 : Int).toNat)]) ho0 ho1
    have hst : ¬ Bit st := fun z => by
      simp only [List.mem_cons, List.not_mem_nil, or_false] at hst
      have y : (10 : Int) ^ (9 : Int).toNat = 1000000000 := by decide
      rw [y] at hst
      rcases z with rfl | rfl <;> omega
    refine ⟨l, _, ko, .int st, rfl, rfl, SqL.of (kp7 l _ hdl.symm upd_same), est, ?_⟩
    have B7 := B6.keep kp7 e7
    clear B6 B5 est ho0 ho1 hl hdl
    -- the works of the bad tape
    obtain ⟨A1, hA1⟩ : ∃ A1 : Hp → Addr → Prop, A1 = fun H'' f => H'' B' = some (.lst (Ints bl')) → Acts P w K mg base 6 H'' f (fun E _ => TSt T one.length bl' st H'' E) := ⟨_, rfl⟩
    refine ⟨_, rfl, _, rfl, _, rfl, t, B', one, two, bl', st, TTs, rfl, B7.ss, hs, (B7.ls (B', bl') (by simp)).1, hmW, huW, B7.tt, fun H8 p fs ext8 T8 hp ep hfl acts => ?_⟩
    have B8 := B7.ext ext8 T8
    have W8 : WL s.heap.objs.size A1 [] [] 20 H8 p fs := ⟨ep, hfl, fun f hf => .inl (by rw [hA1]; exact fun H'' x => acts f hf H'' x)⟩
    refine ⟨B8.tt, fun H9 f0 c0 ext9 _ T9 _ ef0 ec0 => ?_⟩
    have B9 := B8.ext ext9 T9
    have W9 := W8.ext ext9
    have L0 : Live0 H9 qLaw (cellsL s.heap.objs.size) f0 lamL0 := ⟨c0, ef0, ec0⟩
    refine ⟨B9.tt, fun H10 f1 c1 x1 ext10 _ T10 _ ef1 ec1 ex1 => ?_⟩
    have B10 := B9.ext ext10 T10
    have W10 := W9.ext ext10
    have L1 : Live1 H10 qLaw (cellsL s.heap.objs.size) f1 lamL1 := ⟨c1, x1, ef1, ec1, ex1⟩
    replace L0 := L0.to (.ext ext10)
    refine ⟨(by show 2 ≤ sizeLine; decide), fun l hl => ?_⟩
    have sl := Same.new (o := .lst [.ref f0, .ref f1]) hl
    have B11 := B10.same sl
    have W11 := W10.same sl
    replace L0 := L0.to (.same sl)
    replace L1 := L1.to (.same sl)
    have el := upd_same (H := H10) (a := l) (o := .lst [.ref f0, .ref f1])
    generalize upd H10 l (.lst [.ref f0, .ref f1]) = H11 at B11 W11 L0 L1 el ⊢
    refine ⟨p, l, _, _, rfl, rfl, W11.lst, el, small (by have := W11.size (by decide); simp; simp at this; omega), fun q1 hq1 => ?_⟩
    have B12 := B11.new (o := .lst (fs.map V.ref ++ [.ref f0, .ref f1])) hq1
    have W12 : WL s.heap.objs.size A1 [lamL0] [lamL1] 22 (upd H11 q1 (.lst (fs.map V.ref ++ [.ref f0, .ref f1]))) q1 (fs ++ [f0, f1]) := W11.cat (hs := [f0, f1]) (g0 := [lamL0]) (g1 := [lamL1]) hq1 (by simp) (by simp) (fun f hf => by
      simp only [List.mem_cons, List.not_mem_nil, or_false] at hf
      rcases hf with rfl | rfl
      · exact .inr (.inl ⟨_, by simp, L0⟩)
      · exact .inr (.inr ⟨_, by simp, L1⟩))
    generalize upd H11 q1 (.lst (fs.map V.ref ++ [.ref f0, .ref f1])) = H12 at B12 W12 ⊢
    generalize fs ++ [f0, f1] = fs at W12
    clear B11 W11 B10 W10 B9 W9 B8 W8 L0 L1 el
    -- two more
    refine ⟨_, rfl, B12.tt, fun H13 f2 c2 x2 ext13 _ T13 _ ef2 ec2 ex2 => ?_⟩
    have B13 := B12.ext ext13 T13
    have W13 := W12.ext ext13
    have L2 : Live1 H13 qLaw (cellsL s.heap.objs.size) f2 lamL2 := ⟨c2, x2, ef2, ec2, ex2⟩
    refine ⟨B13.tt, fun H14 f3 c3 x3 ext14 _ T14 _ ef3 ec3 ex3 => ?_⟩
    have B14 := B13.ext ext14 T14
    have W14 := W13.ext ext14
    have L3 : Live1 H14 qLaw (cellsL s.heap.objs.size) f3 lamL3 := ⟨c3, x3, ef3, ec3, ex3⟩
    replace L2 := L2.to (.ext ext14)
    refine ⟨(by show 2 ≤ sizeLine; decide), fun l hl => ?_⟩
    have sl := Same.new (o := .lst [.ref f2, .ref f3]) hl
    have B15 := B14.same sl
    have W15 := W14.same sl
    replace L2 := L2.to (.same sl)
    replace L3 := L3.to (.same sl)
    have el := upd_same (H := H14) (a := l) (o := .lst [.ref f2, .ref f3])
    generalize upd H14 l (.lst [.ref f2, .ref f3]) = H15 at B15 W15 L2 L3 el ⊢
    refine ⟨q1, l, _, _, rfl, rfl, W15.lst, el, small (by have := W15.size (by decide); simp; simp at this; omega), fun q2 hq2 => ?_⟩
    have B16 := B15.new (o := .lst (fs.map V.ref ++ [.ref f2, .ref f3])) hq2
    have of2 := B15.fresh hq2
    have W16 : WL s.heap.objs.size A1 [lamL0] [lamL1, lamL2, lamL3] 24 (upd H15 q2 (.lst (fs.map V.ref ++ [.ref f2, .ref f3]))) q2 (fs ++ [f2, f3]) := W15.cat (hs := [f2, f3]) (g0 := [lamL0]) (g1 := [lamL1, lamL2, lamL3]) hq2 (by simp) (by simp) (fun f hf => by
      simp only [List.mem_cons, List.not_mem_nil, or_false] at hf
      rcases hf with rfl | rfl
      · exact .inr (.inr ⟨_, by simp, L2⟩)
      · exact .inr (.inr ⟨_, by simp, L3⟩))
    generalize upd H15 q2 (.lst (fs.map V.ref ++ [.ref f2, .ref f3])) = H16 at B16 W16 ⊢
    generalize fs ++ [f2, f3] = fs at W16
    clear B15 W15 B14 W14 B13 W13 B12 W12 L2 L3 el
    -- one more
    refine ⟨_, rfl, .inl ⟨rfl, _, SqL.of W16.lst⟩, B16.tt, fun H17 f4 c4 x4 ext17 _ T17 _ ef4 ec4 ex4 => ?_⟩
    have B17 := B16.ext ext17 T17
    have W17 := W16.ext ext17
    have L4 : Live1 H17 qLaw (cellsL s.heap.objs.size) f4 lamL4 := ⟨c4, x4, ef4, ec4, ex4⟩
    refine ⟨q2, _, _, rfl, rfl, W17.lst, small1000 (by have := W17.size (by decide); omega), ?_⟩
    have B18 := B17.put (o := .lst (fs.map V.ref ++ [.ref f4])) W17.lst of2
    have W18 := W17.app (f := f4) (g1 := [lamL1, lamL2, lamL3, lamL4]) (fun e he => List.mem_append_left [lamL4] he) (.inr (.inr ⟨_, by simp, L4⟩))
    generalize upd H17 q2 (.lst (fs.map V.ref ++ [.ref f4])) = H18 at B18 W18 ⊢
    generalize fs ++ [f4] = fs at W18
    clear B17 W17 B16 W16 L4
    refine ⟨_, rfl, q2, _, rfl, W18.lst, fun D hDn cs C => ⟨fun _ G => Same (adopt cs (upd H18 D (.lst []))) G, Same.refl _, fun i G sm => sm _ _ (C.same _ _ ((Same.new hDn) _ _ W18.lst)), fun i z G hz sm => ?_, fun G sm => ?_⟩⟩
    · rw [List.getElem?_map] at hz
      obtain ⟨f, hf, rfl⟩ := Option.map_eq_some_iff.mp hz
      have s9 : Same H18 G := ((Same.new hDn).trans C.same).trans sm
      have BG := B18.same s9
      have cT : ∀ b, (cellsL s.heap.objs.size).lookup ("_law_sets_here" : Str) = some b → CellIn G b (.ref t) := fun b hb => C.at (fun b o e => sm _ _ (adopt_in e)) (i := 10) (by decide) rfl rfl hb
      have cB : ∀ b, (cellsL s.heap.objs.size).lookup ("_law_bad" : Str) = some b → CellIn G b (.ref B') := fun b hb => C.at (fun b o e => sm _ _ (adopt_in e)) (i := 7) (by decide) rfl rfl hb
      have cA : ∀ b, (cellsL s.heap.objs.size).lookup ("_law_tape_here" : Str) = some b → CellIn G b (.ref a) := fun b hb => C.at (fun b o e => sm _ _ (adopt_in e)) (i := 12) (by decide) rfl rfl hb
      have eB := (BG.ls (B', bl') (by simp)).1
      have eA := (BG.ls (a, tp) (by simp)).1
      have fine : Fine T P w base G f "tape" (.int (j : Nat)) := by
        rcases W18.mem f (List.mem_of_getElem? hf) with h | ⟨e, he, h⟩ | ⟨e, he, h⟩
        · rw [hA1] at h
          exact fine_tt (h G (.same s9) eB) hbad
        · have h := h.to (.same s9)
          cases List.mem_singleton.mp he
          exact fine_t (act_L0 (a := a) (tn := []) (tx := []) (tp := tp) (st := 0) (m := 0) T h cT cB BG.ss hs eB hbad)
        · have h := h.to (.same s9)
          simp only [List.mem_cons, List.not_mem_nil, or_false] at he
          rcases he with rfl | rfl | rfl | rfl
          · exact fine_t (act_L1 (a := a) (tn := []) (tx := []) (tp := tp) (st := 0) (m := 0) T h cT cB BG.ss hs eB hbad)
          · exact fine_t (act_L2 (tn := []) (tx := []) (st := 0) (m := 0) T h cT cA cB BG.ss hs eA htape eB hbad)
          · exact fine_t (act_L3 (a := a) (tn := []) (tx := []) (tp := tp) (st := 0) (m := 0) T h cT cB BG.ss hs eB hbad)
          · exact fine_t (act_L4 (a := a) (tn := []) (tx := []) (tp := tp) (st := 0) (m := 0) T h cT cB BG.ss hs eB hbad)
      obtain ⟨tl, hact, htl⟩ := fine
      exact ⟨_, rfl, _, rfl, f, "tape", .int (j : Nat), tl, rfl, hact, fun E' Q' hE => htl _ _ fun C d H' hR sm2 => hE _ _ _ hR fun H'' sm3 => ⟨true, rfl, rfl, (sm.trans sm2).trans sm3⟩⟩
    have back := C.back sm
    refine ⟨Nat.zero_le _, fun e he => ?_⟩
    have eD := back _ _ (upd_same (H := H18) (a := D) (o := .lst []))
    refine ⟨.list [], .list [], .lst (SqL.of ((Same.new he) _ _ eD)) .nil, .lst (SqL.of upd_same) .nil, by decide +kernel, by decide +kernel, _, rfl, ?_⟩
    rw [show PyData.eqv (.list []) (.list []) = true by decide +kernel]
    refine iteF ?_
    have B19 := B18.same (((Same.new hDn).trans back).trans (Same.new (o := .lst []) he))
    generalize upd (unadopt cs G) e (.lst []) = H19 at B19 ⊢
    clear B18 W18 back eD hDn C sm he
    -- the text
    refine ⟨_, rfl, _, rfl, d, t, ds7, one, two, 30, rfl, B19.dd, hD7, B19.ss, hs, by decide, by decide, fun H20 ds20 tx kp20 e20 hD20 hstd hl30 => ?_⟩
    have hl30 : tx.length ≤ 30 := by omega
    have B20 := B19.keep kp20 e20
    refine ⟨_, rfl, _, rfl, S tx, rfl, small (by rw [S_len]; omega), _, _, rfl, rfl, d, ds20, _, rfl, B20.dd, hD20, by rw [S_len]; omega, by rw [S_len]; omega, fun pl_ ds21 H21 hp0 hp1 hD21 kp21 e21 => ?_⟩
    rw [S_len] at hp1
    obtain ⟨pl, rfl⟩ : ∃ pl : Nat, pl_ = (pl : Int) := ⟨pl_.toNat, by omega⟩
    have hpl : pl ≤ tx.length := by omega
    have B21 := B20.keep kp21 e21
    refine ⟨_, rfl, t, one, two, rfl, B21.ss, hs, fun H22 F s22 hF eF => ?_⟩
    have B22 := B21.same s22
    have hFd : F ≠ d := fun z => by rw [z, B21.dd] at hF; cases hF
    clear B19 B20 B21 kp20 kp21 e20 e21 hD7
    obtain ⟨f0, f1, fr, efar, _, _, hn0, _⟩ := far_two (m := one ++ two) (by rw [List.length_append]; omega)
    have hfl : ∀ c ∈ off2 absL (one ++ two), c ∉ one ++ two := fun c hc => by
      unfold off2 at hc
      simpa using (List.mem_filter.mp hc).2
    have hfn : (off2 absL (one ++ two)).length ≤ 30 := List.length_filter_le _ absL
    rw [efar] at eF hfl hfn
    have hfn1 : 1 ≤ (f0 :: f1 :: fr).length := by simp
    have ef0 : (f0 :: f1 :: fr)[0]? = some f0 := rfl
    generalize f0 :: f1 :: fr = far at eF hfl hfn hfn1 ef0
    clear efar
    refine ⟨_, rfl, _, rfl, _, rfl, S tx, rfl, small (by rw [S_len]; omega), ?_⟩
    rw [cut_to hp0, Int.toNat_natCast]
    refine ⟨_, rfl, _, rfl, _, rfl, F, _, rfl, .inl (SqL.of eF), d, ds21, _, rfl, B22.dd, hD21, by rw [List.length_map]; omega, by rw [List.length_map]; omega, fun kf ds23 H23 hf0 hf1 hD23 kp23 e23 => ?_⟩
    rw [List.length_map] at hf1
    have B23 := B22.keep kp23 e23
    have eF23 := kp23 _ _ hFd eF
    obtain ⟨c, hc, hat⟩ := at_sg hf0 hf1
    refine ⟨F, _, kf, sg c, rfl, rfl, SqL.of eF23, hat, ?_⟩
    have ltk : (tx.take pl).length ≤ 30 := by rw [List.length_take]; omega
    have ldr : (tx.drop pl).length ≤ 30 := by rw [List.length_drop]; omega
    refine ⟨S (tx.take pl), S [c], rfl, rfl, small (by rw [S_len, S_len]; simp; omega), ?_⟩
    rw [S_cat (tx.take pl) [c]]
    refine ⟨_, rfl, _, rfl, _, rfl, S tx, rfl, small (by rw [S_len]; omega), ?_⟩
    rw [cut_from hp0, Int.toNat_natCast]
    refine ⟨S (tx.take pl ++ [c]), S (tx.drop pl), rfl, rfl, small (by rw [S_len, S_len, List.length_append]; simp; omega), ?_⟩
    rw [S_cat (tx.take pl ++ [c]) (tx.drop pl)]
    refine ⟨_, rfl, F, _, 0, sg f0, rfl, rfl, SqL.of eF23, atI_nat (j := 0) (by rw [List.getElem?_map, ef0]; rfl), ?_⟩
    refine ⟨_, rfl, d, ds23, 2, rfl, B23.dd, hD23, by decide, by decide, fun k2 ds24 H24 h20 h22 hD24 kp24 e24 => ?_⟩
    have B24 := B23.keep kp24 e24
    refine ⟨[f0], k2, rfl, rfl, by omega, ?_⟩
    have lrr : (if k2 = 1 then [f0] else []).length ≤ 1 := by split <;> simp
    generalize (if k2 = 1 then [f0] else []) = rr at lrr ⊢
    refine ⟨S (tx.take pl ++ [c] ++ tx.drop pl), S rr, rfl, rfl, small (by rw [S_len, S_len, List.length_append, List.length_append]; simp; omega), ?_⟩
    rw [S_cat (tx.take pl ++ [c] ++ tx.drop pl) rr]
    have hbt := bad_text (r := rr) hstd hpl (hfl c hc)
    have lno : (tx.take pl ++ [c] ++ tx.drop pl ++ rr).length ≤ 1000 := by rw [List.length_append, List.length_append, List.length_append]; simp; omega
    generalize tx.take pl ++ [c] ++ tx.drop pl ++ rr = no at hbt lno ⊢
    clear B23 B22 kp24 kp23 e24 e23 hat eF23 eF hfl hfn hfn1 ef0 hf0 hf1 hF hFd
    -- its works
    refine ⟨B24.tt, fun H25 f5 c5 ext25 _ T25 _ ef5 ec5 => ?_⟩
    have B25 := B24.ext ext25 T25
    have L5 : Live0 H25 qLaw (cellsL s.heap.objs.size) f5 lamL5 := ⟨c5, ef5, ec5⟩
    refine ⟨B25.tt, fun H26 f6 c6 x6 ext26 _ T26 _ ef6 ec6 ex6 => ?_⟩
    have B26 := B25.ext ext26 T26
    have L6 : Live1 H26 qLaw (cellsL s.heap.objs.size) f6 lamL6 := ⟨c6, x6, ef6, ec6, ex6⟩
    replace L5 := L5.to (.ext ext26)
    refine ⟨(by show 2 ≤ sizeLine; decide), fun q3 hq3 => ?_⟩
    have sl := Same.new (o := .lst [.ref f5, .ref f6]) hq3
    have B27 := B26.same sl
    replace L5 := L5.to (.same sl)
    replace L6 := L6.to (.same sl)
    have W27 : WL s.heap.objs.size (fun _ _ => False) [lamL5] [lamL6] 2 (upd H26 q3 (.lst [.ref f5, .ref f6])) q3 [f5, f6] := ⟨upd_same, Nat.le_refl _, fun f hf => by
      simp only [List.mem_cons, List.not_mem_nil, or_false] at hf
      rcases hf with rfl | rfl
      · exact .inr (.inl ⟨_, by simp, L5⟩)
      · exact .inr (.inr ⟨_, by simp, L6⟩)⟩
    generalize upd H26 q3 (.lst [.ref f5, .ref f6]) = H27 at B27 W27 ⊢
    generalize [f5, f6] = fs at W27
    clear B26 B25 B24 L5 L6 sl
    refine ⟨_, rfl, q3, _, rfl, W27.lst, fun D hDn cs C => ⟨fun _ G => Same (adopt cs (upd H27 D (.lst []))) G, Same.refl _, fun i G sm => sm _ _ (C.same _ _ ((Same.new hDn) _ _ W27.lst)), fun i z G hz sm => ?_, fun G sm => ?_⟩⟩
    · rw [List.getElem?_map] at hz
      obtain ⟨f, hf, rfl⟩ := Option.map_eq_some_iff.mp hz
      have s9 : Same H27 G := ((Same.new hDn).trans C.same).trans sm
      have BG := B27.same s9
      have cT : ∀ b, (cellsL s.heap.objs.size).lookup ("_law_sets_here" : Str) = some b → CellIn G b (.ref t) := fun b hb => C.at (fun b o e => sm _ _ (adopt_in e)) (i := 10) (by decide) rfl rfl hb
      have cN : ∀ b, (cellsL s.heap.objs.size).lookup ("_law_none" : Str) = some b → CellIn G b (.str (S no)) := fun b hb => C.at (fun b o e => sm _ _ (adopt_in e)) (i := 9) (by decide) rfl rfl hb
      have cS : ∀ b, (cellsL s.heap.objs.size).lookup ("_law_state" : Str) = some b → CellIn G b (.int st) := fun b hb => C.at (fun b o e => sm _ _ (adopt_in e)) (i := 11) (by decide) rfl rfl hb
      have fine : Fine T P w base G f "sign" (.int (pl : Nat)) := by
        rcases W27.mem f (List.mem_of_getElem? hf) with h | ⟨e, he, h⟩ | ⟨e, he, h⟩
        · exact (h G (.same s9)).elim
        · have h := h.to (.same s9)
          cases List.mem_singleton.mp he
          exact fine_s (act_L5 (a := a) (B := a) (tx := []) (tp := tp) (bl := []) (m := 0) T h cT cN cS BG.ss hs lno hbt)
        · have h := h.to (.same s9)
          cases List.mem_singleton.mp he
          exact fine_s (act_L6 (a := a) (B := a) (tx := []) (tp := tp) (bl := []) (m := 0) T h cT cN cS BG.ss hs lno hbt)
      obtain ⟨tl, hact, htl⟩ := fine
      exact ⟨_, rfl, _, rfl, f, "sign", .int (pl : Nat), tl, rfl, hact, fun E' Q' hE => htl _ _ fun C d H' hR sm2 => hE _ _ _ hR fun H'' sm3 => ⟨true, rfl, rfl, (sm.trans sm2).trans sm3⟩⟩
    have back := C.back sm
    refine ⟨Nat.zero_le _, fun e he => ?_⟩
    have eD := back _ _ (upd_same (H := H27) (a := D) (o := .lst []))
    refine ⟨.list [], .list [], .lst (SqL.of ((Same.new he) _ _ eD)) .nil, .lst (SqL.of upd_same) .nil, by decide +kernel, by decide +kernel, _, rfl, ?_⟩
    rw [show PyData.eqv (.list []) (.list []) = true by decide +kernel]
    refine iteF ?_
    have B28 := B27.same (((Same.new hDn).trans back).trans (Same.new (o := .lst []) he))
    generalize upd (unadopt cs G) e (.lst []) = H28 at B28 ⊢
    clear B27 W27 back eD hDn C sm he
    -- how many
    refine ⟨_, rfl, _, _, rfl, rfl, ⟨by decide, by decide, by decide⟩, (by show 3 ≤ sizeLine; decide), fun l hl => ?_⟩
    have B29 := B28.new (o := .lst (Ints [-1, 21, 10 ^ (9 : Int).toNat])) hl
    have hdl := (B28.fresh hl).1
    refine ⟨_, rfl, d, ds24, 3, rfl, B29.dd, hD24, by decide, by decide, fun ko ds30 H30 ho0 ho1 hD30 kp30 e30 => ?_⟩
    obtain ⟨m, hmm, est⟩ := at_mem (xs := [-1, 21, 10 ^ (9 : Int).toNat]) ho0 ho1
    have hmm : ¬ (0 ≤ m ∧ m ≤ 20) := fun z => by
      simp only [List.mem_cons, List.not_mem_nil, or_false] at hmm
      have y : (10 : Int) ^ (9 : Int).toNat = 1000000000 := by decide
      rw [y] at hmm
      omega
    refine ⟨l, _, ko, .int m, rfl, rfl, SqL.of (kp30 l _ hdl.symm upd_same), est, ?_⟩
    have B30 := B29.keep kp30 e30
    clear B29 B28 est ho0 ho1 hl hdl
    -- the works of the good tape, the text
    obtain ⟨A2, hA2⟩ : ∃ A2 : Hp → Addr → Prop, A2 = fun H'' f => H'' a = some (.lst (Ints tp)) → Acts P w K mg base 6 H'' f (fun E _ => TSt T one.length tp st H'' E) := ⟨_, rfl⟩
    refine ⟨_, rfl, _, rfl, _, rfl, t, a, one, two, tp, st, TTs, rfl, B30.ss, hs, (B30.ls (a, tp) (by simp)).1, hmW, huW, B30.tt, fun H8 p fs ext8 T8 hp ep hfl acts => ?_⟩
    have B8 := B30.ext ext8 T8
    have W8 : WL s.heap.objs.size A2 [] [] 20 H8 p fs := ⟨ep, hfl, fun f hf => .inl (by rw [hA2]; exact fun H'' x => acts f hf H'' x)⟩
    refine ⟨B8.tt, fun H9 f7 c7 ext9 _ T9 _ ef7 ec7 => ?_⟩
    have B9 := B8.ext ext9 T9
    have W9 := W8.ext ext9
    have L7 : Live0 H9 qLaw (cellsL s.heap.objs.size) f7 lamL7 := ⟨c7, ef7, ec7⟩
    refine ⟨(by show 1 ≤ sizeLine; decide), fun l hl => ?_⟩
    have sl := Same.new (o := .lst [.ref f7]) hl
    have B11 := B9.same sl
    have W11 := W9.same sl
    replace L7 := L7.to (.same sl)
    have el := upd_same (H := H9) (a := l) (o := .lst [.ref f7])
    generalize upd H9 l (.lst [.ref f7]) = H11 at B11 W11 L7 el ⊢
    refine ⟨p, l, _, _, rfl, rfl, W11.lst, el, small (by have := W11.size (by decide); simp; simp at this; omega), fun q4 hq4 => ?_⟩
    have B12 := B11.new (o := .lst (fs.map V.ref ++ [.ref f7])) hq4
    have of4 := B11.fresh hq4
    have W12 : WL s.heap.objs.size A2 [lamL7] [] 21 (upd H11 q4 (.lst (fs.map V.ref ++ [.ref f7]))) q4 (fs ++ [f7]) := W11.cat (hs := [f7]) (g0 := [lamL7]) (g1 := []) hq4 (by simp) (by simp) (fun f hf => by
      cases List.mem_singleton.mp hf
      exact .inr (.inl ⟨_, by simp, L7⟩))
    generalize upd H11 q4 (.lst (fs.map V.ref ++ [.ref f7])) = H12 at B12 W12 ⊢
    generalize fs ++ [f7] = fs at W12
    clear B11 W11 B9 W9 B8 W8 L7 el
    refine ⟨_, rfl, .inl ⟨rfl, _, SqL.of W12.lst⟩, B12.tt, fun H17 f8 c8 x8 ext17 _ T17 _ ef8 ec8 ex8 => ?_⟩
    have B17 := B12.ext ext17 T17
    have W17 := W12.ext ext17
    have L8 : Live1 H17 qLaw (cellsL s.heap.objs.size) f8 lamL8 := ⟨c8, x8, ef8, ec8, ex8⟩
    refine ⟨q4, _, _, rfl, rfl, W17.lst, small1000 (by have := W17.size (by decide); omega), ?_⟩
    have B18 := B17.put (o := .lst (fs.map V.ref ++ [.ref f8])) W17.lst of4
    have W18 := W17.app (f := f8) (g1 := [lamL8]) (fun e he => nomatch he) (.inr (.inr ⟨_, by simp, L8⟩))
    generalize upd H17 q4 (.lst (fs.map V.ref ++ [.ref f8])) = H18 at B18 W18 ⊢
    generalize fs ++ [f8] = fs at W18
    clear B17 W17 B12 W12 L8 of4
    refine ⟨_, rfl, B18.tt, fun H19 f9 c9 x9 ext19 _ T19 _ ef9 ec9 ex9 => ?_⟩
    have B19 := B18.ext ext19 T19
    have W19 := W18.ext ext19
    have L9 : Live1 H19 qLaw (cellsL s.heap.objs.size) f9 lamL9 := ⟨c9, x9, ef9, ec9, ex9⟩
    refine ⟨B19.tt, fun H20 f10 c10 x10 ext20 _ T20 _ ef10 ec10 ex10 => ?_⟩
    have B20 := B19.ext ext20 T20
    have W20 := W19.ext ext20
    have L10 : Live1 H20 qLaw (cellsL s.heap.objs.size) f10 lamL10 := ⟨c10, x10, ef10, ec10, ex10⟩
    replace L9 := L9.to (.ext ext20)
    refine ⟨(by show 2 ≤ sizeLine; decide), fun l hl => ?_⟩
    have sl := Same.new (o := .lst [.ref f9, .ref f10]) hl
    have B21 := B20.same sl
    have W21 := W20.same sl
    replace L9 := L9.to (.same sl)
    replace L10 := L10.to (.same sl)
    have el := upd_same (H := H20) (a := l) (o := .lst [.ref f9, .ref f10])
    generalize upd H20 l (.lst [.ref f9, .ref f10]) = H21 at B21 W21 L9 L10 el ⊢
    refine ⟨q4, l, _, _, rfl, rfl, W21.lst, el, small (by have := W21.size (by decide); simp; simp at this; omega), fun q5 hq5 => ?_⟩
    have B22 := B21.new (o := .lst (fs.map V.ref ++ [.ref f9, .ref f10])) hq5
    have of5 := B21.fresh hq5
    have W22 : WL s.heap.objs.size A2 [lamL7] [lamL8, lamL9, lamL10] 24 (upd H21 q5 (.lst (fs.map V.ref ++ [.ref f9, .ref f10]))) q5 (fs ++ [f9, f10]) := W21.cat (hs := [f9, f10]) (g0 := [lamL7]) (g1 := [lamL8, lamL9, lamL10]) hq5 (by simp) (by simp) (fun f hf => by
      simp only [List.mem_cons, List.not_mem_nil, or_false] at hf
      rcases hf with rfl | rfl
      · exact .inr (.inr ⟨_, by simp, L9⟩)
      · exact .inr (.inr ⟨_, by simp, L10⟩))
    generalize upd H21 q5 (.lst (fs.map V.ref ++ [.ref f9, .ref f10])) = H22 at B22 W22 ⊢
    generalize fs ++ [f9, f10] = fs at W22
    clear B21 W21 B20 W20 B19 W19 B18 W18 L9 L10 el
    refine ⟨_, rfl, .inl ⟨rfl, _, SqL.of W22.lst⟩, B22.tt, fun H27 f11 c11 x11 ext27 _ T27 _ ef11 ec11 ex11 => ?_⟩
    have B27 := B22.ext ext27 T27
    have W27 := W22.ext ext27
    have L11 : Live1 H27 qLaw (cellsL s.heap.objs.size) f11 lamL11 := ⟨c11, x11, ef11, ec11, ex11⟩
    refine ⟨q5, _, _, rfl, rfl, W27.lst, small1000 (by have := W27.size (by decide); omega), ?_⟩
    have B28 := B27.put (o := .lst (fs.map V.ref ++ [.ref f11])) W27.lst of5
    have W28 := W27.app (f := f11) (g1 := [lamL8, lamL9, lamL10, lamL11]) (fun e he => List.mem_append_left [lamL11] he) (.inr (.inr ⟨_, by simp, L11⟩))
    generalize upd H27 q5 (.lst (fs.map V.ref ++ [.ref f11])) = H28 at B28 W28 ⊢
    generalize fs ++ [f11] = fs at W28
    clear B27 W27 B22 W22 L11 of5
    refine ⟨_, rfl, q5, _, rfl, W28.lst, fun D hDn cs C => ⟨fun _ G => Same (adopt cs (upd H28 D (.lst []))) G, Same.refl _, fun i G sm => sm _ _ (C.same _ _ ((Same.new hDn) _ _ W28.lst)), fun i z G hz sm => ?_, fun G sm => ?_⟩⟩
    · rw [List.getElem?_map] at hz
      obtain ⟨f, hf, rfl⟩ := Option.map_eq_some_iff.mp hz
      have s9 : Same H28 G := ((Same.new hDn).trans C.same).trans sm
      have BG := B28.same s9
      have cT : ∀ b, (cellsL s.heap.objs.size).lookup ("_law_sets_here" : Str) = some b → CellIn G b (.ref t) := fun b hb => C.at (fun b o e => sm _ _ (adopt_in e)) (i := 10) (by decide) rfl rfl hb
      have cA : ∀ b, (cellsL s.heap.objs.size).lookup ("_law_tape_here" : Str) = some b → CellIn G b (.ref a) := fun b hb => C.at (fun b o e => sm _ _ (adopt_in e)) (i := 12) (by decide) rfl rfl hb
      have cX : ∀ b, (cellsL s.heap.objs.size).lookup ("_law_text_here" : Str) = some b → CellIn G b (.str (S tx)) := fun b hb => C.at (fun b o e => sm _ _ (adopt_in e)) (i := 13) (by decide) rfl rfl hb
      have cS : ∀ b, (cellsL s.heap.objs.size).lookup ("_law_state" : Str) = some b → CellIn G b (.int st) := fun b hb => C.at (fun b o e => sm _ _ (adopt_in e)) (i := 11) (by decide) rfl rfl hb
      have cM : ∀ b, (cellsL s.heap.objs.size).lookup ("_law_most" : Str) = some b → CellIn G b (.int m) := fun b hb => C.at (fun b o e => sm _ _ (adopt_in e)) (i := 8) (by decide) rfl rfl hb
      have eA := (BG.ls (a, tp) (by simp)).1
      have lt : tx.length ≤ 1000 := by omega
      have fine : Fine T P w base G f "number" (.int 0) := by
        rcases W28.mem f (List.mem_of_getElem? hf) with h | ⟨e, he, h⟩ | ⟨e, he, h⟩
        · rw [hA2] at h
          exact fine_tn (h G (.same s9) eA) htape hst
        · have h := h.to (.same s9)
          cases List.mem_singleton.mp he
          exact fine_n (act_L7 (a := a) (B := a) (j := 0) (tn := []) (tp := tp) (bl := []) (m := 0) T h cT cX cS BG.ss hs lt hstd hst)
        · have h := h.to (.same s9)
          simp only [List.mem_cons, List.not_mem_nil, or_false] at he
          rcases he with rfl | rfl | rfl | rfl
          · exact fine_n (act_L8 (a := a) (B := a) (j := 0) (tn := []) (tp := tp) (bl := []) (m := 0) T h cT cX cS BG.ss hs lt hstd hst)
          · exact fine_n (act_L9 (a := a) (B := a) (j := 0) (tn := []) (tp := tp) (bl := []) (st := 0) T h cT cX cM BG.ss hs lt hstd hmm)
          · exact fine_n (act_L10 (B := a) (j := 0) (tn := []) (tx := []) (bl := []) (st := 0) (m := 0) T h cT cA BG.ss hs eA htape)
          · exact fine_n (act_L11 (B := a) (j := 0) (tn := []) (tx := []) (bl := []) (st := 0) (m := 0) T h cT cA BG.ss hs eA htape)
      obtain ⟨tl, hact, htl⟩ := fine
      exact ⟨_, rfl, f, "number", .int 0, tl, rfl, hact, fun E' Q' hE => htl _ _ fun C d H' hR sm2 => hE _ _ _ hR fun H'' sm3 => ⟨true, rfl, rfl, (sm.trans sm2).trans sm3⟩⟩
    have back := C.back sm
    refine ⟨Nat.zero_le _, fun e he => ?_⟩
    have eD := back _ _ (upd_same (H := H28) (a := D) (o := .lst []))
    refine ⟨.list [], .list [], .lst (SqL.of ((Same.new he) _ _ eD)) .nil, .lst (SqL.of upd_same) .nil, by decide +kernel, by decide +kernel, _, rfl, ?_⟩
    rw [show PyData.eqv (.list []) (.list []) = true by decide +kernel]
    refine iteF ?_
    have B29 := B28.same (((Same.new hDn).trans back).trans (Same.new (o := .lst []) he))
    generalize upd (unadopt cs G) e (.lst []) = H29 at B29 ⊢
    clear B28 W28 back eD hDn C sm he
    -- the good ones
    refine ⟨_, rfl, _, rfl, t, one, two, tx, 0, rfl, B29.ss, hs, Or.inl rfl, hstd, by omega, fun H40 p1 R s40 _ _ ep1 => ?_⟩
    have B40 := B29.same s40
    refine ⟨_, .ty "list", _, _, true, rfl, .ty _, .base (.lst ep1), kit_ty (by decide +kernel), true, rfl, iteT ?_⟩
    refine ⟨_, rfl, _, rfl, t, a, one, two, tp, 1, rfl, B40.ss, hs, (B40.ls (a, tp) (by simp)).1, htape, Or.inr rfl, fun H41 p2 s41 _ ep2 => ?_⟩
    exact ⟨_, .ty "list", _, _, true, rfl, .ty _, .base (.lst ep2), kit_ty (by decide +kernel), q _⟩

end
/-! ### what the top has written; the end -/
theorem all_mk {l : PySem.W.OpenLaw} {w : World} {K : PySem.W.Frag} {h : Heap} {mg : Str → Option Value} {fa f0 f1 f2 f3 f4 f5 f6 f7 f8 f9 f10 f11 f12 f13 f14 f15 f16 f17 f18 f19 f20 f21 f22 f23 f24 f25 f26 f27 f28 f29 f30 f31 f32 f33 : Addr} (X : K.In h) (G : h.Ns mainGlobals mg) (hfa : mg "law" = some (.ref fa))
    {od0 an0 od1 an1 od2 an2 od3 an3 od4 an4 od5 an5 od6 an6 od7 an7 od8 an8 od9 an9 od10 an10 od11 an11 od12 an12 od13 an13 od14 an14 od15 an15 od16 an16 od17 an17 od18 an18 od19 an19 od20 an20 od21 an21 od22 an22 od23 an23 od24 an24 od25 an25 od26 an26 od27 an27 od28 an28 od29 an29 od30 an30 od31 an31 od32 an32 od33 an33 : Option Addr} {sl0 sl1 sl2 sl3 sl4 sl5 sl6 sl7 sl8 sl9 sl10 sl11 sl12 sl13 sl14 sl15 sl16 sl17 sl18 sl19 sl20 sl21 sl22 sl23 sl24 sl25 sl26 sl27 sl28 sl29 sl30 sl31 sl32 sl33 : Array (Option Value)} {oc0 kV0 dc0 pm0 cd0 ct0 oc1 kV1 dc1 pm1 cd1 ct1 oc2 kV2 dc2 pm2 cd2 ct2 oc3 kV3 dc3 pm3 cd3 ct3 oc4 kV4 dc4 pm4 cd4 ct4 oc5 kV5 dc5 pm5 cd5 ct5 oc6 kV6 dc6 pm6 cd6 ct6 oc7 kV7 dc7 pm7 cd7 ct7 oc8 kV8 dc8 pm8 cd8 ct8 oc9 kV9 dc9 pm9 cd9 ct9 oc10 kV10 dc10 pm10 cd10 ct10 oc11 kV11 dc11 pm11 cd11 ct11 oc12 kV12 dc12 pm12 cd12 ct12 oc13 kV13 dc13 pm13 cd13 ct13 oc14 kV14 dc14 pm14 cd14 ct14 oc15 kV15 dc15 pm15 cd15 ct15 oc16 kV16 dc16 pm16 cd16 ct16 oc17 kV17 dc17 pm17 cd17 ct17 oc18 kV18 dc18 pm18 cd18 ct18 oc19 kV19 dc19 pm19 cd19 ct19 oc20 kV20 dc20 pm20 cd20 ct20 oc21 kV21 dc21 pm21 cd21 ct21 oc22 kV22 dc22 pm22 cd22 ct22 oc23 kV23 dc23 pm23 cd23 ct23 oc24 kV24 dc24 pm24 cd24 ct24 oc25 kV25 dc25 pm25 cd25 ct25 oc26 kV26 dc26 pm26 cd26 ct26 oc27 kV27 dc27 pm27 cd27 ct27 oc28 kV28 dc28 pm28 cd28 ct28 oc29 kV29 dc29 pm29 cd29 ct29 oc30 kV30 dc30 pm30 cd30 ct30 oc31 kV31 dc31 pm31 cd31 ct31 oc32 kV32 dc32 pm32 ct32 oc33 kV33 dc33 pm33 ct33 : Value} {t0 t1 t2 t3 t4 : Tok}
    (a0 : PySem.W.nsIn K mainGlobals "can_be_set" = some (some (.ref f0))) (l0 : K.lookup f0 = some ⟨oc0, od0, .func (PySem.W.fnOf "can_be_set" "can_be_set" (defArgs s_p_can_be_set) (defBody s_p_can_be_set) (defScope s_p_can_be_set) .none kV0 dc0 pm0 an0 cd0 ct0), sl0⟩) (c0 : PySem.W.codeIn K cd0 "can_be_set" = true) (k0 : PySem.W.keepIn K (.ref f0) = true)
    (a1 : PySem.W.nsIn K mainGlobals "check_sets" = some (some (.ref f1))) (l1 : K.lookup f1 = some ⟨oc1, od1, .func (PySem.W.fnOf "check_sets" "check_sets" (defArgs s_p_check_sets) (defBody s_p_check_sets) (defScope s_p_check_sets) .none kV1 dc1 pm1 an1 cd1 ct1), sl1⟩) (c1 : PySem.W.codeIn K cd1 "check_sets" = true) (k1 : PySem.W.keepIn K (.ref f1) = true)
    (a2 : PySem.W.nsIn K mainGlobals "check_tape" = some (some (.ref f2))) (l2 : K.lookup f2 = some ⟨oc2, od2, .func (PySem.W.fnOf "check_tape" "check_tape" (defArgs s_p_check_tape) (defBody s_p_check_tape) (defScope s_p_check_tape) .none kV2 dc2 pm2 an2 cd2 ct2), sl2⟩) (c2 : PySem.W.codeIn K cd2 "check_tape" = true) (k2 : PySem.W.keepIn K (.ref f2) = true)
    (a3 : PySem.W.nsIn K mainGlobals "check_state" = some (some (.ref f3))) (l3 : K.lookup f3 = some ⟨oc3, od3, .func (PySem.W.fnOf "check_state" "check_state" (defArgs s_p_check_state) (defBody s_p_check_state) (defScope s_p_check_state) .none kV3 dc3 pm3 an3 cd3 ct3), sl3⟩) (c3 : PySem.W.codeIn K cd3 "check_state" = true) (k3 : PySem.W.keepIn K (.ref f3) = true)
    (a4 : PySem.W.nsIn K mainGlobals "is_common" = some (some (.ref f4))) (l4 : K.lookup f4 = some ⟨oc4, od4, .func (PySem.W.fnOf "is_common" "is_common" (defArgs s_p_is_common) (defBody s_p_is_common) (defScope s_p_is_common) .none kV4 dc4 pm4 an4 cd4 ct4), sl4⟩) (c4 : PySem.W.codeIn K cd4 "is_common" = true) (k4 : PySem.W.keepIn K (.ref f4) = true)
    (a5 : PySem.W.nsIn K mainGlobals "read" = some (some (.ref f5))) (l5 : K.lookup f5 = some ⟨oc5, od5, .func (PySem.W.fnOf "read" "read" (defArgs s_p_read) (defBody s_p_read) (defScope s_p_read) .none kV5 dc5 pm5 an5 cd5 ct5), sl5⟩) (c5 : PySem.W.codeIn K cd5 "read" = true) (k5 : PySem.W.keepIn K (.ref f5) = true)
    (a6 : PySem.W.nsIn K mainGlobals "spoilt" = some (some (.ref f6))) (l6 : K.lookup f6 = some ⟨oc6, od6, .func (PySem.W.fnOf "spoilt" "spoilt" (defArgs s_p_spoilt) (defBody s_p_spoilt) (defScope s_p_spoilt) .none kV6 dc6 pm6 an6 cd6 ct6), sl6⟩) (c6 : PySem.W.codeIn K cd6 "spoilt" = true) (k6 : PySem.W.keepIn K (.ref f6) = true)
    (a7 : PySem.W.nsIn K mainGlobals "losses" = some (some (.ref f7))) (l7 : K.lookup f7 = some ⟨oc7, od7, .func (PySem.W.fnOf "losses" "losses" (defArgs s_p_losses) (defBody s_p_losses) (defScope s_p_losses) .none kV7 dc7 pm7 an7 cd7 ct7), sl7⟩) (c7 : PySem.W.codeIn K cd7 "losses" = true) (k7 : PySem.W.keepIn K (.ref f7) = true)
    (a8 : PySem.W.nsIn K mainGlobals "worst" = some (some (.ref f8))) (l8 : K.lookup f8 = some ⟨oc8, od8, .func (PySem.W.fnOf "worst" "worst" (defArgs s_p_worst) (defBody s_p_worst) (defScope s_p_worst) .none kV8 dc8 pm8 an8 cd8 ct8), sl8⟩) (c8 : PySem.W.codeIn K cd8 "worst" = true) (k8 : PySem.W.keepIn K (.ref f8) = true)
    (a9 : PySem.W.nsIn K mainGlobals "by_state" = some (some (.ref f9))) (l9 : K.lookup f9 = some ⟨oc9, od9, .func (PySem.W.fnOf "by_state" "by_state" (defArgs s_p_by_state) (defBody s_p_by_state) (defScope s_p_by_state) .none kV9 dc9 pm9 an9 cd9 ct9), sl9⟩) (c9 : PySem.W.codeIn K cd9 "by_state" = true) (k9 : PySem.W.keepIn K (.ref f9) = true)
    (a10 : PySem.W.nsIn K mainGlobals "written" = some (some (.ref f10))) (l10 : K.lookup f10 = some ⟨oc10, od10, .func (PySem.W.fnOf "written" "written" (defArgs s_p_written) (defBody s_p_written) (defScope s_p_written) .none kV10 dc10 pm10 an10 cd10 ct10), sl10⟩) (c10 : PySem.W.codeIn K cd10 "written" = true) (k10 : PySem.W.keepIn K (.ref f10) = true)
    (a11 : PySem.W.nsIn K mainGlobals "check_text" = some (some (.ref f11))) (l11 : K.lookup f11 = some ⟨oc11, od11, .func (PySem.W.fnOf "check_text" "check_text" (defArgs s_p_check_text) (defBody s_p_check_text) (defScope s_p_check_text) .none kV11 dc11 pm11 an11 cd11 ct11), sl11⟩) (c11 : PySem.W.codeIn K cd11 "check_text" = true) (k11 : PySem.W.keepIn K (.ref f11) = true)
    (a12 : PySem.W.nsIn K mainGlobals "sign_step" = some (some (.ref f12))) (l12 : K.lookup f12 = some ⟨oc12, od12, .func (PySem.W.fnOf "sign_step" "sign_step" (defArgs s_p_sign_step) (defBody s_p_sign_step) (defScope s_p_sign_step) .none kV12 dc12 pm12 an12 cd12 ct12), sl12⟩) (c12 : PySem.W.codeIn K cd12 "sign_step" = true) (k12 : PySem.W.keepIn K (.ref f12) = true)
    (a13 : PySem.W.nsIn K mainGlobals "steps" = some (some (.ref f13))) (l13 : K.lookup f13 = some ⟨oc13, od13, .func (PySem.W.fnOf "steps" "steps" (defArgs s_p_steps) (defBody s_p_steps) (defScope s_p_steps) .none kV13 dc13 pm13 an13 cd13 ct13), sl13⟩) (c13 : PySem.W.codeIn K cd13 "steps" = true) (k13 : PySem.W.keepIn K (.ref f13) = true)
    (a14 : PySem.W.nsIn K mainGlobals "lengths_ahead" = some (some (.ref f14))) (l14 : K.lookup f14 = some ⟨oc14, od14, .func (PySem.W.fnOf "lengths_ahead" "lengths_ahead" (defArgs s_p_lengths_ahead) (defBody s_p_lengths_ahead) (defScope s_p_lengths_ahead) .none kV14 dc14 pm14 an14 cd14 ct14), sl14⟩) (c14 : PySem.W.codeIn K cd14 "lengths_ahead" = true) (k14 : PySem.W.keepIn K (.ref f14) = true)
    (a15 : PySem.W.nsIn K mainGlobals "shortest_lengths" = some (some (.ref f15))) (l15 : K.lookup f15 = some ⟨oc15, od15, .func (PySem.W.fnOf "shortest_lengths" "shortest_lengths" (defArgs s_p_shortest_lengths) (defBody s_p_shortest_lengths) (defScope s_p_shortest_lengths) .none kV15 dc15 pm15 an15 cd15 ct15), sl15⟩) (c15 : PySem.W.codeIn K cd15 "shortest_lengths" = true) (k15 : PySem.W.keepIn K (.ref f15) = true)
    (a16 : PySem.W.nsIn K mainGlobals "shortest" = some (some (.ref f16))) (l16 : K.lookup f16 = some ⟨oc16, od16, .func (PySem.W.fnOf "shortest" "shortest" (defArgs s_p_shortest) (defBody s_p_shortest) (defScope s_p_shortest) .none kV16 dc16 pm16 an16 cd16 ct16), sl16⟩) (c16 : PySem.W.codeIn K cd16 "shortest" = true) (k16 : PySem.W.keepIn K (.ref f16) = true)
    (a17 : PySem.W.nsIn K mainGlobals "least" = some (some (.ref f17))) (l17 : K.lookup f17 = some ⟨oc17, od17, .func (PySem.W.fnOf "least" "least" (defArgs s_p_least) (defBody s_p_least) (defScope s_p_least) .none kV17 dc17 pm17 an17 cd17 ct17), sl17⟩) (c17 : PySem.W.codeIn K cd17 "least" = true) (k17 : PySem.W.keepIn K (.ref f17) = true)
    (a18 : PySem.W.nsIn K mainGlobals "guarded" = some (some (.ref f18))) (l18 : K.lookup f18 = some ⟨oc18, od18, .func (PySem.W.fnOf "guarded" "guarded" (defArgs s_p_guarded) (defBody s_p_guarded) (defScope s_p_guarded) .none kV18 dc18 pm18 an18 cd18 ct18), sl18⟩) (c18 : PySem.W.codeIn K cd18 "guarded" = true) (k18 : PySem.W.keepIn K (.ref f18) = true)
    (a19 : PySem.W.nsIn K mainGlobals "trimmed" = some (some (.ref f19))) (l19 : K.lookup f19 = some ⟨oc19, od19, .func (PySem.W.fnOf "trimmed" "trimmed" (defArgs s_p_trimmed) (defBody s_p_trimmed) (defScope s_p_trimmed) .none kV19 dc19 pm19 an19 cd19 ct19), sl19⟩) (c19 : PySem.W.codeIn K cd19 "trimmed" = true) (k19 : PySem.W.keepIn K (.ref f19) = true)
    (a20 : PySem.W.nsIn K mainGlobals "is_read_otherwise" = some (some (.ref f20))) (l20 : K.lookup f20 = some ⟨oc20, od20, .func (PySem.W.fnOf "is_read_otherwise" "is_read_otherwise" (defArgs s_p_is_read_otherwise) (defBody s_p_is_read_otherwise) (defScope s_p_is_read_otherwise) .none kV20 dc20 pm20 an20 cd20 ct20), sl20⟩) (c20 : PySem.W.codeIn K cd20 "is_read_otherwise" = true) (k20 : PySem.W.keepIn K (.ref f20) = true)
    (a21 : PySem.W.nsIn K mainGlobals "joined" = some (some (.ref f21))) (l21 : K.lookup f21 = some ⟨oc21, od21, .func (PySem.W.fnOf "joined" "joined" (defArgs s_p_joined) (defBody s_p_joined) (defScope s_p_joined) .none kV21 dc21 pm21 an21 cd21 ct21), sl21⟩) (c21 : PySem.W.codeIn K cd21 "joined" = true) (k21 : PySem.W.keepIn K (.ref f21) = true)
    (a22 : PySem.W.nsIn K mainGlobals "cut" = some (some (.ref f22))) (l22 : K.lookup f22 = some ⟨oc22, od22, .func (PySem.W.fnOf "cut" "cut" (defArgs s_p_cut) (defBody s_p_cut) (defScope s_p_cut) .none kV22 dc22 pm22 an22 cd22 ct22), sl22⟩) (c22 : PySem.W.codeIn K cd22 "cut" = true) (k22 : PySem.W.keepIn K (.ref f22) = true)
    (a23 : PySem.W.nsIn K mainGlobals "_law_dice" = some (some (.ref f23))) (l23 : K.lookup f23 = some ⟨oc23, od23, .func (PySem.W.fnOf "_law_dice" "_law_dice" (defArgs s_l_dice) (defBody s_l_dice) (defScope s_l_dice) .none kV23 dc23 pm23 an23 cd23 ct23), sl23⟩) (c23 : PySem.W.codeIn K cd23 "_law_dice" = true) (k23 : PySem.W.keepIn K (.ref f23) = true)
    (a24 : PySem.W.nsIn K mainGlobals "_law_off" = some (some (.ref f24))) (l24 : K.lookup f24 = some ⟨oc24, od24, .func (PySem.W.fnOf "_law_off" "_law_off" (defArgs s_l_off) (defBody s_l_off) (defScope s_l_off) .none kV24 dc24 pm24 an24 cd24 ct24), sl24⟩) (c24 : PySem.W.codeIn K cd24 "_law_off" = true) (k24 : PySem.W.keepIn K (.ref f24) = true)
    (a25 : PySem.W.nsIn K mainGlobals "_law_alike" = some (some (.ref f25))) (l25 : K.lookup f25 = some ⟨oc25, od25, .func (PySem.W.fnOf "_law_alike" "_law_alike" (defArgs s_l_alike) (defBody s_l_alike) (defScope s_l_alike) .none kV25 dc25 pm25 an25 cd25 ct25), sl25⟩) (c25 : PySem.W.codeIn K cd25 "_law_alike" = true) (k25 : PySem.W.keepIn K (.ref f25) = true)
    (a26 : PySem.W.nsIn K mainGlobals "_law_mixed" = some (some (.ref f26))) (l26 : K.lookup f26 = some ⟨oc26, od26, .func (PySem.W.fnOf "_law_mixed" "_law_mixed" (defArgs s_l_mixed) (defBody s_l_mixed) (defScope s_l_mixed) .none kV26 dc26 pm26 an26 cd26 ct26), sl26⟩) (c26 : PySem.W.codeIn K cd26 "_law_mixed" = true) (k26 : PySem.W.keepIn K (.ref f26) = true)
    (a27 : PySem.W.nsIn K mainGlobals "_law_refused" = some (some (.ref f27))) (l27 : K.lookup f27 = some ⟨oc27, od27, .func (PySem.W.fnOf "_law_refused" "_law_refused" (defArgs s_l_refused) (defBody s_l_refused) (defScope s_l_refused) .none kV27 dc27 pm27 an27 cd27 ct27), sl27⟩) (c27 : PySem.W.codeIn K cd27 "_law_refused" = true) (k27 : PySem.W.keepIn K (.ref f27) = true)
    (a28 : PySem.W.nsIn K mainGlobals "_law_sets" = some (some (.ref f28))) (l28 : K.lookup f28 = some ⟨oc28, od28, .func (PySem.W.fnOf "_law_sets" "_law_sets" (defArgs s_l_sets) (defBody s_l_sets) (defScope s_l_sets) .none kV28 dc28 pm28 an28 cd28 ct28), sl28⟩) (c28 : PySem.W.codeIn K cd28 "_law_sets" = true) (k28 : PySem.W.keepIn K (.ref f28) = true)
    (a29 : PySem.W.nsIn K mainGlobals "_law_text" = some (some (.ref f29))) (l29 : K.lookup f29 = some ⟨oc29, od29, .func (PySem.W.fnOf "_law_text" "_law_text" (defArgs s_l_text) (defBody s_l_text) (defScope s_l_text) .none kV29 dc29 pm29 an29 cd29 ct29), sl29⟩) (c29 : PySem.W.codeIn K cd29 "_law_text" = true) (k29 : PySem.W.keepIn K (.ref f29) = true)
    (a30 : PySem.W.nsIn K mainGlobals "_law_tape" = some (some (.ref f30))) (l30 : K.lookup f30 = some ⟨oc30, od30, .func (PySem.W.fnOf "_law_tape" "_law_tape" (defArgs s_l_tape) (defBody s_l_tape) (defScope s_l_tape) .none kV30 dc30 pm30 an30 cd30 ct30), sl30⟩) (c30 : PySem.W.codeIn K cd30 "_law_tape" = true) (k30 : PySem.W.keepIn K (.ref f30) = true)
    (a31 : PySem.W.nsIn K mainGlobals "_law_absent" = some (some (.ref f31))) (l31 : K.lookup f31 = some ⟨oc31, od31, .func (PySem.W.fnOf "_law_absent" "_law_absent" (defArgs s_l_absent) (defBody s_l_absent) (defScope s_l_absent) .none kV31 dc31 pm31 an31 cd31 ct31), sl31⟩) (c31 : PySem.W.codeIn K cd31 "_law_absent" = true) (k31 : PySem.W.keepIn K (.ref f31) = true)
    {C32 P32 : Addr} (hX32 : h.get? P32 = some { cls := .none, data := .fields #[] } ∧ PySem.W.codeHdIn K C32 P32 = true) (nP32 : K.lookup P32 = none)
    (a32 : PySem.W.nsIn K mainGlobals "_law_works" = some (some (.ref f32))) (l32 : K.lookup f32 = some ⟨oc32, od32, .func (PySem.W.fnOf "_law_works" "_law_works" (defArgs s_l_works) (defBody s_l_works) (defScope s_l_works) .none kV32 dc32 pm32 an32 (.ref C32) ct32), sl32⟩) (c32 : PySem.W.codeIn K (.ref C32) "_law_works" = true) (k32 : PySem.W.keepIn K (.ref f32) = true)
    {C33 P33 : Addr} (hX33 : h.get? P33 = some { cls := .none, data := .fields #[] } ∧ PySem.W.codeHdIn K C33 P33 = true) (nP33 : K.lookup P33 = none)
    (a33 : PySem.W.nsIn K mainGlobals "law" = some (some (.ref f33))) (l33 : K.lookup f33 = some ⟨oc33, od33, .func (PySem.W.fnOf "law" "law" (defArgs s_law) (defBody s_law) (defScope s_law) .none kV33 dc33 pm33 an33 (.ref C33) ct33), sl33⟩) (c33 : PySem.W.codeIn K (.ref C33) "law" = true) (k33 : PySem.W.keepIn K (.ref f33) = true)
    (nq33_32 : P33 ≠ P32)
    (z0 : PySem.W.nsIn K mainGlobals "ValueError" = some none)
    (z1 : PySem.W.nsIn K mainGlobals "abs" = some none)
    (z2 : PySem.W.nsIn K mainGlobals "all" = some none)
    (z3 : PySem.W.nsIn K mainGlobals "bool" = some none)
    (z4 : PySem.W.nsIn K mainGlobals "enumerate" = some none)
    (z5 : PySem.W.nsIn K mainGlobals "int" = some none)
    (z6 : PySem.W.nsIn K mainGlobals "isinstance" = some none)
    (z7 : PySem.W.nsIn K mainGlobals "len" = some none)
    (z8 : PySem.W.nsIn K mainGlobals "list" = some none)
    (z9 : PySem.W.nsIn K mainGlobals "max" = some none)
    (z10 : PySem.W.nsIn K mainGlobals "min" = some none)
    (z11 : PySem.W.nsIn K mainGlobals "range" = some none)
    (z12 : PySem.W.nsIn K mainGlobals "reversed" = some none)
    (z13 : PySem.W.nsIn K mainGlobals "set" = some none)
    (z14 : PySem.W.nsIn K mainGlobals "str" = some none)
    (z15 : PySem.W.nsIn K mainGlobals "tuple" = some none)
    (q0 : PySem.W.nsIn K mainGlobals "MOST_SIGNS" = some (some (.int (10) t0)))
    (q1 : PySem.W.nsIn K mainGlobals "MOST_CODES" = some (some (.int (200) t1)))
    (q2 : PySem.W.nsIn K mainGlobals "MOST_SPOILT" = some (some (.int (20) t2)))
    (q3 : PySem.W.nsIn K mainGlobals "FREE" = some (some (.int (-1) t3)))
    (q4 : PySem.W.nsIn K mainGlobals "NEVER" = some (some (.int (1000000) t4)))
    {CT : Addr} (aT : PySem.W.nsIn K mainGlobals "TapeError" = some (some (.ref CT))) (tT : PySem.W.typeIn K (.ref CT) = some (.type "type")) (nT : PySem.W.nsIn K cStatics "thirdparty.any" = some none) (fT : PySem.W.findCls K (.ref CT) (.type "type") "__init__" = some (.val (.builtin "ValueError.__init__"))) (eT : PySem.W.subIn K (.ref CT) (.type "BaseException") = some true) (hT : PySem.W.hasDictIn K CT = true)
    (gS : PySem.W.specialIn K (.builtin "object.__class__") "__get__" = some (some (.builtin "getset_descriptor.__get__"))) (gT : PySem.W.takesIn K (.builtin "object.__class__") = some true)
    {CC0 : Addr} (xa0 : PySem.W.nsIn K mainGlobals "BadSets" = some (some (.ref CC0))) (xt0 : PySem.W.typeIn K (.ref CC0) = some (.type "type")) (xk0 : PySem.W.keepIn K (.ref CC0) = true) (xe0 : PySem.W.subIn K (.ref CC0) (.type "BaseException") = some true) (xv0 : PySem.W.subIn K (.ref CC0) (.type "ValueError") = some true) (xh0 : PySem.W.hasDictIn K CC0 = true) (xs0 : PySem.W.subIn K (.ref CC0) (.ref CT) = some true) (xi0 : PySem.W.isClsIn K CC0 = true)
    (xg0 : PySem.W.findIn K (.ref CC0) "__getattribute__" = some (some (.builtin "BaseException.__getattribute__"))) (xn0 : PySem.W.findIn K (.ref CC0) "__getattr__" = some none) (xc0 : PySem.W.findIn K (.ref CC0) "__class__" = some (some (.builtin "object.__class__"))) (xm0 : PySem.W.mroIn K CC0 (.type "object") = some true)
    {xnm0 xq0 : Str} {xN0 : Addr} {xbs0 : List Value} {xsn0 : List Str} {xsub0 : List Value} {xab0 : Bool} {xcol0 : Option Bool} {xdd0 : Option Addr} {xm00 xm10 xm20 xm30 xm50 : Option Value}
    (yl0 : K.lookup CC0 = some (excClassObj xnm0 xq0 CC0 xN0 xbs0 [.ref CT, .type "ValueError", .type "Exception", .type "BaseException", .type "object"] true xsn0 xsub0 xab0 xcol0 xdd0 xm00 xm10 xm20 xm30 xm50 "ValueError.__new__"))
    (ys0 : PySem.W.findIn K (.ref CC0) "__setattr__" = some (some (.builtin "object.__setattr__"))) (yf0 : PySem.W.findIn K (.ref CC0) "why" = some none)
    {ff0 : Addr} {fod0 fan0 : Option Addr} {fsl0 : Array (Option Value)} {foc0 fkV0 fdc0 fpm0 fcd0 fct0 : Value} (yi0 : PySem.W.findIn K (.ref CC0) "__init__" = some (some (.ref ff0))) (yt0 : PySem.W.typeIn K (.ref ff0) = some (.type "function"))
    (yo0 : K.lookup ff0 = some ⟨foc0, fod0, .func (PySem.W.fnOf "__init__" "BadSets.__init__" (defArgs sI_BadSets) (defBody sI_BadSets) (defScope sI_BadSets) .none fkV0 fdc0 fpm0 fan0 fcd0 fct0), fsl0⟩) (yc0 : PySem.W.codeIn K fcd0 "BadSets.__init__" = true) (yk0 : PySem.W.keepIn K (.ref ff0) = true)
    {CC1 : Addr} (xa1 : PySem.W.nsIn K mainGlobals "BadTape" = some (some (.ref CC1))) (xt1 : PySem.W.typeIn K (.ref CC1) = some (.type "type")) (xk1 : PySem.W.keepIn K (.ref CC1) = true) (xe1 : PySem.W.subIn K (.ref CC1) (.type "BaseException") = some true) (xv1 : PySem.W.subIn K (.ref CC1) (.type "ValueError") = some true) (xh1 : PySem.W.hasDictIn K CC1 = true) (xs1 : PySem.W.subIn K (.ref CC1) (.ref CT) = some true) (xi1 : PySem.W.isClsIn K CC1 = true)
    (xg1 : PySem.W.findIn K (.ref CC1) "__getattribute__" = some (some (.builtin "BaseException.__getattribute__"))) (xn1 : PySem.W.findIn K (.ref CC1) "__getattr__" = some none) (xc1 : PySem.W.findIn K (.ref CC1) "__class__" = some (some (.builtin "object.__class__"))) (xm1 : PySem.W.mroIn K CC1 (.type "object") = some true)
    {xnm1 xq1 : Str} {xN1 : Addr} {xbs1 : List Value} {xsn1 : List Str} {xsub1 : List Value} {xab1 : Bool} {xcol1 : Option Bool} {xdd1 : Option Addr} {xm01 xm11 xm21 xm31 xm51 : Option Value}
    (yl1 : K.lookup CC1 = some (excClassObj xnm1 xq1 CC1 xN1 xbs1 [.ref CT, .type "ValueError", .type "Exception", .type "BaseException", .type "object"] true xsn1 xsub1 xab1 xcol1 xdd1 xm01 xm11 xm21 xm31 xm51 "ValueError.__new__"))
    (ys1 : PySem.W.findIn K (.ref CC1) "__setattr__" = some (some (.builtin "object.__setattr__"))) (yf1 : PySem.W.findIn K (.ref CC1) "at" = some none)
    {ff1 : Addr} {fod1 fan1 : Option Addr} {fsl1 : Array (Option Value)} {foc1 fkV1 fdc1 fpm1 fcd1 fct1 : Value} (yi1 : PySem.W.findIn K (.ref CC1) "__init__" = some (some (.ref ff1))) (yt1 : PySem.W.typeIn K (.ref ff1) = some (.type "function"))
    (yo1 : K.lookup ff1 = some ⟨foc1, fod1, .func (PySem.W.fnOf "__init__" "BadTape.__init__" (defArgs sI_BadTape) (defBody sI_BadTape) (defScope sI_BadTape) .none fkV1 fdc1 fpm1 fan1 fcd1 fct1), fsl1⟩) (yc1 : PySem.W.codeIn K fcd1 "BadTape.__init__" = true) (yk1 : PySem.W.keepIn K (.ref ff1) = true)
    {CC2 : Addr} (xa2 : PySem.W.nsIn K mainGlobals "NoSign" = some (some (.ref CC2))) (xt2 : PySem.W.typeIn K (.ref CC2) = some (.type "type")) (xk2 : PySem.W.keepIn K (.ref CC2) = true) (xe2 : PySem.W.subIn K (.ref CC2) (.type "BaseException") = some true) (xv2 : PySem.W.subIn K (.ref CC2) (.type "ValueError") = some true) (xh2 : PySem.W.hasDictIn K CC2 = true) (xs2 : PySem.W.subIn K (.ref CC2) (.ref CT) = some true) (xi2 : PySem.W.isClsIn K CC2 = true)
    (xg2 : PySem.W.findIn K (.ref CC2) "__getattribute__" = some (some (.builtin "BaseException.__getattribute__"))) (xn2 : PySem.W.findIn K (.ref CC2) "__getattr__" = some none) (xc2 : PySem.W.findIn K (.ref CC2) "__class__" = some (some (.builtin "object.__class__"))) (xm2 : PySem.W.mroIn K CC2 (.type "object") = some true)
    {xnm2 xq2 : Str} {xN2 : Addr} {xbs2 : List Value} {xsn2 : List Str} {xsub2 : List Value} {xab2 : Bool} {xcol2 : Option Bool} {xdd2 : Option Addr} {xm02 xm12 xm22 xm32 xm52 : Option Value}
    (yl2 : K.lookup CC2 = some (excClassObj xnm2 xq2 CC2 xN2 xbs2 [.ref CT, .type "ValueError", .type "Exception", .type "BaseException", .type "object"] true xsn2 xsub2 xab2 xcol2 xdd2 xm02 xm12 xm22 xm32 xm52 "ValueError.__new__"))
    (ys2 : PySem.W.findIn K (.ref CC2) "__setattr__" = some (some (.builtin "object.__setattr__"))) (yf2 : PySem.W.findIn K (.ref CC2) "at" = some none)
    {ff2 : Addr} {fod2 fan2 : Option Addr} {fsl2 : Array (Option Value)} {foc2 fkV2 fdc2 fpm2 fcd2 fct2 : Value} (yi2 : PySem.W.findIn K (.ref CC2) "__init__" = some (some (.ref ff2))) (yt2 : PySem.W.typeIn K (.ref ff2) = some (.type "function"))
    (yo2 : K.lookup ff2 = some ⟨foc2, fod2, .func (PySem.W.fnOf "__init__" "NoSign.__init__" (defArgs sI_NoSign) (defBody sI_NoSign) (defScope sI_NoSign) .none fkV2 fdc2 fpm2 fan2 fcd2 fct2), fsl2⟩) (yc2 : PySem.W.codeIn K fcd2 "NoSign.__init__" = true) (yk2 : PySem.W.keepIn K (.ref ff2) = true)
    {CC3 : Addr} (xa3 : PySem.W.nsIn K mainGlobals "BadNumber" = some (some (.ref CC3))) (xt3 : PySem.W.typeIn K (.ref CC3) = some (.type "type")) (xk3 : PySem.W.keepIn K (.ref CC3) = true) (xe3 : PySem.W.subIn K (.ref CC3) (.type "BaseException") = some true) (xv3 : PySem.W.subIn K (.ref CC3) (.type "ValueError") = some true) (xh3 : PySem.W.hasDictIn K CC3 = true) (xs3 : PySem.W.subIn K (.ref CC3) (.ref CT) = some true) (xi3 : PySem.W.isClsIn K CC3 = true)
    (xg3 : PySem.W.findIn K (.ref CC3) "__getattribute__" = some (some (.builtin "BaseException.__getattribute__"))) (xn3 : PySem.W.findIn K (.ref CC3) "__getattr__" = some none) (xc3 : PySem.W.findIn K (.ref CC3) "__class__" = some (some (.builtin "object.__class__"))) (xm3 : PySem.W.mroIn K CC3 (.type "object") = some true)
    (yx3 : PySem.W.excIn K CC3 [.type "ValueError", .type "Exception", .type "BaseException", .type "object"] "ValueError.__new__" = true)
    {CC4 : Addr} (xa4 : PySem.W.nsIn K mainGlobals "BadText" = some (some (.ref CC4))) (xt4 : PySem.W.typeIn K (.ref CC4) = some (.type "type")) (xk4 : PySem.W.keepIn K (.ref CC4) = true) (xe4 : PySem.W.subIn K (.ref CC4) (.type "BaseException") = some true) (xv4 : PySem.W.subIn K (.ref CC4) (.type "ValueError") = some true) (xh4 : PySem.W.hasDictIn K CC4 = true) (xs4 : PySem.W.subIn K (.ref CC4) (.ref CT) = some true) (xi4 : PySem.W.isClsIn K CC4 = true)
    (xg4 : PySem.W.findIn K (.ref CC4) "__getattribute__" = some (some (.builtin "BaseException.__getattribute__"))) (xn4 : PySem.W.findIn K (.ref CC4) "__getattr__" = some none) (xc4 : PySem.W.findIn K (.ref CC4) "__class__" = some (some (.builtin "object.__class__"))) (xm4 : PySem.W.mroIn K CC4 (.type "object") = some true)
    {xnm4 xq4 : Str} {xN4 : Addr} {xbs4 : List Value} {xsn4 : List Str} {xsub4 : List Value} {xab4 : Bool} {xcol4 : Option Bool} {xdd4 : Option Addr} {xm04 xm14 xm24 xm34 xm54 : Option Value}
    (yl4 : K.lookup CC4 = some (excClassObj xnm4 xq4 CC4 xN4 xbs4 [.ref CT, .type "ValueError", .type "Exception", .type "BaseException", .type "object"] true xsn4 xsub4 xab4 xcol4 xdd4 xm04 xm14 xm24 xm34 xm54 "ValueError.__new__"))
    (ys4 : PySem.W.findIn K (.ref CC4) "__setattr__" = some (some (.builtin "object.__setattr__"))) (yf4 : PySem.W.findIn K (.ref CC4) "place" = some none)
    {ff4 : Addr} {fod4 fan4 : Option Addr} {fsl4 : Array (Option Value)} {foc4 fkV4 fdc4 fpm4 fcd4 fct4 : Value} (yi4 : PySem.W.findIn K (.ref CC4) "__init__" = some (some (.ref ff4))) (yt4 : PySem.W.typeIn K (.ref ff4) = some (.type "function"))
    (yo4 : K.lookup ff4 = some ⟨foc4, fod4, .func (PySem.W.fnOf "__init__" "BadText.__init__" (defArgs sI_BadText) (defBody sI_BadText) (defScope sI_BadText) .none fkV4 fdc4 fpm4 fan4 fcd4 fct4), fsl4⟩) (yc4 : PySem.W.codeIn K fcd4 "BadText.__init__" = true) (yk4 : PySem.W.keepIn K (.ref ff4) = true)
    (ne0_1 : (Value.ref CC0 == Value.ref CC1) = false) (sb0_1 : PySem.W.subIn K (.ref CC0) (.ref CC1) = some false)
    (ne0_2 : (Value.ref CC0 == Value.ref CC2) = false) (sb0_2 : PySem.W.subIn K (.ref CC0) (.ref CC2) = some false)
    (ne0_3 : (Value.ref CC0 == Value.ref CC3) = false) (sb0_3 : PySem.W.subIn K (.ref CC0) (.ref CC3) = some false)
    (ne0_4 : (Value.ref CC0 == Value.ref CC4) = false) (sb0_4 : PySem.W.subIn K (.ref CC0) (.ref CC4) = some false)
    (ne1_0 : (Value.ref CC1 == Value.ref CC0) = false) (sb1_0 : PySem.W.subIn K (.ref CC1) (.ref CC0) = some false)
    (ne1_2 : (Value.ref CC1 == Value.ref CC2) = false) (sb1_2 : PySem.W.subIn K (.ref CC1) (.ref CC2) = some false)
    (ne1_3 : (Value.ref CC1 == Value.ref CC3) = false) (sb1_3 : PySem.W.subIn K (.ref CC1) (.ref CC3) = some false)
    (ne1_4 : (Value.ref CC1 == Value.ref CC4) = false) (sb1_4 : PySem.W.subIn K (.ref CC1) (.ref CC4) = some false)
    (ne2_0 : (Value.ref CC2 == Value.ref CC0) = false) (sb2_0 : PySem.W.subIn K (.ref CC2) (.ref CC0) = some false)
    (ne2_1 : (Value.ref CC2 == Value.ref CC1) = false) (sb2_1 : PySem.W.subIn K (.ref CC2) (.ref CC1) = some false)
    (ne2_3 : (Value.ref CC2 == Value.ref CC3) = false) (sb2_3 : PySem.W.subIn K (.ref CC2) (.ref CC3) = some false)
    (ne2_4 : (Value.ref CC2 == Value.ref CC4) = false) (sb2_4 : PySem.W.subIn K (.ref CC2) (.ref CC4) = some false)
    (ne3_0 : (Value.ref CC3 == Value.ref CC0) = false) (sb3_0 : PySem.W.subIn K (.ref CC3) (.ref CC0) = some false)
    (ne3_1 : (Value.ref CC3 == Value.ref CC1) = false) (sb3_1 : PySem.W.subIn K (.ref CC3) (.ref CC1) = some false)
    (ne3_2 : (Value.ref CC3 == Value.ref CC2) = false) (sb3_2 : PySem.W.subIn K (.ref CC3) (.ref CC2) = some false)
    (ne3_4 : (Value.ref CC3 == Value.ref CC4) = false) (sb3_4 : PySem.W.subIn K (.ref CC3) (.ref CC4) = some false)
    (ne4_0 : (Value.ref CC4 == Value.ref CC0) = false) (sb4_0 : PySem.W.subIn K (.ref CC4) (.ref CC0) = some false)
    (ne4_1 : (Value.ref CC4 == Value.ref CC1) = false) (sb4_1 : PySem.W.subIn K (.ref CC4) (.ref CC1) = some false)
    (ne4_2 : (Value.ref CC4 == Value.ref CC2) = false) (sb4_2 : PySem.W.subIn K (.ref CC4) (.ref CC2) = some false)
    (ne4_3 : (Value.ref CC4 == Value.ref CC3) = false) (sb4_3 : PySem.W.subIn K (.ref CC4) (.ref CC3) = some false)
    : LamX.LawAtS l w K CX0 8 63 "_law_script" mg fa h := by
  have e := hfa.symm.trans (PySem.W.mg_of X G a33)
  cases e
  have F0 := fun_mk (st := s_p_can_be_set) l0 c0 k0
  have F1 := fun_mk (st := s_p_check_sets) l1 c1 k1
  have F2 := fun_mk (st := s_p_check_tape) l2 c2 k2
  have F3 := fun_mk (st := s_p_check_state) l3 c3 k3
  have F4 := fun_mk (st := s_p_is_common) l4 c4 k4
  have F5 := fun_mk (st := s_p_read) l5 c5 k5
  have F6 := fun_mk (st := s_p_spoilt) l6 c6 k6
  have F7 := fun_mk (st := s_p_losses) l7 c7 k7
  have F8 := fun_mk (st := s_p_worst) l8 c8 k8
  have F9 := fun_mk (st := s_p_by_state) l9 c9 k9
  have F10 := fun_mk (st := s_p_written) l10 c10 k10
  have F11 := fun_mk (st := s_p_check_text) l11 c11 k11
  have F12 := fun_mk (st := s_p_sign_step) l12 c12 k12
  have F13 := fun_mk (st := s_p_steps) l13 c13 k13
  have F14 := fun_mk (st := s_p_lengths_ahead) l14 c14 k14
  have F15 := fun_mk (st := s_p_shortest_lengths) l15 c15 k15
  have F16 := fun_mk (st := s_p_shortest) l16 c16 k16
  have F17 := fun_mk (st := s_p_least) l17 c17 k17
  have F18 := fun_mk (st := s_p_guarded) l18 c18 k18
  have F19 := fun_mk (st := s_p_trimmed) l19 c19 k19
  have F20 := fun_mk (st := s_p_is_read_otherwise) l20 c20 k20
  have F21 := fun_mk (st := s_p_joined) l21 c21 k21
  have F22 := fun_mk (st := s_p_cut) l22 c22 k22
  have F23 := fun_mk (st := s_l_dice) l23 c23 k23
  have F24 := fun_mk (st := s_l_off) l24 c24 k24
  have F25 := fun_mk (st := s_l_alike) l25 c25 k25
  have F26 := fun_mk (st := s_l_mixed) l26 c26 k26
  have F27 := fun_mk (st := s_l_refused) l27 c27 k27
  have F28 := fun_mk (st := s_l_sets) l28 c28 k28
  have F29 := fun_mk (st := s_l_text) l29 c29 k29
  have F30 := fun_mk (st := s_l_tape) l30 c30 k30
  have F31 := fun_mk (st := s_l_absent) l31 c31 k31
  have FC32 := funC_mk (st := s_l_works) l32 c32 k32
  have F32 := FC32.toFun
  have FC33 := funC_mk (st := s_law) l33 c33 k33
  have F33 := FC33.toFun
  let TE : TCls K mg "TapeError" := { C := CT, g := PySem.W.mg_of X G aT, ty := tT, ns := nT, fi := fT }
  have ec0 : ExcC K CC0 := ⟨xg0, xn0, xe0, xh0, xc0, gS, gT, xm0⟩
  have FI0 := fun_mk (st := sI_BadSets) yo0 yc0 yk0
  let X0 : XCls K mg "BadSets" "why" "BadSets.__init__" sI_BadSets CT := { C := CC0, fI := ff0, fd := _, g := PySem.W.mg_of X G xa0, ox := ⟨⟨_, _, _, _, _, _, _, _, _, _, _, _, _, _, _, yl0, by rfl⟩, ys0, xe0, xt0, xk0⟩, ec := ec0, nf := yf0, iC := yi0, tI := yt0, F := FI0, b := FI0.binds (ps := ["self", "why"]) fun _ _ _ _ _ _ us hl => match us, hl with | [_, _], _ => rfl, ex := PySem.W.exm_ref eT hT tT xs0 }
  have ec1 : ExcC K CC1 := ⟨xg1, xn1, xe1, xh1, xc1, gS, gT, xm1⟩
  have FI1 := fun_mk (st := sI_BadTape) yo1 yc1 yk1
  let X1 : XCls K mg "BadTape" "at" "BadTape.__init__" sI_BadTape CT := { C := CC1, fI := ff1, fd := _, g := PySem.W.mg_of X G xa1, ox := ⟨⟨_, _, _, _, _, _, _, _, _, _, _, _, _, _, _, yl1, by rfl⟩, ys1, xe1, xt1, xk1⟩, ec := ec1, nf := yf1, iC := yi1, tI := yt1, F := FI1, b := FI1.binds (ps := ["self", "at"]) fun _ _ _ _ _ _ us hl => match us, hl with | [_, _], _ => rfl, ex := PySem.W.exm_ref eT hT tT xs1 }
  have ec2 : ExcC K CC2 := ⟨xg2, xn2, xe2, xh2, xc2, gS, gT, xm2⟩
  have FI2 := fun_mk (st := sI_NoSign) yo2 yc2 yk2
  let X2 : XCls K mg "NoSign" "at" "NoSign.__init__" sI_NoSign CT := { C := CC2, fI := ff2, fd := _, g := PySem.W.mg_of X G xa2, ox := ⟨⟨_, _, _, _, _, _, _, _, _, _, _, _, _, _, _, yl2, by rfl⟩, ys2, xe2, xt2, xk2⟩, ec := ec2, nf := yf2, iC := yi2, tI := yt2, F := FI2, b := FI2.binds (ps := ["self", "at"]) fun _ _ _ _ _ _ us hl => match us, hl with | [_, _], _ => rfl, ex := PySem.W.exm_ref eT hT tT xs2 }
  have ec3 : ExcC K CC3 := ⟨xg3, xn3, xe3, xh3, xc3, gS, gT, xm3⟩
  let X3 : NCls K mg "BadNumber" CT := { C := CC3, g := PySem.W.mg_of X G xa3, xc := yx3, kp := xk3, sb := xe3, ty := xt3, ec := ec3, ex := PySem.W.exm_ref eT hT tT xs3 }
  have ec4 : ExcC K CC4 := ⟨xg4, xn4, xe4, xh4, xc4, gS, gT, xm4⟩
  have FI4 := fun_mk (st := sI_BadText) yo4 yc4 yk4
  let X4 : XCls K mg "BadText" "place" "BadText.__init__" sI_BadText CT := { C := CC4, fI := ff4, fd := _, g := PySem.W.mg_of X G xa4, ox := ⟨⟨_, _, _, _, _, _, _, _, _, _, _, _, _, _, _, yl4, by rfl⟩, ys4, xe4, xt4, xk4⟩, ec := ec4, nf := yf4, iC := yi4, tI := yt4, F := FI4, b := FI4.binds (ps := ["self", "place"]) fun _ _ _ _ _ _ us hl => match us, hl with | [_, _], _ => rfl, ex := PySem.W.exm_ref eT hT tT xs4 }
  let T : Txt K mg := {
    a_p_can_be_set := _, d_p_can_be_set := _, F_p_can_be_set := F0, g_p_can_be_set := PySem.W.mg_of X G a0,
    b_p_can_be_set := F0.binds (ps := ["text"]) fun _ _ _ _ _ _ us hl => match us, hl with | [_], _ => rfl,
    a_p_check_sets := _, d_p_check_sets := _, F_p_check_sets := F1, g_p_check_sets := PySem.W.mg_of X G a1,
    b_p_check_sets := F1.binds (ps := ["sets"]) fun _ _ _ _ _ _ us hl => match us, hl with | [_], _ => rfl,
    a_p_check_tape := _, d_p_check_tape := _, F_p_check_tape := F2, g_p_check_tape := PySem.W.mg_of X G a2,
    b_p_check_tape := F2.binds (ps := ["sets", "tape"]) fun _ _ _ _ _ _ us hl => match us, hl with | [_, _], _ => rfl,
    a_p_check_state := _, d_p_check_state := _, F_p_check_state := F3, g_p_check_state := PySem.W.mg_of X G a3,
    b_p_check_state := F3.binds (ps := ["state"]) fun _ _ _ _ _ _ us hl => match us, hl with | [_], _ => rfl,
    a_p_is_common := _, d_p_is_common := _, F_p_is_common := F4, g_p_is_common := PySem.W.mg_of X G a4,
    b_p_is_common := F4.binds (ps := ["sets", "code"]) fun _ _ _ _ _ _ us hl => match us, hl with | [_, _], _ => rfl,
    a_p_read := _, d_p_read := _, F_p_read := F5, g_p_read := PySem.W.mg_of X G a5,
    b_p_read := F5.binds (ps := ["sets", "tape", "state"]) fun _ _ _ _ _ _ us hl => match us, hl with | [_, _, _], _ => rfl,
    a_p_spoilt := _, d_p_spoilt := _, F_p_spoilt := F6, g_p_spoilt := PySem.W.mg_of X G a6,
    b_p_spoilt := F6.binds (ps := ["sets", "codes"]) fun _ _ _ _ _ _ us hl => match us, hl with | [_, _], _ => rfl,
    a_p_losses := _, d_p_losses := _, F_p_losses := F7, g_p_losses := PySem.W.mg_of X G a7,
    b_p_losses := F7.binds (ps := ["sets", "tape", "state"]) fun _ _ _ _ _ _ us hl => match us, hl with | [_, _, _], _ => rfl,
    a_p_worst := _, d_p_worst := _, F_p_worst := F8, g_p_worst := PySem.W.mg_of X G a8,
    b_p_worst := F8.binds (ps := ["sets", "tape", "state"]) fun _ _ _ _ _ _ us hl => match us, hl with | [_, _, _], _ => rfl,
    a_p_by_state := _, d_p_by_state := _, F_p_by_state := F9, g_p_by_state := PySem.W.mg_of X G a9,
    b_p_by_state := F9.binds (ps := ["sets", "tape"]) fun _ _ _ _ _ _ us hl => match us, hl with | [_, _], _ => rfl,
    a_p_written := _, d_p_written := _, F_p_written := F10, g_p_written := PySem.W.mg_of X G a10,
    b_p_written := F10.binds (ps := ["sets", "tape"]) fun _ _ _ _ _ _ us hl => match us, hl with | [_, _], _ => rfl,
    a_p_check_text := _, d_p_check_text := _, F_p_check_text := F11, g_p_check_text := PySem.W.mg_of X G a11,
    b_p_check_text := F11.binds (ps := ["sets", "text"]) fun _ _ _ _ _ _ us hl => match us, hl with | [_, _], _ => rfl,
    a_p_sign_step := _, d_p_sign_step := _, F_p_sign_step := F12, g_p_sign_step := PySem.W.mg_of X G a12,
    b_p_sign_step := F12.binds (ps := ["sets", "sign", "state", "left"]) fun _ _ _ _ _ _ us hl => match us, hl with | [_, _, _, _], _ => rfl,
    a_p_steps := _, d_p_steps := _, F_p_steps := F13, g_p_steps := PySem.W.mg_of X G a13,
    b_p_steps := F13.binds (ps := ["sets", "sign", "state", "left", "most"]) fun _ _ _ _ _ _ us hl => match us, hl with | [_, _, _, _, _], _ => rfl,
    a_p_lengths_ahead := _, d_p_lengths_ahead := _, F_p_lengths_ahead := F14, g_p_lengths_ahead := PySem.W.mg_of X G a14,
    b_p_lengths_ahead := F14.binds (ps := ["sets", "sign", "behind", "most"]) fun _ _ _ _ _ _ us hl => match us, hl with | [_, _, _, _], _ => rfl,
    a_p_shortest_lengths := _, d_p_shortest_lengths := _, F_p_shortest_lengths := F15, g_p_shortest_lengths := PySem.W.mg_of X G a15,
    b_p_shortest_lengths := F15.binds (ps := ["sets", "text", "most"]) fun _ _ _ _ _ _ us hl => match us, hl with | [_, _, _], _ => rfl,
    a_p_shortest := _, d_p_shortest := _, F_p_shortest := F16, g_p_shortest := PySem.W.mg_of X G a16,
    b_p_shortest := F16.binds (ps := ["sets", "text", "state", "most"]) fun _ _ _ _ _ _ us hl => match us, hl with | [_, _, _, _], _ => rfl,
    a_p_least := _, d_p_least := _, F_p_least := F17, g_p_least := PySem.W.mg_of X G a17,
    b_p_least := F17.binds (ps := ["sets", "text", "state"]) fun _ _ _ _ _ _ us hl => match us, hl with | [_, _, _], _ => rfl,
    a_p_guarded := _, d_p_guarded := _, F_p_guarded := F18, g_p_guarded := PySem.W.mg_of X G a18,
    b_p_guarded := F18.binds (ps := ["sets", "text", "state", "most"]) fun _ _ _ _ _ _ us hl => match us, hl with | [_, _, _, _], _ => rfl,
    a_p_trimmed := _, d_p_trimmed := _, F_p_trimmed := F19, g_p_trimmed := PySem.W.mg_of X G a19,
    b_p_trimmed := F19.binds (ps := ["sets", "tape", "state"]) fun _ _ _ _ _ _ us hl => match us, hl with | [_, _, _], _ => rfl,
    a_p_is_read_otherwise := _, d_p_is_read_otherwise := _, F_p_is_read_otherwise := F20, g_p_is_read_otherwise := PySem.W.mg_of X G a20,
    b_p_is_read_otherwise := F20.binds (ps := ["sets", "ahead", "behind"]) fun _ _ _ _ _ _ us hl => match us, hl with | [_, _, _], _ => rfl,
    a_p_joined := _, d_p_joined := _, F_p_joined := F21, g_p_joined := PySem.W.mg_of X G a21,
    b_p_joined := F21.binds (ps := ["sets", "one", "other"]) fun _ _ _ _ _ _ us hl => match us, hl with | [_, _, _], _ => rfl,
    a_p_cut := _, d_p_cut := _, F_p_cut := F22, g_p_cut := PySem.W.mg_of X G a22,
    b_p_cut := F22.binds (ps := ["sets", "tape", "at"]) fun _ _ _ _ _ _ us hl => match us, hl with | [_, _, _], _ => rfl,
    a_l_dice := _, d_l_dice := _, F_l_dice := F23, g_l_dice := PySem.W.mg_of X G a23,
    b_l_dice := F23.binds (ps := ["_law_script", "_law_k"]) fun _ _ _ _ _ _ us hl => match us, hl with | [_, _], _ => rfl,
    a_l_off := _, d_l_off := _, F_l_off := F24, g_l_off := PySem.W.mg_of X G a24,
    b_l_off := F24.binds (ps := ["_law_d", "_law_most"]) fun _ _ _ _ _ _ us hl => match us, hl with | [_, _], _ => rfl,
    a_l_alike := _, d_l_alike := _, F_l_alike := F25, g_l_alike := PySem.W.mg_of X G a25,
    b_l_alike := F25.binds (ps := ["_law_found", "_law_due"]) fun _ _ _ _ _ _ us hl => match us, hl with | [_, _], _ => rfl,
    a_l_mixed := _, d_l_mixed := _, F_l_mixed := F26, g_l_mixed := PySem.W.mg_of X G a26,
    b_l_mixed := F26.binds (ps := ["_law_d", "_law_row"]) fun _ _ _ _ _ _ us hl => match us, hl with | [_, _], _ => rfl,
    a_l_refused := _, d_l_refused := _, F_l_refused := F27, g_l_refused := PySem.W.mg_of X G a27,
    b_l_refused := F27.binds (ps := ["_law_work", "_law_word", "_law_value"]) fun _ _ _ _ _ _ us hl => match us, hl with | [_, _, _], _ => rfl,
    a_l_sets := _, d_l_sets := _, F_l_sets := F28, g_l_sets := PySem.W.mg_of X G a28,
    b_l_sets := F28.binds (ps := ["_law_d"]) fun _ _ _ _ _ _ us hl => match us, hl with | [_], _ => rfl,
    a_l_text := _, d_l_text := _, F_l_text := F29, g_l_text := PySem.W.mg_of X G a29,
    b_l_text := F29.binds (ps := ["_law_d", "_law_sets_here", "_law_most"]) fun _ _ _ _ _ _ us hl => match us, hl with | [_, _, _], _ => rfl,
    a_l_tape := _, d_l_tape := _, F_l_tape := F30, g_l_tape := PySem.W.mg_of X G a30,
    b_l_tape := F30.binds (ps := ["_law_d", "_law_sets_here", "_law_most"]) fun _ _ _ _ _ _ us hl => match us, hl with | [_, _, _], _ => rfl,
    a_l_absent := _, d_l_absent := _, F_l_absent := F31, g_l_absent := PySem.W.mg_of X G a31,
    b_l_absent := F31.binds (ps := ["_law_sets_here"]) fun _ _ _ _ _ _ us hl => match us, hl with | [_], _ => rfl,
    a_l_works := _, d_l_works := _, F_l_works := F32, g_l_works := PySem.W.mg_of X G a32,
    c_l_works := _, P_l_works := P32, FC_l_works := FC32,
    b_l_works := F32.binds (ps := ["_law_sets_here", "_law_tape_here", "_law_state"]) fun _ _ _ _ _ _ us hl => match us, hl with | [_, _, _], _ => rfl,
    a_law := _, d_law := _, F_law := F33, g_law := PySem.W.mg_of X G a33,
    c_law := _, P_law := P33, FC_law := FC33,
    b_law := F33.binds (ps := ["_law_script"]) fun _ _ _ _ _ _ us hl => match us, hl with | [_], _ => rfl,
    m_ValueError := PySem.W.mg_none_of X G z0,
    m_abs := PySem.W.mg_none_of X G z1,
    m_all := PySem.W.mg_none_of X G z2,
    m_bool := PySem.W.mg_none_of X G z3,
    m_enumerate := PySem.W.mg_none_of X G z4,
    m_int := PySem.W.mg_none_of X G z5,
    m_isinstance := PySem.W.mg_none_of X G z6,
    m_len := PySem.W.mg_none_of X G z7,
    m_list := PySem.W.mg_none_of X G z8,
    m_max := PySem.W.mg_none_of X G z9,
    m_min := PySem.W.mg_none_of X G z10,
    m_range := PySem.W.mg_none_of X G z11,
    m_reversed := PySem.W.mg_none_of X G z12,
    m_set := PySem.W.mg_none_of X G z13,
    m_str := PySem.W.mg_none_of X G z14,
    m_tuple := PySem.W.mg_none_of X G z15,
    TE := TE,
    X_BadSets := X0,
    X_BadTape := X1,
    X_NoSign := X2,
    X_BadNumber := X3,
    X_BadText := X4,
    k_BadSets_V := kit_blt (by rfl) xv0,
    k_BadSets_BadSets := kit_self,
    k_BadSets_BadTape := kit_mk ne0_1 xi1 xt1 sb0_1,
    k_BadSets_NoSign := kit_mk ne0_2 xi2 xt2 sb0_2,
    k_BadSets_BadNumber := kit_mk ne0_3 xi3 xt3 sb0_3,
    k_BadSets_BadText := kit_mk ne0_4 xi4 xt4 sb0_4,
    k_BadTape_V := kit_blt (by rfl) xv1,
    k_BadTape_BadSets := kit_mk ne1_0 xi0 xt0 sb1_0,
    k_BadTape_BadTape := kit_self,
    k_BadTape_NoSign := kit_mk ne1_2 xi2 xt2 sb1_2,
    k_BadTape_BadNumber := kit_mk ne1_3 xi3 xt3 sb1_3,
    k_BadTape_BadText := kit_mk ne1_4 xi4 xt4 sb1_4,
    k_NoSign_V := kit_blt (by rfl) xv2,
    k_NoSign_BadSets := kit_mk ne2_0 xi0 xt0 sb2_0,
    k_NoSign_BadTape := kit_mk ne2_1 xi1 xt1 sb2_1,
    k_NoSign_NoSign := kit_self,
    k_NoSign_BadNumber := kit_mk ne2_3 xi3 xt3 sb2_3,
    k_NoSign_BadText := kit_mk ne2_4 xi4 xt4 sb2_4,
    k_BadNumber_V := kit_blt (by rfl) xv3,
    k_BadNumber_BadSets := kit_mk ne3_0 xi0 xt0 sb3_0,
    k_BadNumber_BadTape := kit_mk ne3_1 xi1 xt1 sb3_1,
    k_BadNumber_NoSign := kit_mk ne3_2 xi2 xt2 sb3_2,
    k_BadNumber_BadNumber := kit_self,
    k_BadNumber_BadText := kit_mk ne3_4 xi4 xt4 sb3_4,
    k_BadText_V := kit_blt (by rfl) xv4,
    k_BadText_BadSets := kit_mk ne4_0 xi0 xt0 sb4_0,
    k_BadText_BadTape := kit_mk ne4_1 xi1 xt1 sb4_1,
    k_BadText_NoSign := kit_mk ne4_2 xi2 xt2 sb4_2,
    k_BadText_BadNumber := kit_mk ne4_3 xi3 xt3 sb4_3,
    k_BadText_BadText := kit_self,
    t_MOST_SIGNS := _, c_MOST_SIGNS := PySem.W.mg_of X G q0,
    t_MOST_CODES := _, c_MOST_CODES := PySem.W.mg_of X G q1,
    t_MOST_SPOILT := _, c_MOST_SPOILT := PySem.W.mg_of X G q2,
    t_FREE := _, c_FREE := PySem.W.mg_of X G q3,
    t_NEVER := _, c_NEVER := PySem.W.mg_of X G q4 }
  have ok := fun (base : Heap) (_ : K.In base) (_ : base.Ns mainGlobals mg) (TB : ∀ p ∈ ([(C32, P32), (C33, P33)] : List (Addr × Addr)), LamX.TabB base mg p.1 p.2) => ok_law (P := l.prog) (w := w) T (TB (C32, P32) (.head _)) (TB (C33, P33) (.tail _ (.head _))) nq33_32
  have hTb : ∀ H : Hp, (∀ p ∈ ([(C32, P32), (C33, P33)] : List (Addr × Addr)), H p.2 = some (.tbl #[])) → ∀ Pt ∈ [P32, P33], H Pt = some (.tbl #[]) := by
    intro H hT Pt hP
    simp only [List.mem_cons, List.not_mem_nil, or_false] at hP
    rcases hP with hP | hP
    · rw [hP]; exact hT (C32, P32) (.head _)
    · rw [hP]; exact hT (C33, P33) (.tail _ (.head _))
  exact ⟨_, [(C32, P32), (C33, P33)], spLawT K [P32, P33], List.forall_mem_cons.mpr ⟨hX32.1, List.forall_mem_cons.mpr ⟨hX33.1, (fun _ z => nomatch z)⟩⟩, List.forall_mem_cons.mpr ⟨nP32, List.forall_mem_cons.mpr ⟨nP33, (fun _ z => nomatch z)⟩⟩, List.forall_mem_cons.mpr ⟨PySem.W.codeHd_of_K X hX32.2, List.forall_mem_cons.mpr ⟨PySem.W.codeHd_of_K X hX33.2, (fun _ z => nomatch z)⟩⟩, fun s v => .of_eq rfl, fun H a ns hn _ hT hS => ⟨a, ns, rfl, hS, hn, hTb H hT, fun _ => rfl⟩, ok⟩
end Sh
open PySem PySem.W PyProof.Rows
set_option maxHeartbeats 0 in
theorem PySem.Challenge.cw_shiftrow_k03_tapes_and_states_refused_holds : PySem.Challenge.rw_shiftrow_k03_tapes_and_states_refused.Holds := by
  w_on; o_law; k_head; (case hw => w_witness2)
  k_fill
  refine LamX.walk_ofTs (l := PySem.Challenge.rw_shiftrow_k03_tapes_and_states_refused) (n := 63) (k := 8) (x := "_law_script") (CX := fun _ => L2.CX0) rfl (by decide) rfl ⟨rfl, by decide, by decide⟩ (fun w h Y => PySem.W.km_in_of Y) ?F (fun _ _ _ _ _ h => h)
  case F =>
    intro w mg fa h Y KX G hmg
    have hT8 := PySem.W.km_tabs_of Y
    refine' Sh.all_mk KX G hmg ?a0 ?l0 ?c0 ?k0 ?a1 ?l1 ?c1 ?k1 ?a2 ?l2 ?c2 ?k2 ?a3 ?l3 ?c3 ?k3 ?a4 ?l4 ?c4 ?k4 ?a5 ?l5 ?c5 ?k5 ?a6 ?l6 ?c6 ?k6 ?a7 ?l7 ?c7 ?k7 ?a8 ?l8 ?c8 ?k8 ?a9 ?l9 ?c9 ?k9 ?a10 ?l10 ?c10 ?k10 ?a11 ?l11 ?c11 ?k11 ?a12 ?l12 ?c12 ?k12 ?a13 ?l13 ?c13 ?k13 ?a14 ?l14 ?c14 ?k14 ?a15 ?l15 ?c15 ?k15 ?a16 ?l16 ?c16 ?k16 ?a17 ?l17 ?c17 ?k17 ?a18 ?l18 ?c18 ?k18 ?a19 ?l19 ?c19 ?k19 ?a20 ?l20 ?c20 ?k20 ?a21 ?l21 ?c21 ?k21 ?a22 ?l22 ?c22 ?k22 ?a23 ?l23 ?c23 ?k23 ?a24 ?l24 ?c24 ?k24 ?a25 ?l25 ?c25 ?k25 ?a26 ?l26 ?c26 ?k26 ?a27 ?l27 ?c27 ?k27 ?a28 ?l28 ?c28 ?k28 ?a29 ?l29 ?c29 ?k29 ?a30 ?l30 ?c30 ?k30 ?a31 ?l31 ?c31 ?k31 ?hX32 ?nP32 ?a32 ?l32 ?c32 ?k32 ?hX33 ?nP33 ?a33 ?l33 ?c33 ?k33 ?nq33_32 ?z0 ?z1 ?z2 ?z3 ?z4 ?z5 ?z6 ?z7 ?z8 ?z9 ?z10 ?z11 ?z12 ?z13 ?z14 ?z15 ?q0 ?q1 ?q2 ?q3 ?q4 ?aT ?tT ?nT ?fT ?eT ?hT ?gS ?gT ?xa0 ?xt0 ?xk0 ?xe0 ?xv0 ?xh0 ?xs0 ?xi0 ?xg0 ?xn0 ?xc0 ?xm0 ?yl0 ?ys0 ?yf0 ?yi0 ?yt0 ?yo0 ?yc0 ?yk0 ?xa1 ?xt1 ?xk1 ?xe1 ?xv1 ?xh1 ?xs1 ?xi1 ?xg1 ?xn1 ?xc1 ?xm1 ?yl1 ?ys1 ?yf1 ?yi1 ?yt1 ?yo1 ?yc1 ?yk1 ?xa2 ?xt2 ?xk2 ?xe2 ?xv2 ?xh2 ?xs2 ?xi2 ?xg2 ?xn2 ?xc2 ?xm2 ?yl2 ?ys2 ?yf2 ?yi2 ?yt2 ?yo2 ?yc2 ?yk2 ?xa3 ?xt3 ?xk3 ?xe3 ?xv3 ?xh3 ?xs3 ?xi3 ?xg3 ?xn3 ?xc3 ?xm3 ?yx3 ?xa4 ?xt4 ?xk4 ?xe4 ?xv4 ?xh4 ?xs4 ?xi4 ?xg4 ?xn4 ?xc4 ?xm4 ?yl4 ?ys4 ?yf4 ?yi4 ?yt4 ?yo4 ?yc4 ?yk4 ?ne0_1 ?sb0_1 ?ne0_2 ?sb0_2 ?ne0_3 ?sb0_3 ?ne0_4 ?sb0_4 ?ne1_0 ?sb1_0 ?ne1_2 ?sb1_2 ?ne1_3 ?sb1_3 ?ne1_4 ?sb1_4 ?ne2_0 ?sb2_0 ?ne2_1 ?sb2_1 ?ne2_3 ?sb2_3 ?ne2_4 ?sb2_4 ?ne3_0 ?sb3_0 ?ne3_1 ?sb3_1 ?ne3_2 ?sb3_2 ?ne3_4 ?sb3_4 ?ne4_0 ?sb4_0 ?ne4_1 ?sb4_1 ?ne4_2 ?sb4_2 ?ne4_3 ?sb4_3
    (case a0 => k_is); (case l0 => k_is); (case c0 => k_is); (case k0 => k_is); (case a1 => k_is); (case l1 => k_is); (case c1 => k_is); (case k1 => k_is); (case a2 => k_is); (case l2 => k_is); (case c2 => k_is); (case k2 => k_is); (case a3 => k_is); (case l3 => k_is); (case c3 => k_is); (case k3 => k_is); (case a4 => k_is); (case l4 => k_is); (case c4 => k_is); (case k4 => k_is); (case a5 => k_is); (case l5 => k_is); (case c5 => k_is); (case k5 => k_is); (case a6 => k_is); (case l6 => k_is); (case c6 => k_is); (case k6 => k_is); (case a7 => k_is); (case l7 => k_is); (case c7 => k_is); (case k7 => k_is); (case a8 => k_is); (case l8 => k_is); (case c8 => k_is); (case k8 => k_is); (case a9 => k_is); (case l9 => k_is); (case c9 => k_is); (case k9 => k_is); (case a10 => k_is); (case l10 => k_is); (case c10 => k_is); (case k10 => k_is); (case a11 => k_is); (case l11 => k_is); (case c11 => k_is); (case k11 => k_is); (case a12 => k_is); (case l12 => k_is); (case c12 => k_is); (case k12 => k_is); (case a13 => k_is); (case l13 => k_is); (case c13 => k_is); (case k13 => k_is); (case a14 => k_is); (case l14 => k_is); (case c14 => k_is); (case k14 => k_is); (case a15 => k_is); (case l15 => k_is); (case c15 => k_is); (case k15 => k_is); (case a16 => k_is); (case l16 => k_is); (case c16 => k_is); (case k16 => k_is); (case a17 => k_is); (case l17 => k_is); (case c17 => k_is); (case k17 => k_is); (case a18 => k_is); (case l18 => k_is); (case c18 => k_is); (case k18 => k_is); (case a19 => k_is); (case l19 => k_is); (case c19 => k_is); (case k19 => k_is); (case a20 => k_is); (case l20 => k_is); (case c20 => k_is); (case k20 => k_is); (case a21 => k_is); (case l21 => k_is); (case c21 => k_is); (case k21 => k_is); (case a22 => k_is); (case l22 => k_is); (case c22 => k_is); (case k22 => k_is); (case a23 => k_is); (case l23 => k_is); (case c23 => k_is); (case k23 => k_is); (case a24 => k_is); (case l24 => k_is); (case c24 => k_is); (case k24 => k_is); (case a25 => k_is); (case l25 => k_is); (case c25 => k_is); (case k25 => k_is); (case a26 => k_is); (case l26 => k_is); (case c26 => k_is); (case k26 => k_is); (case a27 => k_is); (case l27 => k_is); (case c27 => k_is); (case k27 => k_is); (case a28 => k_is); (case l28 => k_is); (case c28 => k_is); (case k28 => k_is); (case a29 => k_is); (case l29 => k_is); (case c29 => k_is); (case k29 => k_is); (case a30 => k_is); (case l30 => k_is); (case c30 => k_is); (case k30 => k_is); (case a31 => k_is); (case l31 => k_is); (case c31 => k_is); (case k31 => k_is); (case a32 => k_is); (case l32 => k_is); (case c32 => k_is); (case k32 => k_is); (case a33 => k_is); (case l33 => k_is); (case c33 => k_is); (case k33 => k_is); (case z0 => k_is); (case z1 => k_is); (case z2 => k_is); (case z3 => k_is); (case z4 => k_is); (case z5 => k_is); (case z6 => k_is); (case z7 => k_is); (case z8 => k_is); (case z9 => k_is); (case z10 => k_is); (case z11 => k_is); (case z12 => k_is); (case z13 => k_is); (case z14 => k_is); (case z15 => k_is); (case q0 => k_is); (case q1 => k_is); (case q2 => k_is); (case q3 => k_is); (case q4 => k_is); (case aT => k_is); (case tT => k_is); (case nT => k_is); (case fT => k_is); (case eT => k_is); (case hT => k_is); (case gS => k_is); (case gT => k_is); (case xa0 => k_is); (case xt0 => k_is); (case xk0 => k_is); (case xe0 => k_is); (case xv0 => k_is); (case xh0 => k_is); (case xs0 => k_is); (case xi0 => k_is); (case xg0 => k_is); (case xn0 => k_is); (case xc0 => k_is); (case xm0 => k_is); (case yl0 => k_is); (case ys0 => k_is); (case yf0 => k_is); (case yi0 => k_is); (case yt0 => k_is); (case yo0 => k_is); (case yc0 => k_is); (case yk0 => k_is); (case xa1 => k_is); (case xt1 => k_is); (case xk1 => k_is); (case xe1 => k_is); (case xv1 => k_is); (case xh1 => k_is); (case xs1 => k_is); (case xi1 => k_is); (case xg1 => k_is); (case xn1 => k_is); (case xc1 => k_is); (case xm1 => k_is); (case yl1 => k_is); (case ys1 => k_is); (case yf1 => k_is); (case yi1 => k_is); (case yt1 => k_is); (case yo1 => k_is); (case yc1 => k_is); (case yk1 => k_is); (case xa2 => k_is); (case xt2 => k_is); (case xk2 => k_is); (case xe2 => k_is); (case xv2 => k_is); (case xh2 => k_is); (case xs2 => k_is); (case xi2 => k_is); (case xg2 => k_is); (case xn2 => k_is); (case xc2 => k_is); (case xm2 => k_is); (case yl2 => k_is); (case ys2 => k_is); (case yf2 => k_is); (case yi2 => k_is); (case yt2 => k_is); (case yo2 => k_is); (case yc2 => k_is); (case yk2 => k_is); (case xa3 => k_is); (case xt3 => k_is); (case xk3 => k_is); (case xe3 => k_is); (case xv3 => k_is); (case xh3 => k_is); (case xs3 => k_is); (case xi3 => k_is); (case xg3 => k_is); (case xn3 => k_is); (case xc3 => k_is); (case xm3 => k_is); (case yx3 => k_exc); (case xa4 => k_is); (case xt4 => k_is); (case xk4 => k_is); (case xe4 => k_is); (case xv4 => k_is); (case xh4 => k_is); (case xs4 => k_is); (case xi4 => k_is); (case xg4 => k_is); (case xn4 => k_is); (case xc4 => k_is); (case xm4 => k_is); (case yl4 => k_is); (case ys4 => k_is); (case yf4 => k_is); (case yi4 => k_is); (case yt4 => k_is); (case yo4 => k_is); (case yc4 => k_is); (case yk4 => k_is); (case ne0_1 => first | rfl | decide); (case sb0_1 => k_is); (case ne0_2 => first | rfl | decide); (case sb0_2 => k_is); (case ne0_3 => first | rfl | decide); (case sb0_3 => k_is); (case ne0_4 => first | rfl | decide); (case sb0_4 => k_is); (case ne1_0 => first | rfl | decide); (case sb1_0 => k_is); (case ne1_2 => first | rfl | decide); (case sb1_2 => k_is); (case ne1_3 => first | rfl | decide); (case sb1_3 => k_is); (case ne1_4 => first | rfl | decide); (case sb1_4 => k_is); (case ne2_0 => first | rfl | decide); (case sb2_0 => k_is); (case ne2_1 => first | rfl | decide); (case sb2_1 => k_is); (case ne2_3 => first | rfl | decide); (case sb2_3 => k_is); (case ne2_4 => first | rfl | decide); (case sb2_4 => k_is); (case ne3_0 => first | rfl | decide); (case sb3_0 => k_is); (case ne3_1 => first | rfl | decide); (case sb3_1 => k_is); (case ne3_2 => first | rfl | decide); (case sb3_2 => k_is); (case ne3_4 => first | rfl | decide); (case sb3_4 => k_is); (case ne4_0 => first | rfl | decide); (case sb4_0 => k_is); (case ne4_1 => first | rfl | decide); (case sb4_1 => k_is); (case ne4_2 => first | rfl | decide); (case sb4_2 => k_is); (case ne4_3 => first | rfl | decide); (case sb4_3 => k_is); (case hX32 => exact ⟨hT8 _ (.head _), by kernel_rfl⟩); (case hX33 => exact ⟨hT8 _ (.tail _ (.head _)), by kernel_rfl⟩); (case nP32 => kernel_rfl); (case nP33 => kernel_rfl); (case nq33_32 => first | decide | exact Nat.ne_of_beq_eq_false (by kernel_rfl))

