import PyProof.Rows.All
import Wide.All
import OpenK.AllK
import Wide.FinOn
import PyProof.EqAt
import PyProof.EqKinds
import PyProof.TupleCall
import KE.BitLaws
import Open.SpecLaws
import KE.OsHead
import KE.OsGo
import KE.KDictList
import PySem.Challenge.RW_keepable_s01_answers
set_option Elab.async false
set_option linter.all false
set_option maxRecDepth 100000
namespace L2
open PySem PySem.Spec PyProof.Rows
theorem au_rfl (_ : True := by rfl) : True := trivial
theorem au_dec (_ : True := by decide) : True := trivial
theorem au_in (_ : True := by intro _; rfl) : True := trivial
theorem au_or (_ : True := by first | exact .inl rfl | exact .inr rfl | assumption) : True := trivial

noncomputable abbrev Key := Sum Int Str
noncomputable def keyIs : Key → Value → Bool
  | .inl k, v => Value.isInt k v
  | .inr x, v => Value.isStrOf x v
noncomputable def keyH (w : World) : Key → Int
  | .inl k => hashInt k
  | .inr x => hashStr w x
theorem keyIs_shape : ∀ {k : Key} {v : Value}, keyIs k v = true → (∃ i t, k = Sum.inl i ∧ v = Value.int i t) ∨ (∃ x t, k = Sum.inr x ∧ v = Value.str x t)
  | .inl i, v, h => by
    obtain ⟨t, e⟩ := Value.isInt_shape (k := i) (v := v) h
    exact .inl ⟨i, t, rfl, e⟩
  | .inr x, v, h => by
    obtain ⟨t, e⟩ := Value.isStrOf_shape (x := x) (v := v) h
    exact .inr ⟨x, t, rfl, e⟩
theorem key_ll (a b : Int) : decide ((Sum.inl a : Key) = Sum.inl b) = (a == b) := by
  by_cases e : a = b
  · subst e; simp
  · have h : ¬ (Sum.inl a : Key) = Sum.inl b := fun q => e (Sum.inl.inj q)
    rw [decide_eq_false h]
    exact (beq_eq_false_iff_ne.mpr e).symm
theorem key_rr (a b : Str) : decide ((Sum.inr a : Key) = Sum.inr b) = decide (a = b) := by
  by_cases e : a = b
  · subst e; simp
  · have h : ¬ (Sum.inr a : Key) = Sum.inr b := fun q => e (Sum.inr.inj q)
    rw [decide_eq_false h, decide_eq_false e]
theorem key_lr (a : Int) (b : Str) : decide ((Sum.inl a : Key) = Sum.inr b) = false := decide_eq_false (fun q => nomatch q)
theorem key_rl (a : Str) (b : Int) : decide ((Sum.inr a : Key) = Sum.inl b) = false := decide_eq_false (fun q => nomatch q)

noncomputable def mixKind (prog : Program) (w : World) : PySem.KeyKind prog w Key where
  is := keyIs
  hash := keyH w
  inj := fun v a b ha hb => by
    rcases keyIs_shape ha with ⟨i, t, rfl, rfl⟩ | ⟨x, t, rfl, rfl⟩
    · rcases keyIs_shape hb with ⟨j, u, rfl, e⟩ | ⟨y, u, rfl, e⟩
      · injection e with e1 _; rw [e1]
      · exact nomatch e
    · rcases keyIs_shape hb with ⟨j, u, rfl, e⟩ | ⟨y, u, rfl, e⟩
      · exact nomatch e
      · injection e with e1 _; rw [e1]
  byValue := fun k v h => by
    rcases keyIs_shape h with ⟨i, t, rfl, rfl⟩ | ⟨x, t, rfl, rfl⟩ <;> rfl
  pyHash := fun hv h => by
    rcases keyIs_shape hv with ⟨i, t, rfl, rfl⟩ | ⟨x, t, rfl, rfl⟩
    · exact wpAny_pyHash_int h
    · exact wpAny_pyHash_str h
  eqBool := fun hu hv h => by
    rcases keyIs_shape hu with ⟨i, t, rfl, rfl⟩ | ⟨x, t, rfl, rfl⟩
    · rcases keyIs_shape hv with ⟨j, u, rfl, rfl⟩ | ⟨y, u, rfl, rfl⟩
      · rw [key_ll] at h; exact wpAny_eqBool_int h
      · rw [key_lr] at h; exact SeqAt.EqAt.int_str i t y u _ _ _ _ h
    · rcases keyIs_shape hv with ⟨j, u, rfl, rfl⟩ | ⟨y, u, rfl, rfl⟩
      · rw [key_rl] at h; exact SeqAt.EqAt.str_int x t j u _ _ _ _ h
      · rw [key_rr] at h; exact wpAny_eqBool_str h
  «strs» := fun k x t v h => by
    rcases keyIs_shape h with ⟨i, u, rfl, e⟩ | ⟨y, u, rfl, e⟩
    · exact nomatch e
    · injection e with e1 _
      subst e1
      cases v <;> rfl

end L2

namespace L2
open PySem
inductive GK where
  | non | tup (l : List Int) | two (x y : List Int)
  deriving DecidableEq
section
variable (P : Program) (w : World)
noncomputable def gIs (h : Heap) : GK → Value → Prop
  | .non, v => v = Value.none
  | .tup l, v => ∃ a, v = Value.ref a ∧ IsTupleKey (intKind P w) h l a
  | .two x y, v => ∃ a b c o n, v = Value.ref a ∧ h.get? a = some o ∧ o.cls = .type "tuple" ∧ o.data = .seq #[.ref b, .ref c] n ∧ IsTupleKey (intKind P w) h x b ∧ IsTupleKey (intKind P w) h y c
noncomputable def gHash : GK → Int
  | .non => 0xFCA86420
  | .tup l => tupleKeyHash (intKind P w) l
  | .two x y => reduceHash (Builtin.Tuple.tupleHashOf [tupleKeyHash (intKind P w) x, tupleKeyHash (intKind P w) y])
noncomputable def gD : GK → PyData
  | .non => .none
  | .tup l => .tuple (l.map PyData.int)
  | .two x y => .tuple [.tuple (x.map PyData.int), .tuple (y.map PyData.int)]
end
theorem gd_ints : ∀ l m : List Int, PyData.eqvAll (l.map PyData.int) (m.map PyData.int) = decide (l = m)
  | [], [] => by simp [PyData.eqvAll]
  | [], _ :: _ => by simp [PyData.eqvAll]
  | _ :: _, [] => by simp [PyData.eqvAll]
  | a :: l, b :: m => by
    rw [List.map_cons, List.map_cons, PyData.eqvAll, gd_ints l m, PyData.eqv]
    by_cases h1 : a = b <;> by_cases h2 : l = m <;> simp [h1, h2]
theorem gd_mixed : ∀ (l : List Int) (d : PyData) (r : List PyData) , (∀ i, PyData.eqv (.int i) d = false) → PyData.eqvAll (l.map PyData.int) (d :: r) = false
  | [], _, _, _ => by simp [PyData.eqvAll]
  | a :: l, d, r, h => by rw [List.map_cons, PyData.eqvAll, h a]; rfl
theorem gd_mixed2 : ∀ (l : List Int) (d : PyData) (r : List PyData) , (∀ i, PyData.eqv d (.int i) = false) → PyData.eqvAll (d :: r) (l.map PyData.int) = false
  | [], _, _, _ => by simp [PyData.eqvAll]
  | a :: l, d, r, h => by rw [List.map_cons, PyData.eqvAll, h a]; rfl
theorem gd_eq (a b : GK) : PyData.eqv (gD a) (gD b) = decide (a = b) := by
  cases a with
  | non => cases b <;> simp [gD, PyData.eqv]
  | tup l =>
    cases b with
    | non => simp [gD, PyData.eqv]
    | tup m => simp [gD, PyData.eqv, gd_ints]
    | two x y =>
      show PyData.eqvAll (l.map PyData.int) [.tuple (x.map PyData.int), .tuple (y.map PyData.int)] = _
      rw [gd_mixed l _ _ (fun i => by simp [PyData.eqv])]; simp
  | two x y =>
    cases b with
    | non => simp [gD, PyData.eqv]
    | tup m =>
      show PyData.eqvAll [.tuple (x.map PyData.int), .tuple (y.map PyData.int)] (m.map PyData.int) = _
      rw [gd_mixed2 m _ _ (fun i => by simp [PyData.eqv])]; simp
    | two u v =>
      show PyData.eqvAll [.tuple (x.map PyData.int), .tuple (y.map PyData.int)] [.tuple (u.map PyData.int), .tuple (v.map PyData.int)] = _
      simp only [PyData.eqvAll, PyData.eqv, gd_ints]
      by_cases h1 : x = u <;> by_cases h2 : y = v <;> simp [h1, h2]
theorem gd_lay_ints : ∀ l : List Int, PyData.canLayAll0 (l.map PyData.int) = true
  | [] => by simp [PyData.canLayAll0]
  | a :: l => by rw [List.map_cons, PyData.canLayAll0, gd_lay_ints l, PyData.canLay0]; rfl
theorem gd_lay (k : GK) : (gD k).canLay0 = true := by
  cases k with
  | non => simp [gD, PyData.canLay0]
  | tup l => simp [gD, PyData.canLay0, gd_lay_ints]
  | two x y => simp [gD, PyData.canLay0, PyData.canLayAll0, gd_lay_ints]
theorem gd_depth_ints : ∀ l : List Int, PyData.depthAll (l.map PyData.int) = 0
  | [] => by simp [PyData.depthAll]
  | a :: l => by rw [List.map_cons, PyData.depthAll, gd_depth_ints l, PyData.depth]; rfl
theorem gd_depth (k : GK) : (gD k).depth ≤ 2 := by
  cases k with
  | non => simp [gD, PyData.depth]
  | tup l => simp [gD, PyData.depth, gd_depth_ints]
  | two x y => simp [gD, PyData.depth, PyData.depthAll, gd_depth_ints]
section
variable {P : Program} {w : World} {h h' : Heap} {A : Around} {E : Value → Shared → Prop} {s : Shared}
theorem gd_readsAll : ∀ {l : List Int} {vs : List Value}, ItemsAre (intKind P w) l vs → ∃ as, ReadsAll h vs (l.map PyData.int) as := by
  intro l vs q
  induction q with
  | nil => exact ⟨_, .nil⟩
  | @cons k v ks vs hk _ ih =>
    obtain ⟨as, ih⟩ := ih
    obtain ⟨t, rfl⟩ := Value.isInt_shape (show Value.isInt k v = true from hk)
    exact ⟨_, .cons (.int k t) ih⟩
theorem gd_readsT {l : List Int} {a : Addr} (k : IsTupleKey (intKind P w) h l a) : ∃ as, Reads h (.ref a) (.tuple (l.map PyData.int)) as := by
  obtain ⟨o, items, n, h1, h2, h3, h4⟩ := k
  obtain ⟨as, q⟩ := gd_readsAll (h := h) h4
  exact ⟨as, .tuple h1 h2 h3 q⟩
theorem gd_reads {k : GK} {v : Value} (q : gIs P w h k v) : ∃ as, Reads h v (gD k) as := by
  cases k with
  | non => cases (show v = Value.none from q); exact ⟨_, .none⟩
  | tup l => obtain ⟨a, rfl, q⟩ := q; exact gd_readsT q
  | two x y =>
    obtain ⟨a, b, c, o, n, rfl, h1, h2, h3, q1, q2⟩ := q
    obtain ⟨as, r1⟩ := gd_readsT q1
    obtain ⟨bs, r2⟩ := gd_readsT q2
    exact ⟨_, .tuple h1 h2 h3 (.cons r1 (.cons r2 .nil))⟩
theorem g_inj {k j : GK} {v : Value} (a : gIs P w h k v) (b : gIs P w h j v) : k = j := by
  obtain ⟨as, ra⟩ := gd_reads a
  obtain ⟨bs, rb⟩ := gd_reads b
  have e := SeqAt.Reads.unique (gD k) (gD j) v as bs (gd_lay k) ra rb
  have q := gd_eq k j
  have z := gd_eq j j
  rw [e, z] at q
  simpa using q.symm
theorem g_eqBool {k j : GK} {v u : Value} {Q : Bool → Shared → Prop} (hu : A.units + 2 < cLine) (a : gIs P w s.heap k v) (b : gIs P w s.heap j u) (q : Q (decide (k = j)) s) : wpAny (model P w) A (eqBool v u) Q E s := by
  obtain ⟨as, ra⟩ := gd_reads a
  obtain ⟨bs, rb⟩ := gd_reads b
  have hd := gd_depth k
  refine SeqAt.eqAt_reads (gD k) (gD j) A s v u as bs ra rb (gd_lay k) (gd_lay j) (by omega) P w E Q ?_
  rw [gd_eq]; exact q
theorem tk_keeps {l : List Int} {a d : Addr} {o : Obj} {es ep} (x : IsTupleKey (intKind P w) h l a) (ho : h.get? d = some o) (hd : o.data = .dict es ep) (hs : Heap.SameBut d h h') : IsTupleKey (intKind P w) h' l a := x.keeps ho hd hs
theorem g_keeps {k : GK} {v : Value} {d : Addr} {o : Obj} {es ep} (q : gIs P w h k v) (ho : h.get? d = some o) (hd : o.data = .dict es ep) (hs : Heap.SameBut d h h') : gIs P w h' k v := by
  cases k with
  | non => exact q
  | tup l => obtain ⟨a, e, q⟩ := q; exact ⟨a, e, tk_keeps q ho hd hs⟩
  | two x y =>
    obtain ⟨a, b, c, oa, n, e, h1, h2, h3, q1, q2⟩ := q
    refine ⟨a, b, c, oa, n, e, ?_, h2, h3, tk_keeps q1 ho hd hs, tk_keeps q2 ho hd hs⟩
    have hne : a ≠ d := by
      rintro rfl
      rw [h1] at ho
      cases ho
      rw [hd] at h3
      exact nomatch h3
    exact (hs.2 a hne).trans h1
theorem quiet_items {n : Nat} : ∀ {l : List Int} {vs : List Value}, ItemsAre (intKind P w) l vs → ∀ v ∈ vs, eqIsQuiet n v = pure true := fun hi v hv => eqIsQuiet_byValue n (hi.byValue v hv)
theorem quiet_tuple {n : Nat} {a : Addr} {o : Obj} {items : Array Value} {c : Nat} {Q : Bool → Shared → Prop} (ho : s.heap.get? a = some o) (hc : o.cls = .type "tuple") (hd : o.data = .seq items c)
    (hi : ∀ v ∈ items.toList, ∀ (R : Bool → Shared → Prop), R true s → wpAny (model P w) A (eqIsQuiet n v) R E s) (q : Q true s) : wpAny (model P w) A (eqIsQuiet (n + 1) (.ref a)) Q E s := by
  have ty : s.TypeIs (.ref a) "tuple" := ⟨o, ho, hc⟩
  unfold eqIsQuiet
  refine wpAny_bind (wpAny_specialOf ty F.slot_tuple_eq.lookup ?_)
  show wpAny _ _ (isInstance (.ref a) (.type "tuple") >>= _) _ _ s
  refine wpAny_bind (wpAny_isInstance ty isSubtype_tuple_tuple ?_)
  simp only [Bool.not_true, Bool.false_eq_true, if_false]
  refine wpAny_bind (wpAny_seqItems ho hd (wpAny_bind ?_))
  show wpAny _ _ (forIn items _ _) _ _ s
  rw [← Array.forIn_toList]
  refine wpAny_forIn_list _ (fun rest r s1 => r.1 = none ∧ s1 = s ∧ ∀ v ∈ rest, v ∈ items.toList) _ ?_ ?_ _ _ ⟨rfl, rfl, fun v hv => hv⟩
  · rintro v rest r s1 ⟨_, rfl, hall⟩
    refine wpAny_bind (hi v (hall v List.mem_cons_self) _ ?_)
    simp only [Bool.not_true, Bool.false_eq_true, if_false]
    exact wpAny_pure ⟨rfl, rfl, fun u hu => hall u (List.mem_cons_of_mem _ hu)⟩
  · rintro ⟨r1, r2⟩ s1 ⟨hr, rfl, _⟩
    cases (show r1 = none from hr)
    exact wpAny_pure q
theorem quiet_tk {n : Nat} {l : List Int} {a : Addr} {Q : Bool → Shared → Prop} (k : IsTupleKey (intKind P w) s.heap l a) (q : Q true s) : wpAny (model P w) A (eqIsQuiet (n + 1) (.ref a)) Q E s := by
  obtain ⟨o, items, c, h1, h2, h3, h4⟩ := k
  refine quiet_tuple h1 h2 h3 (fun v hv R hR => ?_) q
  rw [quiet_items h4 v hv]
  exact wpAny_pure hR
theorem g_quiet {k : GK} {v : Value} {Q : Bool → Shared → Prop} (x : gIs P w s.heap k v) (q : Q true s) : wpAny (model P w) A (eqIsQuiet 8 v) Q E s := by
  cases k with
  | non =>
    cases (show v = Value.none from x)
    rw [eqIsQuiet_byValue 8 (v := Value.none) rfl]
    exact wpAny_pure q
  | tup l => obtain ⟨a, rfl, x⟩ := x; exact quiet_tk x q
  | two l m =>
    obtain ⟨a, b, c, o, n, rfl, h1, h2, h3, q1, q2⟩ := x
    refine quiet_tuple h1 h2 h3 (fun v hv R hR => ?_) q
    simp only [List.mem_cons, List.not_mem_nil, or_false] at hv
    rcases hv with rfl | rfl
    · exact quiet_tk q1 hR
    · exact quiet_tk q2 hR
theorem hash_tuple {a : Addr} {o : Obj} {items : Array Value} {c : Nat} {hs : List Int} {Q : Int → Shared → Prop} (hu : A.units < cLine) (ho : s.heap.get? a = some o) (hc : o.cls = .type "tuple") (hd : o.data = .seq items c)
    (hi : Paired (fun v z => ∀ (t : Nat) (R : Int → Shared → Prop) (E' : Value → Shared → Prop), (∀ t', R z { s with toks := t' }) → wpAny (model P w) A.in1 (pyHash v) R E' { s with toks := t }) items.toList hs)
    (q : ∀ t, Q (reduceHash (Builtin.Tuple.tupleHashOf hs)) { s with toks := t }) : wpAny (model P w) A (pyHash (.ref a)) Q E s := by
  have ty : s.TypeIs (.ref a) "tuple" := ⟨o, ho, hc⟩
  unfold pyHash
  first | unfold pyHashByItsType | skip
  first | refine wpAny_bind (wpAny_cRoomFor_or (.inr hu) ?_) | skip
  refine wpAny_bind (wpAny_specialOf ty F.slot_tuple_hash.lookup ?_)
  show wpAny _ _ (if (some (Value.builtin "tuple.__hash__") == some Value.none) = true then _ else _) Q E s
  rw [if_neg (by rw [beq_builtin_none]; exact Bool.false_ne_true)]
  refine wpAny_bind (wpAny_specialOf ty F.slot_tuple_hash.lookup ?_)
  show wpAny _ _ (callSpecialIfBoundUnlessNone? (.ref a) "__hash__" _ >>= _) Q E s
  refine wpAny_bind (wpAny_callSpecialIfBoundUnlessNone?_slot ty F.slot_tuple_hash (wpAny_call_entry F.slot_tuple_hash ty F.entry_tuple_hash ?_ (F.args_tuple_hash_1 _)))
  show wpAny _ _ (Builtin.Tuple.tupleItemsOf (.ref a) >>= _) _ _ s
  refine wpAny_bind (wpAny_tupleItemsOf ho hd (wpAny_bind ?_))
  rw [← Array.forIn_toList]
  refine wpAny_forIn_list _
    (fun rest (b : Array Int) s1 => ∃ done left t, hs = done ++ left ∧ Paired (fun v z => ∀ (t : Nat) (R : Int → Shared → Prop) (E' : Value → Shared → Prop), (∀ t', R z { s with toks := t' }) → wpAny (model P w) A.in1 (pyHash v) R E' { s with toks := t }) rest left ∧ b.toList = done ∧ s1 = { s with toks := t })
    _ ?_ ?_ _ _ ⟨[], hs, s.toks, rfl, hi, rfl, rfl⟩
  · rintro x rest b s1 ⟨done, left, t, rfl, hl, hb, rfl⟩
    cases hl with
    | @cons v z vs zs h1 hl' =>
      refine wpAny_bind (h1 t _ _ fun t' => ?_)
      first
        | exact wpAny_pure ⟨done ++ [z], zs, t', by simp, hl', by simp [hb], rfl⟩
        | exact wpAny_bind (wpAny_pure (wpAny_pure ⟨done ++ [z], zs, t', by simp, hl', by simp [hb], rfl⟩))
  · rintro b s1 ⟨done, left, t, rfl, hl, hb, rfl⟩
    cases hl
    rw [List.append_nil] at q
    show wpAny _ _ (retInt (Builtin.Tuple.tupleHashOf b.toList)) _ _ _
    rw [hb]
    refine wpAny_ret_mkInt ?_
    show wpAny _ _ (if (decide (-(2 : Int) ^ 63 ≤ Builtin.Tuple.tupleHashOf done) && decide (Builtin.Tuple.tupleHashOf done < 2 ^ 63)) = true then _ else _) Q E _
    unfold reduceHash at q
    by_cases hr : (decide (-(2 : Int) ^ 63 ≤ Builtin.Tuple.tupleHashOf done) && decide (Builtin.Tuple.tupleHashOf done < 2 ^ 63)) = true
    · rw [if_pos hr]
      rw [if_pos hr] at q
      exact wpAny_pure (q _)
    · rw [if_neg hr]
      rw [if_neg hr] at q
      exact wpAny_bind (wpAny_rule (wpAny_pure (q _)))
theorem hash_none {Q : Int → Shared → Prop} (q : ∀ t, Q 0xFCA86420 { s with toks := t }) : wpAny (model P w) A (pyHash .none) Q E s := by
  have ty : s.TypeIs .none "NoneType" := rfl
  unfold pyHash
  first | unfold pyHashByItsType | skip
  have hv : [Value.none].any Value.onHeap = false := rfl
  refine wpAny_bind ?_
  rw [cRoomFor, if_neg (by rw [hv]; exact Bool.false_ne_true)]
  refine wpAny_pure ?_
  refine wpAny_bind (wpAny_specialOf ty F.slot_NoneType_hash.lookup ?_)
  show wpAny _ _ (if (some (Value.builtin "NoneType.__hash__") == some Value.none) = true then _ else _) Q E s
  rw [if_neg (by rw [beq_builtin_none]; exact Bool.false_ne_true)]
  refine wpAny_bind (wpAny_specialOf ty F.slot_NoneType_hash.lookup ?_)
  show wpAny _ _ (callSpecialIfBoundUnlessNone? .none "__hash__" _ >>= _) Q E s
  refine wpAny_bind (wpAny_callSpecialIfBoundUnlessNone?_slot ty F.slot_NoneType_hash (wpAny_call_entry F.slot_NoneType_hash ty F.entry_NoneType_hash
    (show wpAny _ _ (do ret (← mkInt 0xFCA86420)) _ _ s from wpAny_ret_mkInt ?_) (F.args_NoneType_hash_1 _)))
  show wpAny _ _ (if (decide (-(2 : Int) ^ 63 ≤ 0xFCA86420) && decide ((0xFCA86420 : Int) < 2 ^ 63)) = true then _ else _) Q E _
  rw [if_pos (by decide)]
  exact wpAny_pure (q _)
theorem g_hash {k : GK} {v : Value} {Q : Int → Shared → Prop} (hu : A.units + 2 < cLine) (x : gIs P w s.heap k v) (q : ∀ t, Q (gHash P w k) { s with toks := t }) : wpAny (model P w) A (pyHash v) Q E s := by
  cases k with
  | non => cases (show v = Value.none from x); exact hash_none q
  | tup l => obtain ⟨a, rfl, x⟩ := x; exact wpAny_pyHash_tuple (by omega) x (q _)
  | two l m =>
    obtain ⟨a, b, c, o, n, rfl, h1, h2, h3, q1, q2⟩ := x
    have hu1 : A.in1.units < cLine := by show A.units + 1 < cLine; omega
    exact hash_tuple (hs := [tupleKeyHash (intKind P w) l, tupleKeyHash (intKind P w) m]) (by omega) h1 h2 h3
      (.cons (fun t R E' hR => wpAny_pyHash_tuple (s := { s with toks := t }) hu1 q1 (hR _)) (.cons (fun t R E' hR => wpAny_pyHash_tuple (s := { s with toks := t }) hu1 q2 (hR _)) .nil)) q
end
end L2
namespace L2
open PySem
noncomputable abbrev GX := GK × Value × Value
noncomputable def atG (xs : List GX) (k : GK) : Option Value := (xs.find? fun x => decide (x.1 = k)).map (·.2.2)
noncomputable def putG (k : GK) (u : Value) (x : GX) : GX := if x.1 = k then (x.1, x.2.1, u) else x
noncomputable def storeG (xs : List GX) (k : GK) (v u : Value) : List GX := if (atG xs k).isSome then xs.map (putG k u) else xs ++ [(k, v, u)]
noncomputable def entG (P : Program) (w : World) (x : GX) : DictEntry := ⟨gHash P w x.1, x.2.1, x.2.2⟩
noncomputable def DictG (P : Program) (w : World) (h : Heap) (d : Addr) (xs : List GX) : Prop :=
  ∃ o es ep, h.get? d = some o ∧ o.ExactDict ∧ o.data = .dict es ep ∧ es.toList = xs.map (entG P w) ∧ (∀ x ∈ xs, gIs P w h x.1 x.2.1) ∧ (xs.map (·.1)).Nodup
theorem atG_get {xs : List GX} (nd : (xs.map (·.1)).Nodup) {i : Nat} {k : GK} {p : Value × Value} (e : xs[i]? = some (k, p)) : atG xs k = some p.2 := by
  induction xs generalizing i with
  | nil => simp at e
  | cons x r ih =>
    rw [List.map_cons, List.nodup_cons] at nd
    cases i with
    | zero =>
      cases (Option.some.inj e)
      simp [atG]
    | succ j =>
      have e' : r[j]? = some (k, p) := e
      have ne : ¬ x.1 = k := fun z => nd.1 (z ▸ List.mem_map.mpr ⟨(k, p), List.mem_of_getElem? e', rfl⟩)
      have := ih nd.2 e'
      simpa [atG, List.find?_cons, ne] using this
theorem atG_none {xs : List GX} {k : GK} (e : ∀ (j : Nat) (p : Value × Value), xs[j]? ≠ some (k, p)) : atG xs k = none := by
  have : (xs.find? fun x => decide (x.1 = k)) = none := List.find?_eq_none.mpr fun x hx hk => by
    obtain ⟨j, hj⟩ := List.getElem?_of_mem hx
    exact e j x.2 (by rw [hj, ← of_decide_eq_true hk])
  simp [atG, this]
theorem notin_G {xs : List GX} {k : GK} (e : ∀ (j : Nat) (p : Value × Value), xs[j]? ≠ some (k, p)) : k ∉ xs.map (·.1) := fun m => by
  obtain ⟨x, hx, rfl⟩ := List.mem_map.mp m
  obtain ⟨j, hj⟩ := List.getElem?_of_mem hx
  exact e j x.2 hj
theorem keys_putG (xs : List GX) (k : GK) (u : Value) : (xs.map (putG k u)).map (·.1) = xs.map (·.1) := by
  rw [List.map_map]
  apply List.map_congr_left
  intro x _
  show (putG k u x).1 = x.1
  unfold putG
  split <;> rfl
theorem putG_no (xs : List GX) (k : GK) (u : Value) (h : k ∉ xs.map (·.1)) : xs.map (putG k u) = xs := by
  conv => rhs; rw [← List.map_id xs]
  apply List.map_congr_left
  intro x hx
  unfold putG
  rw [if_neg (fun (z : x.1 = k) => h (z ▸ List.mem_map.mpr ⟨x, hx, rfl⟩))]; rfl
theorem putG_modify {β : Type} (f : GX → β) (g : β → β) (k : GK) (u : Value) (hg : ∀ v u0, g (f (k, v, u0)) = f (k, v, u)) :
    ∀ {xs : List GX} {j : Nat} {p : Value × Value}, (xs.map (·.1)).Nodup → xs[j]? = some (k, p) → (xs.map f).modify j g = (xs.map (putG k u)).map f
  | [], _, _, _, e => by simp at e
  | x :: r, 0, p, nd, e => by
    rw [List.map_cons, List.nodup_cons] at nd
    cases (Option.some.inj e)
    rw [List.map_cons, List.map_cons, putG_no r k u nd.1, putG, if_pos rfl, List.map_cons]
    show g (f (k, p.1, p.2)) :: r.map f = f (k, p.1, u) :: r.map f
    rw [hg]
  | x :: r, j + 1, p, nd, e => by
    rw [List.map_cons, List.nodup_cons] at nd
    have e' : r[j]? = some (k, p) := e
    have ne : ¬ x.1 = k := fun z => nd.1 (z ▸ List.mem_map.mpr ⟨(k, p), List.mem_of_getElem? e', rfl⟩)
    rw [List.map_cons, List.map_cons, putG, if_neg ne, List.map_cons]
    show f x :: (r.map f).modify j g = f x :: (r.map (putG k u)).map f
    rw [putG_modify f g k u hg nd.2 e']
theorem uniq_G {xs : List GX} (nd : (xs.map (·.1)).Nodup) {i j : Nat} {k : GK} {p q : Value × Value} (hi : xs[i]? = some (k, p)) (hj : xs[j]? = some (k, q)) : i = j := by
  have hi' : (xs.map (·.1))[i]? = some k := by rw [List.getElem?_map, hi]; rfl
  have hj' : (xs.map (·.1))[j]? = some k := by rw [List.getElem?_map, hj]; rfl
  exact (List.getElem?_inj (List.getElem?_eq_some_iff.mp hi').1 nd).mp (hi'.trans hj'.symm)
section
variable {P : Program} {w : World} {A : Around} {E : Value → Shared → Prop} {s : Shared}
theorem entG_at {es : Array DictEntry} {xs : List GX} (he : es.toList = xs.map (entG P w)) (j : Nat) : es[j]? = (xs[j]?).map (entG P w) := by
  rw [← Array.getElem?_toList, he, List.getElem?_map]
theorem entG_size {es : Array DictEntry} {xs : List GX} (he : es.toList = xs.map (entG P w)) : es.size = xs.length := by
  rw [← Array.length_toList, he, List.length_map]
theorem DictG.typeIs {d : Addr} {xs : List GX} (m : DictG P w s.heap d xs) : s.TypeIs (.ref d) "dict" := let ⟨o, _, _, ho, hc, _⟩ := m; ⟨o, ho, hc.1⟩
theorem mayTell_no {k : GK} {v : Value} {stored : List Value} {Q : Bool → Shared → Prop} (hv : gIs P w s.heap k v) (hst : ∀ u ∈ stored, ∃ j, gIs P w s.heap j u) (q : Q false s) :
    wpAny (model P w) A (tableMayTell v stored) Q E s := by
  unfold tableMayTell
  split
  · exact wpAny_pure q
  · refine wpAny_bind (g_quiet hv ?_)
    simp only [Bool.not_true, Bool.false_eq_true, if_false]
    refine wpAny_bind (wpAny_forIn_list _ (fun rest r s1 => s1 = s ∧ r = (none, ()) ∧ ∀ u ∈ rest, ∃ j, gIs P w s.heap j u) _ ?_ ?_ _ _ ⟨rfl, rfl, hst⟩)
    · rintro x rest r s1 ⟨rfl, rfl, hr⟩
      obtain ⟨j, hj⟩ := hr x List.mem_cons_self
      refine wpAny_bind (g_quiet hj ?_)
      simp only [Bool.not_true, Bool.false_eq_true, if_false]
      exact wpAny_pure ⟨rfl, rfl, fun u hu => hr u (List.mem_cons_of_mem _ hu)⟩
    · rintro r s1 ⟨rfl, rfl, _⟩
      exact wpAny_pure q
theorem g_notStr {k : GK} {v : Value} {h : Heap} (x : gIs P w h k v) : v = Value.none ∨ ∃ a, v = Value.ref a := by
  cases k with
  | non => exact .inl x
  | tup l => obtain ⟨a, e, _⟩ := x; exact .inr ⟨a, e⟩
  | two l m => obtain ⟨a, _, _, _, _, e, _⟩ := x; exact .inr ⟨a, e⟩
noncomputable def SoFar (xs : List GX) (k : GK) (hit : Option Nat) (i : Nat) : Prop :=
  (hit = none ∧ ∀ (j : Nat) (p : Value × Value), j < i → xs[j]? ≠ some (k, p)) ∨ ∃ (j : Nat) (p : Value × Value), hit = some j ∧ j < i ∧ xs[j]? = some (k, p)
theorem SoFar.skip {es : Array DictEntry} {xs : List GX} {k : GK} (he : es.toList = xs.map (entG P w)) {hit : Option Nat} {i x : Nat} (S : SoFar xs k hit i) (hix : i ≤ x)
    (sk : ∀ j, i ≤ j → j < x → ((es[j]?.map (·.hash)) == some (gHash P w k)) = false) : SoFar xs k hit x := by
  rcases S with ⟨h0, no⟩ | ⟨j, p, h1, hji, hj⟩
  · refine .inl ⟨h0, fun j p hjx hj => ?_⟩
    rcases Nat.lt_or_ge j i with c | c
    · exact no j p c hj
    · have := sk j c hjx
      rw [entG_at he j, hj] at this
      simp [entG] at this
  · exact .inr ⟨j, p, h1, by omega, hj⟩
theorem SoFar.other {xs : List GX} {k k' : GK} {p : Value × Value} {hit : Option Nat} {x : Nat} (S : SoFar xs k hit x) (hx : xs[x]? = some (k', p)) (ne : ¬ k' = k) : SoFar xs k hit (x + 1) := by
  rcases S with ⟨h0, no⟩ | ⟨j, q, h1, hji, hj⟩
  · refine .inl ⟨h0, fun j q hjx hj => ?_⟩
    rcases Nat.lt_or_ge j x with c | c
    · exact no j q c hj
    · have e : j = x := by omega
      subst e
      rw [hx] at hj
      exact ne (congrArg Prod.fst (Option.some.inj hj))
  · exact .inr ⟨j, q, h1, by omega, hj⟩
theorem g_find {d : Addr} {o : Obj} {es ep} {xs : List GX} {k : GK} {v : Value} {Q : Option Nat → Shared → Prop} (hu : A.units + 2 < cLine) (hv : gIs P w s.heap k v)
    (ho : s.heap.get? d = some o) (hd : o.data = .dict es ep) (he : es.toList = xs.map (entG P w)) (his : ∀ x ∈ xs, gIs P w s.heap x.1 x.2.1) (nd : (xs.map (·.1)).Nodup)
    (qn : (∀ (j : Nat) (p : Value × Value), xs[j]? ≠ some (k, p)) → Q none s) (qs : ∀ (j : Nat) (p : Value × Value), xs[j]? = some (k, p) → Q (some j) s) :
    wpAny (model P w) A (dictFind d v (gHash P w k)) Q E s := by
  have hsz : es.size = xs.length := entG_size he
  have hmem : ∀ e ∈ es, ∃ x ∈ xs, e = entG P w x := by
    intro e hin
    have : e ∈ xs.map (entG P w) := he ▸ Array.mem_toList_iff.mpr hin
    obtain ⟨x, hx, rfl⟩ := List.mem_map.mp this
    exact ⟨x, hx, rfl⟩
  have hst : ∀ u ∈ (placesWithHash es.size (fun i => es[i]?.map (·.hash)) (gHash P w k)).filterMap (fun i => es[i]?.map (·.key)), ∃ j, gIs P w s.heap j u := by
    intro u hu'
    obtain ⟨i, _, hi⟩ := List.mem_filterMap.mp hu'
    cases hei : es[i]? with
    | none => rw [hei] at hi; cases hi
    | some e =>
      rw [hei] at hi
      obtain rfl : e.key = u := by simpa using hi
      obtain ⟨x, hx, rfl⟩ := hmem e (Array.mem_of_getElem? hei)
      exact ⟨x.1, his x hx⟩
  -- one place of the walk
  have at_place : ∀ {i x n : Nat} {rest : List Nat}, (List.range' i (es.size - i)).filter (fun i => (es[i]?.map (·.hash)) == some (gHash P w k)) = x :: rest → i ≤ es.size →
      i ≤ x ∧ x < es.size ∧ (∀ j, i ≤ j → j < x → ((es[j]?.map (·.hash)) == some (gHash P w k)) = false) ∧ rest = (List.range' (x + 1) (es.size - (x + 1))).filter (fun i => (es[i]?.map (·.hash)) == some (gHash P w k)) ∧
      ∃ k' v' u', xs[x]? = some (k', v', u') ∧ gIs P w s.heap k' v' ∧ es[x]? = some ⟨gHash P w k', v', u'⟩ := by
    intro i x n rest hr hi
    obtain ⟨hix, hxn, hpx, hskip, hrest⟩ := filter_range'_cons _ _ _ _ _ hr
    have hlt : x < es.size := by omega
    refine ⟨hix, hlt, hskip, by rw [hrest]; congr 2; omega, ?_⟩
    obtain ⟨⟨k', v', u'⟩, hkv⟩ : ∃ y, xs[x]? = some y := ⟨xs[x]'(by rw [← hsz]; exact hlt), List.getElem?_eq_getElem _⟩
    exact ⟨k', v', u', hkv, his _ (List.mem_of_getElem? hkv), by rw [entG_at he x, hkv]; rfl⟩
  have at_end : ∀ {i : Nat}, (List.range' i (es.size - i)).filter (fun i => (es[i]?.map (·.hash)) == some (gHash P w k)) = [] → SoFar xs k none i → ∀ (j : Nat) (p : Value × Value), xs[j]? ≠ some (k, p) := by
    intro i hr S j p hj
    have hjl : j < es.size := by rw [hsz]; exact (List.getElem?_eq_some_iff.mp hj).1
    rcases S with ⟨_, no⟩ | ⟨_, _, z, _⟩
    · rcases Nat.lt_or_ge j i with c | c
      · exact no j p c hj
      · have := List.filter_eq_nil_iff.mp hr j (List.mem_range'_1.mpr ⟨c, by omega⟩)
        rw [entG_at he j, hj] at this
        simp [entG] at this
    · cases z
  unfold dictFind
  try with_reducible refine wpAny_holding ?_
  refine wpAny_bind (wpAny_dictEntries ho hd ?_)
  have start : (placesWithHash es.size (fun i => es[i]?.map (·.hash)) (gHash P w k)) = (List.range' 0 (es.size - 0)).filter (fun i => (es[i]?.map (·.hash)) == some (gHash P w k)) := by rw [placesWithHash, List.range_eq_range', Nat.sub_zero]
  -- the walk that keeps its hit
  have walk : ∀ (R : Option Nat → Shared → Prop), (∀ r, Q r s → R r s) → wpAny (model P w) A (do
      let mut hit : Option Nat := none
      for i in placesWithHash es.size (fun i => es[i]?.map (·.hash)) (gHash P w k) do
        if let some e := es[i]? then
          if e.hash == gHash P w k then
            let before ← dictEpoch d (keyPart v)
            let same ← eqBool e.key v
            if (← dictEpoch d (keyPart v)) != before then unsupported "dict.changed-during-lookup"
            if same then
              if hit.isSome then unsupported "dict.find:order-among-keys-of-one-hash"
              rule "dict.find.hit"
              if ((placesWithHash es.size (fun i => es[i]?.map (·.hash)) (gHash P w k)).filterMap (fun i => es[i]?.map (·.key))).length < 2 then return some i
              hit := some i
            else
              rule "dict.find.same-hash-other-key"
              if false && !(decide (0 ≤ gHash P w k) && decide (gHash P w k < 32)) then unsupported "dict.find:asked-again-or-not-hangs-on-the-table"
      return hit) R E s := by
    intro R hR
    refine wpAny_bind ?_
    refine wpAny_forIn_list _ (fun rest b s1 => s1 = s ∧ ∃ i hit, b = (none, hit) ∧ (List.range' i (es.size - i)).filter (fun i => (es[i]?.map (·.hash)) == some (gHash P w k)) = rest ∧ i ≤ es.size ∧ SoFar xs k hit i) _ ?_ ?_ _ _
      ⟨rfl, 0, none, rfl, start.symm, Nat.zero_le _, .inl ⟨rfl, fun _ _ z => absurd z (Nat.not_lt_zero _)⟩⟩
    · rintro x rest b s1 ⟨rfl, i, hit, rfl, hr, hi, S⟩
      obtain ⟨hix, hlt, hskip, hrest, k', v', u', hkv, hg, hex⟩ := at_place (n := 0) hr hi
      have S := S.skip he hix hskip
      rw [hex]
      dsimp only
      by_cases hh : (gHash P w k' == gHash P w k) = true
      · rw [if_pos hh]
        refine wpAny_bind (wpAny_dictEpoch ho hd (wpAny_bind (g_eqBool hu hg hv (wpAny_bind (wpAny_dictEpoch ho hd ?_)))))
        show wpAny _ _ (if (ep != ep) = true then _ else _) _ E _
        rw [if_neg (by simp)]
        by_cases hkk : k' = k
        · rw [decide_eq_true hkk]
          subst hkk
          rcases S with ⟨rfl, _⟩ | ⟨j, p, _, hjx, hj⟩
          · first | rw [if_pos rfl] | skip
            simp only [Option.isSome_none, Bool.false_eq_true, if_false]
            first | refine wpAny_bind (wpAny_pure ?_) | skip
            refine wpAny_bind (wpAny_rule ?_)
            split
            · exact wpAny_pure (wpAny_pure (hR _ (qs x _ hkv)))
            · exact wpAny_pure ⟨rfl, x + 1, some x, rfl, hrest.symm, hlt, .inr ⟨x, _, rfl, Nat.lt_succ_self x, hkv⟩⟩
          · exact absurd (uniq_G nd hj hkv) (by omega)
        · rw [decide_eq_false hkk]
          simp only [Bool.false_eq_true, if_false]
          refine wpAny_bind (wpAny_rule ?_)
          first | rw [if_neg (by simp)] | skip
          first
            | exact wpAny_pure ⟨rfl, x + 1, hit, rfl, hrest.symm, hlt, S.other hkv hkk⟩
            | exact wpAny_bind (wpAny_pure (wpAny_pure ⟨rfl, x + 1, hit, rfl, hrest.symm, hlt, S.other hkv hkk⟩))
      · rw [if_neg hh]
        exact wpAny_pure ⟨rfl, x + 1, hit, rfl, hrest.symm, hlt, S.other hkv (fun z => by rw [z] at hh; simp at hh)⟩
    · rintro b s1 ⟨rfl, i, hit, rfl, hr, hi, S⟩
      rcases S with ⟨rfl, no⟩ | ⟨j, p, rfl, _, hj⟩
      · exact wpAny_pure (hR _ (qn (at_end hr (.inl ⟨rfl, no⟩))))
      · exact wpAny_pure (hR _ (qs j p hj))
  -- the walk that ends with its hit
  have plain : wpAny (model P w) A (dictWalkPlain d v (gHash P w k) es (placesWithHash es.size (fun i => es[i]?.map (·.hash)) (gHash P w k))) Q E s := by
    unfold dictWalkPlain
    refine wpAny_bind ?_
    refine wpAny_forIn_list _ (fun rest b s1 => s1 = s ∧ b = (none, ()) ∧ ∃ i, (List.range' i (es.size - i)).filter (fun i => (es[i]?.map (·.hash)) == some (gHash P w k)) = rest ∧ i ≤ es.size ∧ SoFar xs k none i) _ ?_ ?_ _ _
      ⟨rfl, rfl, 0, start.symm, Nat.zero_le _, .inl ⟨rfl, fun _ _ z => absurd z (Nat.not_lt_zero _)⟩⟩
    · rintro x rest b s1 ⟨rfl, rfl, i, hr, hi, S⟩
      obtain ⟨hix, hlt, hskip, hrest, k', v', u', hkv, hg, hex⟩ := at_place (n := 0) hr hi
      have S := S.skip he hix hskip
      rw [hex]
      dsimp only
      by_cases hh : (gHash P w k' == gHash P w k) = true
      · rw [if_pos hh]
        refine wpAny_bind (wpAny_dictEpoch ho hd (wpAny_bind (g_eqBool hu hg hv (wpAny_bind (wpAny_dictEpoch ho hd ?_)))))
        show wpAny _ _ (if (ep != ep) = true then _ else _) _ E _
        rw [if_neg (by simp)]
        by_cases hkk : k' = k
        · rw [decide_eq_true hkk]
          subst hkk
          exact wpAny_bind (wpAny_rule (wpAny_pure (wpAny_pure (qs x _ hkv))))
        · rw [decide_eq_false hkk]
          exact wpAny_bind (wpAny_rule (wpAny_pure ⟨rfl, rfl, x + 1, hrest.symm, hlt, S.other hkv hkk⟩))
      · rw [if_neg hh]
        exact wpAny_pure ⟨rfl, rfl, x + 1, hrest.symm, hlt, S.other hkv (fun z => by rw [z] at hh; simp at hh)⟩
    · rintro b s1 ⟨rfl, rfl, i, hr, hi, S⟩
      exact wpAny_pure (qn (at_end hr S))
  rcases g_notStr hv with rfl | ⟨a, rfl⟩
  · dsimp only
    by_cases hall : ((Value.none :: (placesWithHash es.size (fun i => es[i]?.map (·.hash)) (gHash P w k)).filterMap (fun i => es[i]?.map (·.key))).all carriedByValue) = true
    · rw [if_pos hall]
      exact plain
    · rw [if_neg hall]
      by_cases hone : (((placesWithHash es.size (fun i => es[i]?.map (·.hash)) (gHash P w k)).filterMap (fun i => es[i]?.map (·.key))) == [Value.none]) = true
      · rw [if_pos hone]
        refine wpAny_bind (wpAny_pure ?_)
        rw [if_neg (by simp)]
        exact walk _ fun _ z => z
      · rw [if_neg hone]
        refine wpAny_bind (mayTell_no hv hst ?_)
        rw [if_neg (by simp)]
        exact walk _ fun _ z => z
  · have hany : ¬ (es.any fun e => e.key == Value.ref a && e.hash != gHash P w k) = true := by
      rw [← Array.any_toList, List.any_eq_true]
      rintro ⟨e, hin, hc⟩
      obtain ⟨x, hx, rfl⟩ := hmem e (Array.mem_toList_iff.mp hin)
      simp only [entG, Bool.and_eq_true, beq_iff_eq, bne_iff_ne, ne_eq] at hc
      obtain ⟨hxa, hne⟩ := hc
      have := his x hx
      rw [hxa] at this
      exact hne (by rw [g_inj this hv])
    dsimp only
    rw [if_neg (show ¬ ((Value.ref a :: (placesWithHash es.size (fun i => es[i]?.map (·.hash)) (gHash P w k)).filterMap (fun i => es[i]?.map (·.key))).all carriedByValue) = true by simp [carriedByValue])]
    rw [if_neg hany]
    by_cases hone : (((placesWithHash es.size (fun i => es[i]?.map (·.hash)) (gHash P w k)).filterMap (fun i => es[i]?.map (·.key))) == [Value.ref a]) = true
    · rw [if_pos hone]
      refine wpAny_bind (wpAny_pure ?_)
      rw [if_neg (by simp)]
      exact walk _ fun _ z => z
    · rw [if_neg hone]
      refine wpAny_bind (mayTell_no hv hst ?_)
      rw [if_neg (by simp)]
      exact walk _ fun _ z => z
end
end L2
namespace L2
open PySem
section
variable {P : Program} {w : World} {A : Around} {E : Value → Shared → Prop} {s : Shared}
theorem g_get {d : Addr} {xs : List GX} {k : GK} {v : Value} {Q : Option Value → Shared → Prop} (hu : A.units + 2 < cLine) (hv : gIs P w s.heap k v) (m : DictG P w s.heap d xs) (q : ∀ t, Q (atG xs k) { s with toks := t }) :
    wpAny (model P w) A (dictGet d v) Q E s := by
  obtain ⟨o, es, ep, ho, _, hd, he, his, nd⟩ := m
  unfold dictGet
  try with_reducible refine wpAny_holding ?_
  refine wpAny_bind (g_hash hu hv fun t => wpAny_bind (g_find (s := { s with toks := t }) hu hv ho hd he his nd (fun no => ?_) fun j p hj => ?_))
  · have q := q t
    rw [atG_none no] at q
    exact wpAny_pure q
  · have q := q t
    rw [atG_get nd hj] at q
    refine wpAny_bind (wpAny_dictEntries (s := { s with toks := t }) ho hd ?_)
    rw [entG_at he j, hj]
    exact wpAny_pure q
theorem storeG_new {xs : List GX} {k : GK} (e : atG xs k = none) (v u : Value) : storeG xs k v u = xs ++ [(k, v, u)] := by simp [storeG, e]
theorem storeG_old {xs : List GX} {k : GK} {p : Value} (e : atG xs k = some p) (v u : Value) : storeG xs k v u = xs.map (putG k u) := by simp [storeG, e]
theorem g_pushed {d : Addr} {o : Obj} {es : Array DictEntry} {ep : Nat} {xs : List GX} {k : GK} {v u : Value} (hv : gIs P w s.heap k v) (ho : s.heap.get? d = some o) (hc : o.ExactDict) (hd : o.data = .dict es ep) (he : es.toList = xs.map (entG P w))
    (his : ∀ x ∈ xs, gIs P w s.heap x.1 x.2.1) (nd : (xs.map (·.1)).Nodup) (no : ∀ (j : Nat) (p : Value × Value), xs[j]? ≠ some (k, p)) :
    DictG P w (s.heap.update d (Obj.mapDictKeys (·.push ⟨gHash P w k, v, u⟩))) d (xs ++ [(k, v, u)]) := by
  refine ⟨_, _, ep + 1, Heap.get?_update_self _ ho (Obj.isFreed_of_dict (Obj.data_mapDictKeys hd _)), hc.mapDictKeys _, Obj.data_mapDictKeys hd _, ?_, fun x hx => ?_, ?_⟩
  · simp [he, entG]
  · rcases List.mem_append.mp hx with hx | hx
    · exact g_keeps (his x hx) ho hd (Heap.SameBut.update ..)
    · rw [List.mem_singleton] at hx
      subst hx
      exact g_keeps hv ho hd (Heap.SameBut.update ..)
  · rw [List.map_append, List.nodup_append]
    refine ⟨nd, by simp, fun x hx y hy => ?_⟩
    simp only [List.map_cons, List.map_nil, List.mem_singleton] at hy
    subst hy
    exact fun z => notin_G no (z ▸ hx)
theorem g_set {d : Addr} {xs : List GX} {k : GK} {v u : Value} {Q : Unit → Shared → Prop} (hu : A.units + 2 < cLine) (hv : gIs P w s.heap k v) (m : DictG P w s.heap d xs) (hz : xs.length ≤ sizeLine)
    (q : ∀ h' t, DictG P w h' d (storeG xs k v u) → Heap.SameBut d s.heap h' → Q () { s with heap := h', toks := t }) : wpAny (model P w) A (dictSet d v u) Q E s := by
  obtain ⟨o, es, ep, ho, hc, hd, he, his, nd⟩ := m
  unfold dictSet
  try with_reducible refine wpAny_holding ?_
  refine wpAny_bind (g_hash hu hv fun t => ?_)
  unfold dictSetHashed
  try with_reducible refine wpAny_holding ?_
  refine wpAny_bind (g_find (s := { s with toks := t }) hu hv ho hd he his nd (fun no => ?_) fun j p hj => ?_)
  · refine wpAny_bind (wpAny_rule (wpAny_updateDictKeys (hz := by have e := entG_size he; omega) (s := { s with toks := t }) ho hd (q _ t ?_ (Heap.SameBut.update ..))))
    rw [storeG_new (atG_none no)]
    exact g_pushed (s := { s with toks := t }) hv ho hc hd he his nd no
  · refine wpAny_bind (wpAny_rule (wpAny_bind (wpAny_updateDict (s := { s with toks := t }) ho hd (wpAny_point (q _ t ⟨_, _, ep, Heap.get?_update_self _ ho (Obj.isFreed_of_dict (Obj.data_mapDict hd _)),
      hc.mapDict _, Obj.data_mapDict hd _, ?_, ?_, ?_⟩ (Heap.SameBut.update ..))))))
    · rw [storeG_old (atG_get nd hj)]
      have z := putG_modify (entG P w) (fun e : DictEntry => { e with val := u }) k u (fun _ _ => rfl) nd hj
      rw [← he] at z
      obtain ⟨l⟩ := es
      simpa using z
    · rw [storeG_old (atG_get nd hj)]
      intro x hx
      obtain ⟨y, hy, rfl⟩ := List.mem_map.mp hx
      unfold putG
      split <;> exact g_keeps (his y hy) ho hd (Heap.SameBut.update ..)
    · rw [storeG_old (atG_get nd hj), keys_putG]; exact nd
theorem g_setDefault {d : Addr} {xs : List GX} {k : GK} {v u : Value} {Q : Value → Shared → Prop} (hu : A.units + 2 < cLine) (hv : gIs P w s.heap k v) (m : DictG P w s.heap d xs) (hz : xs.length ≤ sizeLine)
    (q1 : ∀ r t, atG xs k = some r → Q r { s with toks := t })
    (q2 : atG xs k = none → ∀ h' t, DictG P w h' d (xs ++ [(k, v, u)]) → Heap.SameBut d s.heap h' → Q u { s with heap := h', toks := t }) : wpAny (model P w) A (dictSetDefault d v u) Q E s := by
  obtain ⟨o, es, ep, ho, hc, hd, he, his, nd⟩ := m
  unfold dictSetDefault
  try with_reducible refine wpAny_holding ?_
  refine wpAny_bind (g_hash hu hv fun t => wpAny_bind (g_find (s := { s with toks := t }) hu hv ho hd he his nd (fun no => ?_) fun j p hj => ?_))
  · exact wpAny_bind (wpAny_rule (wpAny_bind (wpAny_updateDictKeys (hz := by have e := entG_size he; omega) (s := { s with toks := t }) ho hd (wpAny_pure (q2 (atG_none no) _ t (g_pushed (s := { s with toks := t }) hv ho hc hd he his nd no) (Heap.SameBut.update ..))))))
  · refine wpAny_bind (wpAny_dictEntries (s := { s with toks := t }) ho hd ?_)
    rw [entG_at he j, hj]
    exact wpAny_bind (wpAny_rule (wpAny_pure (q1 _ t (atG_get nd hj))))
theorem g_contains {d : Addr} {xs : List GX} {k : GK} {v : Value} {Q : Bool → Shared → Prop} (hu : A.units + 4 < cLine) (hv : gIs P w s.heap k v) (hs : (d == sysModules) = false) (m : DictG P w s.heap d xs) (q : ∀ t, Q (atG xs k).isSome { s with toks := t }) :
    wpAny (model P w) A (contains (.ref d) v) Q E s := by
  have hu1 : A.in1.units + 2 < cLine := by show A.units + 1 + 2 < cLine; omega
  unfold contains
  try with_reducible refine wpAny_holding ?_
  refine wpAny_bind (wpAny_specialOf m.typeIs slot_dict_contains.lookup ?_)
  show wpAny _ _ (if (some (Value.builtin "dict.__contains__") == some Value.none) = true then _ else _) _ E s
  rw [if_neg (by rw [beq_builtin_none]; exact Bool.false_ne_true)]
  refine wpAny_bind (wpAny_callSpecialUnlessNone?_slot (name := Str.ofString "__contains__") m.typeIs slot_dict_contains (wpAny_call_entry slot_dict_contains m.typeIs entry_dict_contains ?_ (args_dict_contains _ _)))
  show wpAny _ _ (dictGet d v >>= _) _ _ s
  refine wpAny_bind (g_get hu1 hv m fun t => ?_)
  have q := q t
  cases hf : atG xs k with
  | some p =>
    rw [hf] at q
    show wpAny _ _ (ret (.bool true)) _ _ _
    exact wpAny_pure ⟨_, rfl, wpAny_truthy_bool q⟩
  | none =>
    rw [hf] at q
    show wpAny _ _ (Builtin.Dict.pendingKey? d v >>= _) _ _ _
    exact wpAny_bind (wpAny_pendingKey_other hs (wpAny_pure ⟨_, rfl, wpAny_truthy_bool q⟩))
theorem g_in {d : Addr} {xs : List GX} {k : GK} {v : Value} {Q : Value → Shared → Prop} (hu : A.units + 4 < cLine) (hv : gIs P w s.heap k v) (hs : (d == sysModules) = false) (m : DictG P w s.heap d xs) (q : ∀ t, Q (.bool (atG xs k).isSome) { s with toks := t }) :
    wpAny (model P w) A (compareOp .In v (.ref d)) Q E s := by
  show wpAny _ _ (do return .bool (← contains (.ref d) v)) Q E s
  exact wpAny_bind (g_contains hu hv hs m fun t => wpAny_pure (q t))
theorem g_notIn {d : Addr} {xs : List GX} {k : GK} {v : Value} {Q : Value → Shared → Prop} (hu : A.units + 4 < cLine) (hv : gIs P w s.heap k v) (hs : (d == sysModules) = false) (m : DictG P w s.heap d xs) (q : ∀ t, Q (.bool (!(atG xs k).isSome)) { s with toks := t }) :
    wpAny (model P w) A (compareOp .NotIn v (.ref d)) Q E s := by
  show wpAny _ _ (do return .bool (!(← contains (.ref d) v))) Q E s
  exact wpAny_bind (g_contains hu hv hs m fun t => wpAny_pure (q t))
theorem g_getItem {d : Addr} {xs : List GX} {k : GK} {v r : Value} {Q : Value → Shared → Prop} (hu : A.units + 4 < cLine) (hv : gIs P w s.heap k v) (m : DictG P w s.heap d xs) (hr : atG xs k = some r) (q : ∀ t, Q r { s with toks := t }) :
    wpAny (model P w) A (getItem (.ref d) v) Q E s := by
  have hu1 : A.in1.units + 2 < cLine := by show A.units + 1 + 2 < cLine; omega
  unfold getItem
  try with_reducible refine wpAny_holding ?_
  refine wpAny_bind (wpAny_sequenceKey m.typeIs (by decide) (wpAny_bind (wpAny_callSpecial?_slot (name := Str.ofString "__getitem__") m.typeIs slot_dict_getitem (wpAny_call_entry slot_dict_getitem m.typeIs entry_dict_getitem ?_ (args_dict_getitem _ _)))))
  show wpAny _ _ (dictGet d v >>= _) _ _ s
  refine wpAny_bind (g_get hu1 hv m fun t => ?_)
  rw [hr]
  exact wpAny_pure ⟨r, rfl, wpAny_pure (q t)⟩
theorem g_setItem {d : Addr} {xs : List GX} {k : GK} {v u : Value} {Q : Unit → Shared → Prop} (hu : A.units + 4 < cLine) (hv : gIs P w s.heap k v) (m : DictG P w s.heap d xs) (hz : xs.length ≤ sizeLine)
    (q : ∀ h' t, DictG P w h' d (storeG xs k v u) → Heap.SameBut d s.heap h' → Q () { s with heap := h', toks := t }) : wpAny (model P w) A (setItem (.ref d) v u) Q E s := by
  have hu1 : A.in1.units + 2 < cLine := by show A.units + 1 + 2 < cLine; omega
  unfold setItem
  try with_reducible refine wpAny_holding ?_
  refine wpAny_bind (wpAny_sequenceKey m.typeIs (by decide) (wpAny_bind (wpAny_callSpecial?_slot (name := Str.ofString "__setitem__") m.typeIs slot_dict_setitem (wpAny_call_entry slot_dict_setitem m.typeIs entry_dict_setitem ?_ (args_dict_setitem _ _ _)))))
  show wpAny _ _ (Builtin.Dict.notOrdered "__setitem__" ⟨[.ref d, v, u], []⟩ >>= _) _ _ s
  refine wpAny_bind (wpAny_notOrdered_dict m.typeIs ?_)
  show wpAny _ _ (dictSet d v u >>= _) _ _ s
  exact wpAny_bind (g_set hu1 hv m hz fun h' t m' hs' => wpAny_pure ⟨.none, rfl, wpAny_pure (q h' t m' hs')⟩)
theorem g_setdefault {d : Addr} {xs : List GX} {k : GK} {v u : Value} {Q : Value → Shared → Prop} (hu : A.units + 4 < cLine) (hv : gIs P w s.heap k v) (hs : (d == sysModules) = false) (m : DictG P w s.heap d xs) (hz : xs.length ≤ sizeLine)
    (q1 : ∀ r t, atG xs k = some r → Q r { s with toks := t })
    (q2 : atG xs k = none → ∀ h' t, DictG P w h' d (xs ++ [(k, v, u)]) → Heap.SameBut d s.heap h' → Q u { s with heap := h', toks := t }) : wpAny (model P w) A (call (.builtin "dict.setdefault") [.ref d, v, u]) Q E s := by
  have hu1 : A.in1.units + 2 < cLine := by show A.units + 1 + 2 < cLine; omega
  refine wpAny_call_entry PySem.F.slot_dict_setdefault m.typeIs PySem.F.entry_dict_setdefault ?_ (PySem.F.args_dict_setdefault_3 _ _ _)
  unfold Builtin.«dict.setdefault»
  refine wpAny_bind ?_
  unfold Builtin.Dict.keyAndDefault
  refine wpAny_bind (wpAny_notOrdered_dict m.typeIs ?_)
  show wpAny _ _ (pure (d, v, some u)) _ _ s
  refine wpAny_pure ?_
  show wpAny _ _ (if (d == sysModules) = true then _ else (dictSetDefault d v u >>= _)) _ _ s
  rw [if_neg (by rw [hs]; exact Bool.false_ne_true)]
  exact wpAny_bind (g_setDefault hu1 hv m hz (fun r t e => wpAny_pure ⟨r, rfl, q1 r t e⟩) fun e h' t m' s' => wpAny_pure ⟨u, rfl, q2 e h' t m' s'⟩)
theorem g_display1 {env : Env} {ke ve : Expr} {pos : Pos} {Q : Value → Shared → Prop} (hu : A.units + 2 < cLine)
    (h : wpAny (model P w) A (eval ke env) (fun kv s1 => wpAny (model P w) A (eval ve env) (fun u s2 => ∃ k, gIs P w s2.heap k kv ∧ DictG P w s2.heap s.heap.objs.size [] ∧
      ∀ h' t, DictG P w h' s.heap.objs.size [(k, kv, u)] → Heap.SameBut s.heap.objs.size s2.heap h' → Q (.ref s.heap.objs.size) { s2 with heap := h', toks := t }) E s1) E { s with heap := s.heap.push { cls := .type "dict", data := .dict #[] } }) :
    wpAny (model P w) A (eval (.Dict [some ke] [ve] pos) env) Q E s := by
  have e1 := zip_pairTrees [some ke] [ve] env pos rfl rfl
  rw [arm_eval_Dict, e1, dictDisplay_pairs _ (by simp [pairTrees]) (by simp [pairTrees])]
  refine wpAny_bind (wpAny_standAt (wpAny_bind ?_))
  unfold subDict
  refine wpAny_bind (wpAny_alloc (wpAny_bind (wpAny_holding ?_)))
  rw [if_pos (by simp [pairTrees])]
  refine wpAny_bind (pairTrees_cons_walk (wpAny_mono h (fun kv s1 h1 => wpAny_mono h1 (fun u s2 h2 => pairTrees_nil_walk (wpAny_holding ?_)) fun _ _ z => z) fun _ _ z => z))
  obtain ⟨k, hk, m, q⟩ := h2
  rw [List.forIn_cons]
  refine wpAny_bind (wpAny_bind ?_)
  dsimp only
  refine wpAny_bind (g_set hu hk m (Nat.zero_le _) fun h' t m' hs' => wpAny_pure ?_)
  dsimp only
  rw [List.forIn_nil]
  exact wpAny_pure (wpAny_pure (wpAny_pure (wpAny_pure (q h' t m' hs'))))
end
section
variable {P : Program} {w : World} {A : Around} {E : Value → Shared → Prop} {s : Shared}
theorem call_values {d : Addr} {o : Obj} {Q : Value → Shared → Prop} (hs : (d == sysModules) = false) (ho : s.heap.get? d = some o) (hc : o.ExactDict)
    (q : Q (.ref s.heap.objs.size) { s with heap := s.heap.push { cls := .type "dict_values", data := .fields #[.ref d] } }) : wpAny (model P w) A (call (.builtin "dict.values") [.ref d]) Q E s := by
  have ty : s.TypeIs (.ref d) "dict" := ⟨o, ho, hc.1⟩
  refine wpAny_call_entry PySem.F.slot_dict_values ty PySem.F.entry_dict_values ?_ (PySem.F.args_dict_values_1 _)
  refine wpAny_bind ?_
  unfold Builtin.Dict.noArgs
  refine wpAny_bind (wpAny_notOrdered_dict ty ?_)
  show wpAny _ _ (pure d) _ _ s
  refine wpAny_pure ?_
  show wpAny _ _ (Builtin.Dict.showsAll d >>= _) _ _ s
  unfold Builtin.Dict.showsAll
  rw [if_neg (by rw [hs]; exact Bool.false_ne_true)]
  exact wpAny_bind (wpAny_pure (wpAny_bind (wpAny_newObj_type (wpAny_pure ⟨_, rfl, q⟩))))
theorem iter_values {v d : Addr} {o : Obj} {es : Array DictEntry} {ep : Nat} {Q : Value → Shared → Prop} (hv : s.heap.IsValuesView v d) (ho : s.heap.get? d = some o) (hd : o.data = .dict es ep)
    (q : Q (.ref s.heap.objs.size) { s with heap := s.heap.push { cls := .type "dict_valueiterator", data := .fields #[.ref d, .int 0 0, .int es.size 0, .int ep 0] } }) : wpAny (model P w) A (pyIter (.ref v)) Q E s := by
  obtain ⟨ov, hov, hcv, hdv⟩ := id hv
  refine wpAny_pyIter_slot hv.typeIs F.slot_dict_values_iter (wpAny_call_entry F.slot_dict_values_iter hv.typeIs F.entry_dict_values_iter ?_ (F.args_dict_values_iter_1 _))
  unfold Builtin.«dict_values.__iter__»
  refine wpAny_bind (wpAny_pure (wpAny_bind ?_))
  unfold Builtin.Dict_items.dictOf
  refine wpAny_bind (wpAny_field hov hdv (x := .ref d) rfl (wpAny_pure (wpAny_bind ?_)))
  unfold Builtin.Dict_items.newIterator
  refine wpAny_bind (wpAny_dictEntries ho hd (wpAny_bind (wpAny_dictEpoch ho hd ?_)))
  have hown : Builtin.Dict_items.ownsTuple "dict_valueiterator" = false := by decide
  simp only [hown, Bool.false_eq_true, if_false]
  refine wpAny_newObj_type (wpAny_pure ⟨_, rfl, "dict_valueiterator", _, ⟨_, Heap.get?_push_size _ rfl, rfl⟩, F.slot_dict_valueiterator_next.lookup, ?_⟩)
  simpa [rawInt] using q
theorem next_val {it d : Addr} {i n ep : Nat} {od : Obj} {es : Array DictEntry} {en : DictEntry} {Q : Option Value → Shared → Prop} (hit : s.heap.IsValIter it d i n ep) (hod : s.heap.get? d = some od) (hdd : od.data = .dict es ep)
    (hsz : es.size = n) (hx : es[i]? = some en) (q : ∀ h', h'.IsValIter it d (i + 1) n ep → Heap.SameBut it s.heap h' → Q (some en.val) { s with heap := h' }) : wpAny (model P w) A (pyNext (.ref it)) Q E s := by
  obtain ⟨o, ho, hc, hd⟩ := id hit
  unfold pyNext
  refine wpAny_bind (wpAny_attempt (wpAny_callSpecial?_slot (name := Str.ofString "__next__") hit.typeIs F.slot_dict_valueiterator_next (wpAny_call_entry F.slot_dict_valueiterator_next hit.typeIs F.entry_dict_valueiterator_next ?_ (F.args_dict_valueiterator_next_1 _))))
  refine wpAny_bind (wpAny_pure (wpAny_bind (wpAny_bind ?_)))
  first | refine wpAny_bind (wpAny_typeNameOfWhole_valiter hit.typeIs (wpAny_pure ?_)) | refine wpAny_bind (wpAny_typeNameOf_valiter hit.typeIs (wpAny_pure ?_))
  refine wpAny_bind (wpAny_fieldsOf ho hd ?_)
  have hown : Builtin.Dict_items.ownsTuple "dict_valueiterator" = false := by decide
  simp only [hown, Bool.false_eq_true, if_false]
  show wpAny _ _ (if (Value.ref d == Value.none) = true then _ else _) _ _ s
  rw [if_neg (show ¬ ((Value.ref d == Value.none) = true) from Bool.false_ne_true)]
  refine wpAny_bind (wpAny_pure (wpAny_bind (wpAny_dictEntries hod hdd ?_)))
  rw [if_neg (by rw [hsz]; simp)]
  refine wpAny_bind (wpAny_pure (wpAny_bind (wpAny_dictEpoch hod hdd ?_)))
  rw [if_neg (by simp)]
  refine wpAny_pure ?_
  obtain ⟨hlt, hen⟩ := Array.getElem?_eq_some_iff.mp hx
  simp only [show ¬ ((i : Int) < 0) from by omega, if_false, Int.toNat_natCast, Array.getElem?_eq_getElem hlt]
  refine wpAny_bind ?_
  first | refine wpAny_bind (wpAny_typeNameOfWhole_valiter hit.typeIs (wpAny_pure ?_)) | refine wpAny_bind (wpAny_typeNameOf_valiter hit.typeIs (wpAny_pure ?_))
  refine wpAny_bind (wpAny_isOneOf_valiter hit.typeIs ?_)
  show wpAny _ _ (setField (.ref it) 1 (rawInt ((i : Int) + 1)) >>= _) _ _ s
  refine wpAny_bind (wpAny_setField ho hd (by simp) ?_)
  have hit' : (s.heap.update it (Obj.mapFields (·.setIfInBounds 1 (rawInt ((i : Int) + 1))))).IsValIter it d (i + 1) n ep :=
    ⟨_, Heap.get?_update_self _ ho (Obj.isFreed_of_fields (Obj.data_mapFields hd _)), (Obj.cls_mapFields ..).trans hc, by rw [Obj.data_mapFields hd]; simp [rawInt]⟩
  refine wpAny_bind (wpAny_holding ?_)
  refine wpAny_bind (wpAny_isOneOf_valiter (s := { s with heap := s.heap.update it (Obj.mapFields (·.setIfInBounds 1 (rawInt ((i : Int) + 1)))) }) hit'.typeIs ?_)
  refine wpAny_bind (wpAny_isOneOf_valiter (s := { s with heap := s.heap.update it (Obj.mapFields (·.setIfInBounds 1 (rawInt ((i : Int) + 1)))) }) hit'.typeIs ?_)
  show wpAny _ _ (pure es[i].val) _ _ _
  rw [hen]
  exact wpAny_pure (wpAny_pure ⟨_, rfl, wpAny_pure (q _ hit' (Heap.SameBut.update ..))⟩)
theorem next_val_end {it d : Addr} {i n ep : Nat} {od : Obj} {es : Array DictEntry} {Q : Option Value → Shared → Prop} (hh : A.handled = none) (hit : s.heap.IsValIter it d i n ep) (hod : s.heap.get? d = some od) (hdd : od.data = .dict es ep)
    (hsz : es.size = n) (hge : n ≤ i) (q : ∀ h', Heap.ExtBut it s.heap h' → Q none { s with heap := h' }) : wpAny (model P w) A (pyNext (.ref it)) Q E s := by
  obtain ⟨o, ho, hc, hd⟩ := id hit
  unfold pyNext
  refine wpAny_bind (wpAny_attempt (wpAny_callSpecial?_slot (name := Str.ofString "__next__") hit.typeIs F.slot_dict_valueiterator_next (wpAny_call_entry F.slot_dict_valueiterator_next hit.typeIs F.entry_dict_valueiterator_next ?_ (F.args_dict_valueiterator_next_1 _))))
  refine wpAny_bind (wpAny_pure (wpAny_bind (wpAny_bind ?_)))
  first | refine wpAny_bind (wpAny_typeNameOfWhole_valiter hit.typeIs (wpAny_pure ?_)) | refine wpAny_bind (wpAny_typeNameOf_valiter hit.typeIs (wpAny_pure ?_))
  refine wpAny_bind (wpAny_fieldsOf ho hd ?_)
  have hown : Builtin.Dict_items.ownsTuple "dict_valueiterator" = false := by decide
  simp only [hown, Bool.false_eq_true, if_false]
  show wpAny _ _ (if (Value.ref d == Value.none) = true then _ else _) _ _ s
  rw [if_neg (show ¬ ((Value.ref d == Value.none) = true) from Bool.false_ne_true)]
  refine wpAny_bind (wpAny_pure (wpAny_bind (wpAny_dictEntries hod hdd ?_)))
  rw [if_neg (by rw [hsz]; simp)]
  refine wpAny_bind (wpAny_pure (wpAny_bind (wpAny_dictEpoch hod hdd ?_)))
  rw [if_neg (by simp)]
  refine wpAny_pure ?_
  have hge' : es.size ≤ i := by rw [hsz]; exact hge
  simp only [show ¬ ((i : Int) < 0) from by omega, if_false, Int.toNat_natCast, Array.getElem?_eq_none hge']
  refine wpAny_bind ?_
  first | refine wpAny_bind (wpAny_typeNameOfWhole_valiter hit.typeIs (wpAny_pure ?_)) | refine wpAny_bind (wpAny_typeNameOf_valiter hit.typeIs (wpAny_pure ?_))
  show wpAny _ _ (setField (.ref it) 0 .none >>= _) _ _ s
  refine wpAny_bind (wpAny_setField ho hd (by simp) ?_)
  show wpAny _ _ (newExc (.type "StopIteration") [] >>= _) _ _ _
  refine wpAny_bind ?_
  simp only [newExc, newTuple]
  refine wpAny_bind (wpAny_newObj_type ?_ (by size_fits))
  refine wpAny_bind (m := firstArgMember _ _) (wpAny_of_eq (a := Value.none) (by first | rfl | (simp only [firstArgMember]; rfl)) ?_)
  refine wpAny_newObj_type ?_ (by size_fits)
  simp only [raiseNew]
  refine wpAny_bind (wpAny_handled ?_)
  rw [show A.in1.handled = none from hh]
  refine wpAny_bind (wpAny_pure (wpAny_throw ?_))
  refine wpAny_bind (wpAny_isInstance (T := "StopIteration") (b := true) ⟨_, Heap.get?_push_size _ rfl, rfl⟩ isSubtype_stop ?_)
  exact wpAny_pure (q _ (((Heap.SameBut.update ..).extBut.push _).push _))
noncomputable def RawD (h : Heap) (d : Addr) (es : Array DictEntry) (ep : Nat) : Prop := ∃ o, h.get? d = some o ∧ o.data = .dict es ep
theorem walks_vals (hh : A.handled = none) (I d : Addr) (hne : d ≠ I) (es : Array DictEntry) (ep : Nat) :
    Walks P w A I [I, d] [I] es.size (fun i v => ∃ en, es[i]? = some en ∧ v = en.val) (fun i h => h.IsValIter I d i es.size ep ∧ RawD h d es ep) where
  sub := fun b hb => by simp at hb; simp [hb]
  frame := fun _ _ _ st hk => ⟨st.1.at fun o e => hk I (by simp) o e, let ⟨o, ho, hd⟩ := st.2; ⟨o, hk d (by simp) o ho, hd⟩⟩
  item := fun i s Q E hi st hQ => by
    obtain ⟨o, ho, hd⟩ := st.2
    refine next_val st.1 ho hd rfl (Array.getElem?_eq_getElem hi) fun h' hit' hs' => ?_
    exact hQ _ h' s.toks ⟨_, Array.getElem?_eq_getElem hi, rfl⟩ ⟨hit', o, (hs'.2 d hne).trans ho, hd⟩ fun b o hb e => hs'.extBut b o (fun z => hb (by simp [z])) e
  done := fun s Q E st hQ => by
    obtain ⟨o, ho, hd⟩ := st.2
    exact next_val_end hh st.1 ho hd rfl (Nat.le_refl _) fun h' he' => hQ h' s.toks fun b o hb e => he' b o (fun z => hb (by simp [z])) e
  self := fun _ _ _ _ st hQ => wpAny_pyIter_valiter st.1 hQ
theorem src_vals {r d : Addr} {es : Array DictEntry} {ep : Nat} : PySem.W.KdlSrc P w "dict_values" r d es.size (fun i v => ∃ en, es[i]? = some en ∧ v = en.val) (fun h => h.IsValuesView r d ∧ RawD h d es ep) where
  type := fun _ m => m.1.typeIs
  there := fun _ m => ⟨let ⟨_, ho, _⟩ := m.1; Heap.lt_size ho, let ⟨_, ho, _⟩ := m.2; Heap.lt_size ho⟩
  keep := fun _ _ m hk => ⟨let ⟨o, ho, x⟩ := m.1; ⟨o, hk r (.inl rfl) o ho, x⟩, let ⟨o, ho, x⟩ := m.2; ⟨o, hk d (.inr rfl) o ho, x⟩⟩
  notList := by decide
  notTuple := by decide
  hint := fun _ _ _ _ m hq => PySem.W.kdl_hint_values m.1.typeIs hq
  iter := fun _ s hh m => by
    obtain ⟨o, ho, hd⟩ := m.2
    exact ⟨_, _, (fun _ _ hq => iter_values m.1 ho hd hq), walks_vals hh _ d (Nat.ne_of_lt (Heap.lt_size ho)) es ep, ⟨⟨_, Heap.get?_push_size _ rfl, rfl, rfl⟩, o, Heap.get?_push_of_some _ ho, hd⟩⟩
theorem list_values {r d : Addr} {es : Array DictEntry} {ep : Nat} {Q : Value → Shared → Prop} (hh : A.handled = none) (hv : s.heap.IsValuesView r d) (hd : RawD s.heap d es ep) (hn : es.size ≤ sizeLine)
    (q : ∀ h' tk c', (∀ b o, s.heap.get? b = some o → h'.get? b = some o) → h'.get? s.heap.objs.size = some { cls := .type "list", dict := none, data := .seq (es.map (·.val)) c', slots := #[] } → Q (.ref s.heap.objs.size) { s with heap := h', toks := tk }) :
    wpAny (model P w) A (call (.type "list") [.ref r]) Q E s := by
  refine PySem.W.kdl_call (src_vals (ep := ep)) hh ⟨hv, hd⟩ hn fun h' tk acc c' hk hl hi => ?_
  have e : acc = es.map (·.val) := by
    apply Array.ext
    · rw [hi.1, Array.size_map]
    · intro i h1 h2
      obtain ⟨en, e1, e2⟩ := hi.2 i acc[i] (Array.getElem?_eq_getElem h1)
      rw [e2, Array.getElem_map]
      rw [Array.getElem?_eq_getElem (by rw [Array.size_map] at h2; exact h2)] at e1
      rw [Option.some.inj e1]
  rw [e] at hl
  exact q h' tk c' hk hl
end
end L2
namespace L2
open PySem PySem.Spec PyProof.Rows

inductive V where
  | non | bl (b : Bool) | int (i : Int) | str (x : Str) | byt (b : Array UInt8) | flt (b : UInt64) | ref (a : Addr) | ty (n : String)
  deriving DecidableEq

noncomputable def RelV : V → Value → Prop
  | .non, u => u = Value.none
  | .bl b, u => u = Value.bool b
  | .int i, u => ∃ t, u = Value.int i t
  | .str x, u => ∃ t, u = Value.str x t
  | .byt b, u => ∃ t, u = Value.bytes b t
  | .flt b, u => ∃ t, u = Value.float b t
  | .ref a, u => u = Value.ref a
  | .ty n, u => u = Value.type n

noncomputable abbrev Vals : List V → List Value → Prop := Paired RelV
theorem Vals.length {xs : List V} {us : List Value} (r : Vals xs us) : xs.length = us.length := Paired.length r
theorem Vals.get : ∀ {xs : List V} {us : List Value} {i : Nat} {x : V}, Vals xs us → xs[i]? = some x → ∃ u, us[i]? = some u ∧ RelV x u
  | _, _, _, _, .nil, e => by simp at e
  | _, _, 0, _, .cons r _, e => by simp at e; subst e; exact ⟨_, rfl, r⟩
  | _, _, i + 1, x, .cons _ t, e => by
    obtain ⟨u, h1, h2⟩ := Vals.get (i := i) (x := x) t (by simpa using e)
    exact ⟨u, by simpa using h1, h2⟩
theorem Vals.set {x : V} {u : Value} (r : RelV x u) : ∀ {xs : List V} {us : List Value} (i : Nat), Vals xs us → Vals (xs.set i x) (us.set i u)
  | _, _, _, .nil => .nil
  | _, _, 0, .cons _ t => .cons r t
  | _, _, i + 1, .cons q t => .cons q (Vals.set r i t)
theorem Vals.append : ∀ {xs ys : List V} {us ws : List Value}, Vals xs us → Vals ys ws → Vals (xs ++ ys) (us ++ ws) := by
  intro xs ys us ws h s
  induction h with
  | nil => exact s
  | cons r t ih => exact .cons r ih
theorem Vals.take : ∀ {xs : List V} {us : List Value} (n : Nat), Vals xs us → Vals (xs.take n) (us.take n)
  | _, _, 0, _ => .nil
  | _, _, _ + 1, .nil => .nil
  | _, _, n + 1, .cons r t => .cons r (Vals.take n t)
theorem Vals.drop : ∀ {xs : List V} {us : List Value} (n : Nat), Vals xs us → Vals (xs.drop n) (us.drop n)
  | _, _, 0, r => r
  | _, _, _ + 1, .nil => .nil
  | _, _, n + 1, .cons _ t => Vals.drop n t

noncomputable def RelO : Option V → Option Value → Prop
  | some v, some u => RelV v u
  | none, none => True
  | _, _ => False
noncomputable def KV {κ : Type} : List (κ × V) → List (κ × Value) → Prop := Paired fun (p : κ × V) (q : κ × Value) => p.1 = q.1 ∧ RelV p.2 q.2

noncomputable def kV : Key → V
  | .inl i => .int i
  | .inr x => .str x

inductive HO where
  /-- a list -/
  | lst (xs : List V)
  /-- a tuple (never changes) -/
  | tup (xs : List V)
  /-- a dict whose keys are ints and texts; one whose keys are tuples of ints and texts (the empty one is both) -/
  | dK (kvs : List (Key × V)) | dT (kvs : List (List Key × V))
  /-- a dict of general keys -/
  | dG (kvs : List (GK × V))
  /-- a set of ints: its members, its size -/
  | set (S : Int → Bool) (n : Nat)
  /-- an instance of the class at C, its dict at dx, its attributes -/
  | ins (C dx : Addr) (fs : List (Str × V))
  /-- the dict of the instance at x -/
  | own (x : Addr)
  /-- the dict of an exception -/
  | xd (fs : List (Str × V))
  /-- a bound method, f of x -/
  | met (f x : Addr)
  /-- a range object lo, lo + 1, .. below hi -/
  | rng (lo hi : Int)
  /-- a thing that is known to the object (the script; a dict while a loop walks it): read, never written while it is so -/
  | frz (o : Obj) (u : HO)
  /-- a code object's table -/
  | tbl (ps : Array Value)
  /-- any other thing, by what is true of its one object (a def of one's own: SetO a S n := HO.ext fun h => ..) -/
  | ext (φ : Heap → Prop)

noncomputable abbrev Hp := Addr → Option HO
noncomputable def upd (H : Hp) (a : Addr) (o : HO) : Hp := fun b => if b = a then some o else H b
theorem upd_same {H : Hp} {a : Addr} {o : HO} : upd H a o a = some o := by unfold upd; rw [if_pos rfl]
theorem upd_ne {H : Hp} {a b : Addr} {o : HO} (h : b ≠ a) : upd H a o b = H b := by unfold upd; rw [if_neg h]
theorem ne_of {H : Hp} {a b : Addr} {o u : HO} (h : H a = some o) (h' : H b = some u) (d : o ≠ u) : a ≠ b := by
  intro e; subst e; rw [h] at h'; exact d (Option.some.inj h')
theorem ne_of_none {H : Hp} {a b : Addr} {o : HO} (h : H a = some o) (h' : H b = none) : a ≠ b := by
  intro e; subst e; rw [h] at h'; cases h'

noncomputable def GV (H : Hp) : GK → Value → Prop
  | .non, u => u = Value.none
  | .tup l, u => ∃ a, u = Value.ref a ∧ H a = some (.tup (l.map V.int))
  | .two x y, u => ∃ a b c, u = Value.ref a ∧ H a = some (.tup [.ref b, .ref c]) ∧ H b = some (.tup (x.map V.int)) ∧ H c = some (.tup (y.map V.int))
theorem GV.keeps {H H' : Hp} {k : GK} {u : Value} (g : GV H k u) (ht : ∀ b ys, H b = some (.tup ys) → H' b = some (.tup ys)) : GV H' k u := by
  cases k with
  | non => exact g
  | tup l => obtain ⟨a, e, h⟩ := g; exact ⟨a, e, ht _ _ h⟩
  | two x y => obtain ⟨a, b, c, e, h1, h2, h3⟩ := g; exact ⟨a, b, c, e, ht _ _ h1, ht _ _ h2, ht _ _ h3⟩
noncomputable abbrev KG (H : Hp) : List (GK × V) → List GX → Prop := Paired fun p q => p.1 = q.1 ∧ GV H p.1 q.2.1 ∧ RelV p.2 q.2.2
section
variable (P : Program) (w : World)
noncomputable def ObjOk (H : Hp) (h : Heap) (a : Addr) : HO → Prop
  | .lst xs => xs.length ≤ sizeLine ∧ ∃ (its : List Value) (n : Nat), Vals xs its ∧ h.get? a = some { cls := .type "list", data := .seq its.toArray n }
  | .tup xs => xs.length ≤ sizeLine ∧ ∃ its : List Value, Vals xs its ∧ IsTup h a its.toArray
  | .dK kvs => kvs.length ≤ sizeLine ∧ (a == sysModules) = false ∧ ∃ vs, KV kvs vs ∧ h.DictOf (mixKind P w) a vs
  | .dT kvs => kvs.length ≤ sizeLine ∧ (a == sysModules) = false ∧ ∃ xs : List (List Key × Addr × Value),
      Paired (fun (p : List Key × V) (q : List Key × Addr × Value) => p.1 = q.1 ∧ H q.2.1 = some (.tup (p.1.map kV)) ∧ RelV p.2 q.2.2) kvs xs ∧
      ∃ o es ep, h.get? a = some o ∧ o.ExactDict ∧ o.data = .dict es ep ∧ es.toList = xs.map (entryOfKey (tupleKind (mixKind P w))) ∧ (xs.map (·.1)).Nodup
  | .dG kvs => kvs.length ≤ sizeLine ∧ (a == sysModules) = false ∧ ∃ xs : List GX, KG H kvs xs ∧
      ∃ o es ep, h.get? a = some o ∧ o.ExactDict ∧ o.data = .dict es ep ∧ es.toList = xs.map (entG P w) ∧ (xs.map (·.1)).Nodup
  | .set S n => h.SetOf (intKind P w) a S n
  | .ins C dx fs => H dx = some (.own a) ∧ fs.length ≤ 1000 ∧ dx ≠ a ∧ h.get? a = some (PySem.W.instObj C dx) ∧
      ∃ mA, h.Ns1 dx mA ∧ (∀ f, RelO (fs.lookup f) (mA f)) ∧ PySem.Within mA (fs.map (·.1))
  | .own _ => ∃ o, h.get? a = some o
  | .xd fs => ∃ mA, h.Ns1 a mA ∧ ∀ f, RelO (fs.lookup f) (mA f)
  | .rng lo hi => ∃ t u v, h.get? a = some { cls := .type "range", data := .fields #[.int lo t, .int hi u, .int 1 v] }
  | .frz o u => h.get? a = some o ∧ ObjOk H h a u
  | .tbl ps => h.get? a = some { cls := .none, data := .fields ps }
  | .met f x => h.get? a = some (PySem.W.methodObj (.ref f) (.ref x))
  | .ext φ => φ h ∧ (∃ o, h.get? a = some o) ∧ ∀ h1 h2 : Heap, φ h1 → (∀ o, h1.get? a = some o → h2.get? a = some o) → φ h2
noncomputable def HOk (H : Hp) (h : Heap) : Prop := ∀ a o, H a = some o → ObjOk P w H h a o
end

section
variable {P : Program} {w : World} {H H' : Hp} {h h' : Heap} {a : Addr} {o : HO}
theorem ObjOk.lt (x : ObjOk P w H h a o) : a < h.objs.size := by
  cases o with
  | lst xs => obtain ⟨_, _, _, _, e⟩ := x; exact Heap.lt_size e
  | tup xs => obtain ⟨_, _, _, p⟩ := x; exact p.lt
  | dK kvs => obtain ⟨_, _, _, _, o, _, _, e, _⟩ := x; exact Heap.lt_size e
  | dT kvs => obtain ⟨_, _, _, _, o, _, _, e, _⟩ := x; exact Heap.lt_size e
  | dG kvs => obtain ⟨_, _, _, _, o, _, _, e, _⟩ := x; exact Heap.lt_size e
  | set S n => obtain ⟨o, _, _, _, e, _⟩ := x; exact Heap.lt_size e
  | ins C dx fs => obtain ⟨_, _, _, e, _⟩ := x; exact Heap.lt_size e
  | own y => obtain ⟨_, e⟩ := x; exact Heap.lt_size e
  | xd fs => obtain ⟨_, ⟨_, _, _, e, _⟩, _⟩ := x; exact Heap.lt_size e
  | rng lo hi => obtain ⟨_, _, _, e⟩ := x; exact Heap.lt_size e
  | frz ob u => obtain ⟨e, _⟩ := x; exact Heap.lt_size e
  | tbl ps => exact Heap.lt_size (show h.get? a = some _ from x)
  | met f y => exact Heap.lt_size (show h.get? a = some _ from x)
  | ext φ => obtain ⟨_, ⟨_, e⟩, _⟩ := x; exact Heap.lt_size e
theorem Paired.mapP {α β : Type} {F G : α → β → Prop} : ∀ {l₁ : List α} {l₂ : List β}, Paired F l₁ l₂ → (∀ a b, F a b → G a b) → Paired G l₁ l₂ := by
  intro l1 l2 h f
  induction h with
  | nil => exact .nil
  | cons r t ih => exact .cons (f _ _ r) ih
theorem ObjOk.stay (x : ObjOk P w H h a o) (k : ∀ b u, (b = a ∨ H b = some (.own a)) → h.get? b = some u → h'.get? b = some u)
    (ho : ∀ b, H b = some (.own a) → H' b = some (.own a)) (ht : ∀ b xs, H b = some (.tup xs) → H' b = some (.tup xs)) : ObjOk P w H' h' a o := by
  induction o with
  | lst xs => obtain ⟨z, its, n, r, e⟩ := x; exact ⟨z, its, n, r, k _ _ (.inl rfl) e⟩
  | tup xs => obtain ⟨z, its, r, ob, e, c⟩ := x; exact ⟨z, its, r, ob, k _ _ (.inl rfl) e, c⟩
  | dK kvs => obtain ⟨z, y, vs, r, ob, es, ep, e, c⟩ := x; exact ⟨z, y, vs, r, ob, es, ep, k _ _ (.inl rfl) e, c⟩
  | dT kvs =>
    obtain ⟨z, y, xs, r, ob, es, ep, e, c⟩ := x
    exact ⟨z, y, xs, Paired.mapP r fun p q z => ⟨z.1, ht _ _ z.2.1, z.2.2⟩, ob, es, ep, k _ _ (.inl rfl) e, c⟩
  | dG kvs =>
    obtain ⟨z, y, xs, r, ob, es, ep, e, c⟩ := x
    exact ⟨z, y, xs, Paired.mapP r fun p q z => ⟨z.1, z.2.1.keeps ht, z.2.2⟩, ob, es, ep, k _ _ (.inl rfl) e, c⟩
  | set S n => obtain ⟨ob, es, ep, t, e, c⟩ := x; exact ⟨ob, es, ep, t, k _ _ (.inl rfl) e, c⟩
  | ins C dx fs =>
    obtain ⟨d, z, ne, e, mA, ⟨od, es, ep, e2, c⟩, r⟩ := x
    exact ⟨ho _ d, z, ne, k _ _ (.inl rfl) e, mA, ⟨od, es, ep, k _ _ (.inr d) e2, c⟩, r⟩
  | own y => obtain ⟨ob, e⟩ := x; exact ⟨ob, k _ _ (.inl rfl) e⟩
  | xd fs => obtain ⟨mA, ⟨od, es, ep, e, c⟩, r⟩ := x; exact ⟨mA, ⟨od, es, ep, k _ _ (.inl rfl) e, c⟩, r⟩
  | rng lo hi => obtain ⟨t, u, v, e⟩ := x; exact ⟨t, u, v, k _ _ (.inl rfl) e⟩
  | frz ob u ih => obtain ⟨e, q⟩ := x; exact ⟨k _ _ (.inl rfl) e, ih q⟩
  | tbl ps =>
    have e : h.get? a = some { cls := .none, data := .fields ps } := x
    show h'.get? a = some { cls := .none, data := .fields ps }
    exact k a _ (.inl rfl) e
  | met f y =>
    have e : h.get? a = some (PySem.W.methodObj (.ref f) (.ref y)) := x
    show h'.get? a = some (PySem.W.methodObj (.ref f) (.ref y))
    exact k a _ (.inl rfl) e
  | ext φ => obtain ⟨p, ⟨o, e⟩, st⟩ := x; exact ⟨st _ _ p fun o q => k _ _ (.inl rfl) q, ⟨o, k _ _ (.inl rfl) e⟩, st⟩
theorem HOk.lt (x : HOk P w H h) (e : H a = some o) : a < h.objs.size := (x a o e).lt
theorem HOk.fresh (x : HOk P w H h) (e : h.objs.size ≤ a) : H a = none := by
  cases q : H a with
  | none => rfl
  | some u => exact absurd (Nat.lt_of_lt_of_le (x.lt q) e) (Nat.lt_irrefl _)
theorem HOk.kept (x : HOk P w H h) (k : ∀ b u, h.get? b = some u → h'.get? b = some u) : HOk P w H h' := fun a o e =>
  (x a o e).stay (fun b u _ q => k b u q) (fun _ q => q) fun _ _ q => q
theorem HOk.laid (x : HOk P w H h) (k : ∀ b u, h.get? b = some u → h'.get? b = some u) (hp : h.objs.size ≤ a) (new : ObjOk P w (upd H a o) h' a o) : HOk P w (upd H a o) h' := fun b u e => by
  have hn := x.fresh hp
  by_cases hb : b = a
  · subst hb; rw [upd_same] at e; cases e; exact new
  · rw [upd_ne hb] at e
    exact (x b u e).stay (fun c v _ q => k c v q) (fun c q => by rw [upd_ne (ne_of_none q hn)]; exact q) fun c xs q => by rw [upd_ne (ne_of_none q hn)]; exact q
end

noncomputable def Rd (H : Hp) (a : Addr) (u : HO) : Prop := H a = some u ∨ ∃ o, H a = some (.frz o u)
theorem Rd.ok {P : Program} {w : World} {H : Hp} {h : Heap} {a : Addr} {u : HO} (r : Rd H a u) (x : HOk P w H h) : ObjOk P w H h a u := by
  rcases r with r | ⟨o, r⟩
  · exact x a u r
  · obtain ⟨_, q⟩ := x a _ r
    exact q
noncomputable def Mut : Option HO → Prop
  | some (.lst _) => True
  | some (.dK _) => True
  | some (.dT _) => True
  | some (.dG _) => True
  | some (.set _ _) => True
  | some (.ins _ _ _) => True
  | some (.ext _) => True
  | _ => False
section
variable {P : Program} {w : World} {H : Hp} {h h' : Heap} {x e : Addr} {o' : HO}
theorem HOk.write (ok : HOk P w H h) (mu : Mut (H x)) (he : e = x ∨ H e = some (.own x)) (k : ∀ b u, b ≠ e → h.get? b = some u → h'.get? b = some u) (heo : ∃ u, h'.get? e = some u)
    (new : ObjOk P w (upd H x o') h' x o') : HOk P w (upd H x o') h' := fun b u q => by
  have nown : ∀ c y, H c = some (.own y) → c ≠ x := fun c y r z => by subst z; rw [r] at mu; exact mu
  have ntup : ∀ c xs, H c = some (.tup xs) → c ≠ x := fun c xs r z => by subst z; rw [r] at mu; exact mu
  by_cases hb : b = x
  · subst hb; rw [upd_same] at q; cases q; exact new
  · rw [upd_ne hb] at q
    by_cases hbe : b = e
    · have q' : H b = some (.own x) := by
        rcases he with z | z
        · exact absurd (hbe.trans z) hb
        · rw [hbe]; exact z
      rw [q] at q'; cases q'
      obtain ⟨v, hv⟩ := heo
      exact ⟨v, by rw [hbe]; exact hv⟩
    · refine (ok b u q).stay (fun c v hc r => k c v ?_ r) (fun c r => by rw [upd_ne (nown c b r)]; exact r) fun c xs r => by rw [upd_ne (ntup c xs r)]; exact r
      rcases hc with rfl | hc
      · exact hbe
      · rintro rfl
        rcases he with z | z
        · exact nown c b hc z
        · rw [hc] at z; cases z; exact hb rfl
end

structure Un (fs ex : List Addr) (H H' : Hp) (h h' : Heap) : Prop where
  keep : ∀ b o, h.get? b = some o → H b = none → b ∉ fs → b ∉ ex → h'.get? b = some o
  slot : ∀ b o, h.get? b = some o → H b = none → b ∈ fs → b ∉ ex → ∃ sl, h'.get? b = some { o with slots := sl }
  free : ∀ b o, h.get? b = some o → H b = none → b ∉ ex → H' b = none
  there : ∀ b o, h.get? b = some o → b ∉ ex → ∃ o', h'.get? b = some o'
  tups : ∀ b xs, H b = some (.tup xs) → H' b = some (.tup xs)
  frzs : ∀ b o u, H b = some (.frz o u) → H' b = some (.frz o u)
  tbls : ∀ b ps, H b = some (.tbl ps) → ∃ more, H' b = some (.tbl (ps ++ more))
section
variable {fs fs' ex ex' : List Addr} {H H1 H2 : Hp} {h h1 h2 h' : Heap} {a x e : Addr} {o : HO}
theorem Un.any (u : Un fs ex H H1 h h1) {b : Addr} {ob : Obj} (q : h.get? b = some ob) (n : H b = none) (hx : b ∉ ex) : ∃ sl, h1.get? b = some { ob with slots := sl } := by
  by_cases hb : b ∈ fs
  · exact u.slot b ob q n hb hx
  · exact ⟨ob.slots, u.keep b ob q n hb hx⟩
theorem Un.kept (k : ∀ b u, h.get? b = some u → h'.get? b = some u) : Un fs ex H H h h' :=
  ⟨fun b ob q _ _ _ => k b ob q, fun b ob q _ _ _ => ⟨ob.slots, k b ob q⟩, fun _ _ _ n _ => n, fun b ob q _ => ⟨ob, k b ob q⟩, fun _ _ q => q, fun _ _ _ q => q, fun _ ps q => ⟨#[], by rw [q]; simp⟩⟩
theorem Un.refl : Un fs ex H H h h := Un.kept fun _ _ q => q
theorem Un.laid (k : ∀ b u, h.get? b = some u → h'.get? b = some u) (hp : h.objs.size ≤ a) (hn : H a = none) : Un fs ex H (upd H a o) h h' where
  keep := fun b u q _ _ _ => k b u q
  slot := fun b u q _ _ _ => ⟨u.slots, k b u q⟩
  free := fun b u q n _ => by rw [upd_ne (Nat.ne_of_lt (Nat.lt_of_lt_of_le (Heap.lt_size q) hp))]; exact n
  there := fun b u q _ => ⟨u, k b u q⟩
  tups := fun b xs q => by rw [upd_ne (ne_of_none q hn)]; exact q
  frzs := fun b u xs q => by rw [upd_ne (ne_of_none q hn)]; exact q
  tbls := fun b ps q => ⟨#[], by rw [upd_ne (ne_of_none q hn), q]; simp⟩
theorem Un.write (mu : Mut (H x)) (he : e = x ∨ H e = some (.own x)) (k : ∀ b u, b ≠ e → h.get? b = some u → h'.get? b = some u) (heo : ∃ u, h'.get? e = some u) : Un fs ex H (upd H x o) h h' := by
  have hx : ∀ b, H b = none → b ≠ x := fun b n z => by subst z; rw [n] at mu; exact mu
  have hb : ∀ b, H b = none → b ≠ e := fun b n z => by
    subst z
    rcases he with r | r
    · exact hx b n r
    · rw [n] at r; cases r
  have hm : ∀ b u, H b = some u → ¬ Mut (some u) → b ≠ x := fun b u q nm z => by subst z; rw [q] at mu; exact nm mu
  refine ⟨fun b u q n _ _ => k b u (hb b n) q, fun b u q n _ _ => ⟨u.slots, k b u (hb b n) q⟩, fun b u q n _ => by rw [upd_ne (hx b n)]; exact n, fun b u q _ => ?_,
    fun b xs q => by rw [upd_ne (hm b _ q fun z => z)]; exact q, fun b u xs q => by rw [upd_ne (hm b _ q fun z => z)]; exact q, fun b ps q => ⟨#[], by rw [upd_ne (hm b _ q fun z => z), q]; simp⟩⟩
  by_cases hbe : b = e
  · subst hbe; exact heo
  · exact ⟨u, k b u hbe q⟩
end

noncomputable def trk (h : Heap) (H : Hp) : List Addr := (List.range h.objs.size).filter fun a => (H a).isSome
noncomputable def hidT (h : Heap) (H : Hp) : Heap := PySem.W.hideAll h (trk h H)
theorem hidT_size (h : Heap) (H : Hp) : (hidT h H).objs.size = h.objs.size := PySem.W.hideAll_size _ _
theorem hidT_get {h : Heap} {H : Hp} {b : Addr} {o : Obj} (e : h.get? b = some o) (n : H b = none) : (hidT h H).get? b = some o :=
  PySem.W.hideAll_get _ e fun hm => by
    have q : (H b).isSome = true := (List.mem_filter.mp hm).2
    rw [n] at q; simp at q
theorem of_hidT {h : Heap} {H : Hp} {b : Addr} {o : Obj} (e : (hidT h H).get? b = some o) : h.get? b = some o ∧ H b = none := by
  have e' : h.get? b = some o := PySem.W.of_hideAll (trk h H) e
  refine ⟨e', ?_⟩
  cases q : H b with
  | none => rfl
  | some x =>
    have hm : b ∈ trk h H := List.mem_filter.mpr ⟨List.mem_range.mpr (Heap.lt_size e'), by simp [q]⟩
    have z : (hidT h H).get? b = none := PySem.W.hideAll_none (trk h H) hm
    rw [z] at e; cases e

end L2

namespace L2
open PySem PySem.Spec PyProof.Rows

structure Mod (K : PySem.W.Frag) (mg : Str → Option Value) (base : Heap) : Prop where
  kin : K.In base
  glob : base.Ns mainGlobals mg
  blt : ∃ mb, base.Ns builtinsNs mb ∧ ∀ x : Str, x ≠ "__name__" → mb x = bootBuiltins x
  nolimit : base.NoLimit

/-- the context: a def's body (or a comprehension's block) running. base: fixed through the whole law; s₀, H₀: the entry; outer: the frames whose slots others may change (a def's callers); stack: all frames that run;
   ex: iterators that were made ahead of the entry and are walked here (a comprehension's); fn: the names whose cells were made at the entry (a def: all; a comprehension's block: its own); calm: not within an except suite; pn: pins that every state bears; xe: what is wanted of an exception that leaves the code -/
structure Cx where
  prog : Program
  w : World
  K : PySem.W.Frag
  mg : Str → Option Value
  base : Heap
  A : Around
  N : List Str
  s_0 : Shared
  H_0 : Hp
  env : Env
  outer : List Env
  stack : List Env
  ex : List Addr
  fn : Str → Bool
  calm : Bool
  pn : List (Addr × Obj)
  xe : Value → Shared → Prop
noncomputable def frs (l : List Env) : List Addr := l.filterMap (·.frame)
noncomputable abbrev Cx.fs (X : Cx) : List Addr := frs X.outer

noncomputable def Vis (sc : Scope) (x : Str) : Prop := sc.names.lookup x = some .local ∨ sc.names.lookup x = some .cell ∨ sc.names.lookup x = some .free
noncomputable def Loc (sc : Scope) (x : Str) : Prop := sc.names.lookup x = some .local ∨ sc.names.lookup x = some .cell
noncomputable def Look (env : Env) (h : Heap) (m : Str → Option Value) (x : Str) (u : Value) : Prop :=
  (env.kindOf x = some .local ∧ m x = some u) ∨ ((env.kindOf x = some .cell ∨ env.kindOf x = some .free) ∧ ∃ c, env.cells.lookup x = some c ∧ h.IsCell c (some u))

structure Cx.Ok (X : Cx) : Prop where
  mod : Mod X.K X.mg X.base
  kind : X.env.scope.kind = .function
  glob : X.env.globals = mainGlobals
  blt : X.env.builtins = builtinsNs
  above : X.s_0.heap.objs.size ≤ X.env.locals
  inj : ∀ x y c, X.env.cells.lookup x = some c → X.env.cells.lookup y = some c → x = y
  has : ∀ x, (X.env.kindOf x = some .cell ∨ X.env.kindOf x = some .free) → ∃ c, X.env.cells.lookup x = some c
  cab : ∀ x c, X.fn x = true → X.env.cells.lookup x = some c → X.s_0.heap.objs.size ≤ c
  hd : X.calm = true → X.A.handled = none
  frames : X.A.frames = some X.stack
  stk : X.stack = X.outer ∨ (X.stack = X.env :: X.outer ∧ X.env.frame = some X.env.locals)
  exf : ∀ b ∈ X.ex, b ≠ X.env.locals ∧ ∀ x c, X.env.cells.lookup x = some c → c ≠ b
  bs : ∀ b o, X.base.get? b = some o → X.s_0.heap.get? b = some o ∧ X.H_0 b = none
  bsz : X.base.objs.size ≤ X.s_0.heap.objs.size
  noex : ∀ b o, X.base.get? b = some o → b ∉ X.ex
  exfs : ∀ b ∈ X.ex, b ∉ X.fs
  funs : X.s_0.heap.FunFrames X.base X.outer
  frf : ∀ b ∈ X.fs, X.H_0 b = none

structure Inv (X : Cx) (pins : List (Addr × Obj)) (σ : List (Option V)) (H : Hp) (s : Shared) : Prop where
  ok : X.Ok
  os : s.os = X.s_0.os
  bare : AllBare s.gens
  base : Un X.fs X.ex X.H_0 H X.s_0.heap s.heap
  loc : ∃ m, s.heap.Ns X.env.locals m ∧ ∀ (i : Nat) (x : Str) (v : V), X.N[i]? = some x → σ[i]? = some (some v) → Vis X.env.scope x → ∃ u, RelV v u ∧ Look X.env s.heap m x u
  cell : ∀ x c, X.env.cells.lookup x = some c → ∃ v, s.heap.IsCell c v
  free : H X.env.locals = none
  freeC : ∀ x c, X.env.cells.lookup x = some c → H c = none
  pin : ∀ p ∈ X.pn ++ pins, s.heap.get? p.1 = some p.2 ∧ H p.1 = none ∧ p.1 ≠ X.env.locals ∧ p.1 ∉ X.fs ∧ ∀ v, p.2.data ≠ .cell v
  hok : HOk X.prog X.w H s.heap
  len : σ.length = X.N.length

section
variable {X : Cx} {pins : List (Addr × Obj)} {σ : List (Option V)} {H H' : Hp} {s : Shared} {h' : Heap}

theorem Cx.Ok.nofr (ok : X.Ok) {b : Addr} {o : Obj} (e : X.base.get? b = some o) : b ∉ X.fs := fun hb => by
  have := (ok.funs.mem hb).1
  rw [e] at this; cases this
theorem Inv.bs (I : Inv X pins σ H s) : ∀ b o, X.base.get? b = some o → s.heap.get? b = some o ∧ H b = none := fun b o e =>
  ⟨I.base.keep b o (I.ok.bs b o e).1 (I.ok.bs b o e).2 (I.ok.nofr e) (I.ok.noex b o e), I.base.free b o (I.ok.bs b o e).1 (I.ok.bs b o e).2 (I.ok.noex b o e)⟩
theorem Inv.bk (I : Inv X pins σ H s) : ∀ b o, X.base.get? b = some o → s.heap.get? b = some o := fun b o e => (I.bs b o e).1
theorem Inv.mod (I : Inv X pins σ H s) : Mod X.K X.mg X.base := I.ok.mod
theorem Inv.kIn (I : Inv X pins σ H s) : X.K.In s.heap := I.ok.mod.kin.keeps I.bk
theorem Inv.lt (I : Inv X pins σ H s) : X.env.locals < s.heap.objs.size := let ⟨_, hn, _⟩ := I.loc; hn.lt
theorem Inv.sz (I : Inv X pins σ H s) : X.s_0.heap.objs.size ≤ s.heap.objs.size := Nat.le_trans I.ok.above (Nat.le_of_lt I.lt)
theorem Inv.nofs (I : Inv X pins σ H s) {a : Addr} (h : s.heap.objs.size ≤ a) : a ∉ X.fs := fun hb => by
  obtain ⟨_, o, ho, _⟩ := I.ok.funs.mem hb
  exact absurd (Nat.lt_of_lt_of_le (Heap.lt_size ho) (Nat.le_trans I.sz h)) (Nat.lt_irrefl _)
theorem Inv.cne (I : Inv X pins σ H s) : ∀ x c, X.env.cells.lookup x = some c → c ≠ X.env.locals := fun x c e z => by
  obtain ⟨v, o, ho, hd⟩ := I.cell x c e
  obtain ⟨m, ⟨o', es, ep, ho', hd', _⟩, _⟩ := I.loc
  rw [z, ho'] at ho; cases ho; rw [hd'] at hd; cases hd
theorem Inv.funs (I : Inv X pins σ H s) : s.heap.FunFrames X.base X.outer := by
  have all : ∀ (l : List Env), (∀ b ∈ frs l, b ∈ X.fs) → X.s_0.heap.FunFrames X.base l → s.heap.FunFrames X.base l := by
    intro l
    induction l with
    | nil => intro _ _; trivial
    | cons env r ih =>
      intro hs hl
      obtain ⟨hk, ⟨L, o, hf, hn, ho, hd⟩, hr⟩ := hl
      have hL : L ∈ X.fs := hs L (by unfold frs; rw [List.filterMap_cons, hf]; exact List.mem_cons_self)
      obtain ⟨sl, e⟩ := I.base.slot L o ho (I.ok.frf L hL) hL fun z => I.ok.exfs L z hL
      exact ⟨hk, ⟨L, _, hf, hn, e, hd⟩, ih (fun b hb => hs b (by unfold frs; rw [List.filterMap_cons, hf]; exact List.mem_cons_of_mem _ hb)) hr⟩
  exact all X.outer (fun _ hb => hb) I.ok.funs

theorem Inv.stack (I : Inv X pins σ H s) : s.heap.FunFrames X.base X.stack := by
  rcases I.ok.stk with e | ⟨e, hf⟩
  · rw [e]; exact I.funs
  · rw [e]
    obtain ⟨m, hn, _⟩ := I.loc
    refine .cons (by rw [I.ok.kind]; decide) hf hn ?_ I.funs
    exact Heap.get?_none_of_le (Nat.le_trans I.ok.bsz I.ok.above)
theorem Inv.stkSub (I : Inv X pins σ H s) : ∀ b ∈ frs X.stack, b ∈ X.env.locals :: X.fs := fun b hb => by
  rcases I.ok.stk with e | ⟨e, hf⟩
  · rw [e] at hb; exact List.mem_cons_of_mem _ hb
  · rw [e] at hb
    unfold frs at hb
    rw [List.filterMap_cons, hf] at hb
    exact hb
theorem Inv.stkFree (I : Inv X pins σ H s) : ∀ b ∈ frs X.stack, H b = none := fun b hb => by
  rcases List.mem_cons.mp (I.stkSub b hb) with e | hb
  · rw [e]; exact I.free
  · obtain ⟨_, o, ho, _⟩ := I.ok.funs.mem hb
    exact I.base.free b o ho (I.ok.frf b hb) fun z => I.ok.exfs b z hb

theorem Inv.step {g' : Array GenState} {t' : Nat} {d' : Drawn} {ch : List Addr} (I : Inv X pins σ H s)
    (hch : ∀ b ∈ ch, (b ∈ X.ex ∨ X.s_0.heap.objs.size ≤ b) ∧ b ≠ X.env.locals ∧ (∀ x c, X.env.cells.lookup x = some c → c ≠ b) ∧ ∀ p ∈ X.pn ++ pins, p.1 ≠ b)
    (keep : ∀ b o, b ≠ X.env.locals → b ∉ X.fs → b ∉ ch → s.heap.get? b = some o → H b = none → h'.get? b = some o)
    (slot : ∀ b o, b ≠ X.env.locals → b ∈ X.fs → b ∉ ch → s.heap.get? b = some o → H b = none → ∃ sl, h'.get? b = some { o with slots := sl }) (free : ∀ b o, b ∉ ch → s.heap.get? b = some o → H b = none → H' b = none)
    (there : ∀ b o, b ∉ ch → s.heap.get? b = some o → ∃ o', h'.get? b = some o')
    (tups : ∀ b xs, H b = some (.tup xs) → H' b = some (.tup xs)) (frzs : ∀ b o u, H b = some (.frz o u) → H' b = some (.frz o u)) (tbls : ∀ b ps, H b = some (.tbl ps) → ∃ more, H' b = some (.tbl (ps ++ more)))
    (ns : ∀ m, s.heap.Ns X.env.locals m → h'.Ns X.env.locals m) (hok : HOk X.prog X.w H' h') (hg : AllBare g') :
    Inv X pins σ H' { s with heap := h', gens := g', drawn := d', toks := t' } := by
  have neL : ∀ b o, X.s_0.heap.get? b = some o → b ≠ X.env.locals := fun b o e => Nat.ne_of_lt (Nat.lt_of_lt_of_le (Heap.lt_size e) I.ok.above)
  have neC : ∀ b o, X.s_0.heap.get? b = some o → b ∉ X.ex → b ∉ ch := fun b o e hx hb => by
    rcases (hch b hb).1 with z | z
    · exact hx z
    · exact absurd (Nat.lt_of_lt_of_le (Heap.lt_size e) z) (Nat.lt_irrefl _)
  have cellK : ∀ x c, X.env.cells.lookup x = some c → ∀ v, s.heap.IsCell c v → h'.IsCell c v := fun x c e v ⟨o, ho, hd⟩ => by
    have nch : c ∉ ch := fun z => (hch c z).2.2.1 x c e rfl
    by_cases hc : c ∈ X.fs
    · obtain ⟨sl, q⟩ := slot c o (I.cne x c e) hc nch ho (I.freeC x c e)
      exact ⟨_, q, hd⟩
    · exact ⟨o, keep c o (I.cne x c e) hc nch ho (I.freeC x c e), hd⟩
  refine ⟨I.ok, I.os, hg, ⟨fun b o e n hb hx => ?_, fun b o e n hb hx => ?_, fun b o e n hx => ?_, fun b o e hx => ?_, fun b xs e => tups b xs (I.base.tups b xs e), fun b o xs e => frzs b o xs (I.base.frzs b o xs e), fun b ps e => ?_⟩, ?_, fun x c e => ?_, ?_, fun x c e => ?_, fun p hp => ?_, hok, I.len⟩
  · exact keep b o (neL b o e) hb (neC b o e hx) (I.base.keep b o e n hb hx) (I.base.free b o e n hx)
  · obtain ⟨sl, e1⟩ := I.base.slot b o e n hb hx
    obtain ⟨sl', e2⟩ := slot b _ (neL b o e) hb (neC b o e hx) e1 (I.base.free b o e n hx)
    exact ⟨sl', e2⟩
  · obtain ⟨o', e1⟩ := I.base.there b o e hx
    exact free b o' (neC b o e hx) e1 (I.base.free b o e n hx)
  · obtain ⟨o', e1⟩ := I.base.there b o e hx
    exact there b o' (neC b o e hx) e1
  · obtain ⟨m1, e1⟩ := I.base.tbls b ps e
    obtain ⟨m2, e2⟩ := tbls b _ e1
    exact ⟨m1 ++ m2, by rw [e2, Array.append_assoc]⟩
  · obtain ⟨m, hn, hl⟩ := I.loc
    refine ⟨m, ns m hn, fun i x v e1 e2 e3 => ?_⟩
    obtain ⟨u, r, l⟩ := hl i x v e1 e2 e3
    refine ⟨u, r, ?_⟩
    rcases l with l | ⟨k, c, e, z⟩
    · exact .inl l
    · exact .inr ⟨k, c, e, cellK x c e _ z⟩
  · obtain ⟨v, z⟩ := I.cell x c e
    exact ⟨v, cellK x c e v z⟩
  · obtain ⟨m, ⟨o, _, _, ho, _⟩, _⟩ := I.loc
    exact free _ o (fun z => (hch _ z).2.1 rfl) ho I.free
  · obtain ⟨v, o, ho, hd⟩ := I.cell x c e
    exact free c o (fun z => (hch c z).2.2.1 x c e rfl) ho (I.freeC x c e)
  · obtain ⟨e, n, ne, nf, d⟩ := I.pin p hp
    have nch : p.1 ∉ ch := fun z => (hch p.1 z).2.2.2 p hp rfl
    exact ⟨keep p.1 p.2 ne nf nch e n, free p.1 p.2 nch e n, ne, nf, d⟩
theorem Inv.un {t' : Nat} (I : Inv X pins σ H s) (u : Un X.fs [] H H' s.heap h') (hok : HOk X.prog X.w H' h') : Inv X pins σ H' { s with heap := h', toks := t' } := by
  obtain ⟨m, ⟨o, es, ep, ho, r⟩, _⟩ := id I.loc
  obtain ⟨sl, hL⟩ := u.any ho I.free (by simp)
  exact I.step (g' := s.gens) (d' := s.drawn) (ch := []) (fun _ z => nomatch z) (fun b o _ hb _ e n => u.keep b o e n hb (by simp)) (fun b o _ hb _ e n => u.slot b o e n hb (by simp)) (fun b o _ e n => u.free b o e n (by simp)) (fun b o _ e => u.there b o e (by simp)) u.tups u.frzs u.tbls (fun m' hm => by
    obtain ⟨o', es', ep', ho', r'⟩ := hm
    rw [ho] at ho'; cases ho'
    exact ⟨_, es', ep', hL, r'⟩) hok I.bare
theorem Inv.call {g' : Array GenState} {t' : Nat} {d' : Drawn} {ch : List Addr} (I : Inv X pins σ H s) (u : Un (frs X.stack) ch H H' s.heap h') (hok : HOk X.prog X.w H' h') (hg : AllBare g')
    (hch : ∀ b ∈ ch, (b ∈ X.ex ∨ X.s_0.heap.objs.size ≤ b) ∧ b ≠ X.env.locals ∧ (∀ x c, X.env.cells.lookup x = some c → c ≠ b) ∧ ∀ p ∈ X.pn ++ pins, p.1 ≠ b) :
    Inv X pins σ H' { s with heap := h', gens := g', drawn := d', toks := t' } := by
  obtain ⟨m, ⟨o, es, ep, ho, r⟩, _⟩ := id I.loc
  obtain ⟨sl, hL⟩ := u.any ho I.free fun z => (hch _ z).2.1 rfl
  exact I.step (ch := ch) hch (fun b o hL hb hc e n => u.keep b o e n (fun z => (List.mem_cons.mp (I.stkSub b z)).elim hL hb) hc) (fun b o _ _ hc e n => u.any e n hc) (fun b o hc e n => u.free b o e n hc) (fun b o hc e => u.there b o e hc) u.tups u.frzs u.tbls (fun m' hm => by
    obtain ⟨o', es', ep', ho', r'⟩ := hm
    rw [ho] at ho'; cases ho'
    exact ⟨_, es', ep', hL, r'⟩) hok hg
theorem Inv.turned {t' : Nat} {it : Addr} (I : Inv X pins σ H s) (k : ∀ b o, b ≠ it → s.heap.get? b = some o → h'.get? b = some o) (hn : H it = none) (hL : it ≠ X.env.locals)
    (h1 : it ∈ X.ex ∨ X.s_0.heap.objs.size ≤ it) (h2 : ∀ x c, X.env.cells.lookup x = some c → c ≠ it) (h3 : ∀ p ∈ X.pn ++ pins, p.1 ≠ it) : Inv X pins σ H { s with heap := h', toks := t' } := by
  have nit : ∀ b u, H b = some u → b ≠ it := fun b u e z => by rw [z, hn] at e; cases e
  refine I.step (g' := s.gens) (d' := s.drawn) (ch := [it]) (fun b hb => ?_) (fun b o _ _ hc e _ => k b o (fun z => hc (by simp [z])) e) (fun b o _ _ hc e _ => ⟨o.slots, k b o (fun z => hc (by simp [z])) e⟩) (fun _ _ _ _ n => n)
    (fun b o hc e => ⟨o, k b o (fun z => hc (by simp [z])) e⟩) (fun _ _ e => e) (fun _ _ _ e => e) (fun b ps e => ⟨#[], by rw [e]; simp⟩) (fun m hm => ?_) (fun b u e => ?_) I.bare
  · have e : b = it := by simpa using hb
    subst e
    exact ⟨h1, hL, h2, h3⟩
  · obtain ⟨o, es, ep, ho, r⟩ := hm
    exact ⟨o, es, ep, k _ o (Ne.symm hL) ho, r⟩
  · refine (I.hok b u e).stay (fun c v hc q => k c v ?_ q) (fun _ q => q) fun _ _ q => q
    rcases hc with z | z
    · rw [z]; exact nit b u e
    · exact nit c _ z
theorem Inv.tok (I : Inv X pins σ H s) (t : Nat) : Inv X pins σ H { s with toks := t } := I.un (h' := s.heap) (t' := t) Un.refl I.hok
theorem Inv.kept {t' : Nat} (I : Inv X pins σ H s) (k : ∀ b u, s.heap.get? b = some u → h'.get? b = some u) : Inv X pins σ H { s with heap := h', toks := t' } := I.un (Un.kept k) (I.hok.kept k)
theorem Inv.laid {a : Addr} {o : HO} {t' : Nat} (I : Inv X pins σ H s) (k : ∀ b u, s.heap.get? b = some u → h'.get? b = some u) (hp : s.heap.objs.size ≤ a) (new : ObjOk X.prog X.w (upd H a o) h' a o) :
    Inv X pins σ (upd H a o) { s with heap := h', toks := t' } := I.un (Un.laid k hp (I.hok.fresh hp)) (I.hok.laid k hp new)
theorem Inv.write {x e : Addr} {o : HO} {t' : Nat} (I : Inv X pins σ H s) (mu : Mut (H x)) (he : e = x ∨ H e = some (.own x)) (k : ∀ b u, b ≠ e → s.heap.get? b = some u → h'.get? b = some u) (heo : ∃ u, h'.get? e = some u)
    (new : ObjOk X.prog X.w (upd H x o) h' x o) : Inv X pins σ (upd H x o) { s with heap := h', toks := t' } := I.un (Un.write mu he k heo) (I.hok.write mu he k heo new)
theorem Inv.weak {σ' : List (Option V)} (I : Inv X pins σ H s) (hl : σ'.length = σ.length) (w : ∀ (i : Nat) v, σ'[i]? = some (some v) → σ[i]? = some (some v)) : Inv X pins σ' H s :=
  ⟨I.ok, I.os, I.bare, I.base, let ⟨m, hn, hl'⟩ := I.loc; ⟨m, hn, fun i x v e1 e2 e3 => hl' i x v e1 (w i v e2) e3⟩, I.cell, I.free, I.freeC, I.pin, I.hok, hl.trans I.len⟩
theorem Inv.pins_of {pins' : List (Addr × Obj)} (I : Inv X pins σ H s) (h : ∀ p ∈ pins', s.heap.get? p.1 = some p.2 ∧ H p.1 = none ∧ p.1 ≠ X.env.locals ∧ p.1 ∉ X.fs ∧ ∀ v, p.2.data ≠ .cell v) : Inv X pins' σ H s :=
  ⟨I.ok, I.os, I.bare, I.base, I.loc, I.cell, I.free, I.freeC, fun p hp => (List.mem_append.mp hp).elim (fun z => I.pin p (List.mem_append_left _ z)) (h p), I.hok, I.len⟩

theorem nodup_ix {N : List Str} (hN : N.Nodup) {i j : Nat} {x : Str} (a : N[i]? = some x) (b : N[j]? = some x) : i = j := by
  obtain ⟨h1, e1⟩ := List.getElem?_eq_some_iff.mp a
  obtain ⟨h2, e2⟩ := List.getElem?_eq_some_iff.mp b
  exact (List.getElem_inj hN).mp (e1.trans e2.symm)

theorem store_ok2 {M : Model} {A : Around} {E : Value → Shared → Prop} {i : Nat} {x : Str} {v : V} {u : Value} {Q : Unit → Shared → Prop} (I : Inv X pins σ H s) (hN : X.N.Nodup) (hi : X.N[i]? = some x) (hx : Loc X.env.scope x) (r : RelV v u)
    (h : ∀ s', Inv X pins (σ.set i (some v)) H s' → (∃ a, Heap.SameBut a s.heap s'.heap ∧ (a = X.env.locals ∨ X.env.cells.lookup x = some a)) → Q () s') (hf : autoParam (X.fn x = true ∨ X.env.scope.names.lookup x = some .local) L2.au_or._auto_1) : wpAny M A (storeName X.env x u) Q E s := by
  obtain ⟨m, hn, hl⟩ := id I.loc
  have hcls : (X.env.scope.kind == .class || (X.env.scope.kind == .module && X.env.locals != X.env.globals)) = false := by rw [I.ok.kind]; rfl
  have hiσ : i < σ.length := by rw [I.len]; exact (List.getElem?_eq_some_iff.mp hi).1
  have cne := I.cne
  have tracked : ∀ {a : Addr} {h' : Heap}, (∃ o, s.heap.get? a = some o ∧ H a = none) → Heap.SameBut a s.heap h' → HOk X.prog X.w H h' := fun {a h'} ha hs b ob e => by
    obtain ⟨_, _, hfree⟩ := ha
    refine (I.hok b ob e).stay (fun c w' hc q => (hs.2 c ?_).trans q) (fun _ q => q) fun _ _ q => q
    rintro rfl
    rcases hc with rfl | hc
    · rw [hfree] at e; cases e
    · rw [hfree] at hc; cases hc
  rcases hx with hk | hk
  · refine wpAny_storeName_local hk hn (fun h' hn' hs => ?_) hcls
    obtain ⟨oL, _, _, hoL, _⟩ := id hn
    refine h _ ⟨I.ok, I.os, I.bare, ⟨fun b o e n hb hx => ?_, fun b o e n hb hx => ?_, I.base.free, fun b o e hx => ?_, I.base.tups, I.base.frzs, I.base.tbls⟩, ⟨_, hn', fun j y v' e1 e2 e3 => ?_⟩, fun y c e => ?_, I.free, I.freeC, fun p hp => ?_, tracked ⟨oL, hoL, I.free⟩ hs, by simpa using I.len⟩ ⟨_, hs, .inl rfl⟩
    · exact (hs.2 b (Nat.ne_of_lt (Nat.lt_of_lt_of_le (Heap.lt_size e) I.ok.above))).trans (I.base.keep b o e n hb hx)
    · obtain ⟨sl, e1⟩ := I.base.slot b o e n hb hx
      exact ⟨sl, (hs.2 b (Nat.ne_of_lt (Nat.lt_of_lt_of_le (Heap.lt_size e) I.ok.above))).trans e1⟩
    · obtain ⟨o', e1⟩ := I.base.there b o e hx
      exact ⟨o', (hs.2 b (Nat.ne_of_lt (Nat.lt_of_lt_of_le (Heap.lt_size e) I.ok.above))).trans e1⟩
    · by_cases hj : j = i
      · subst hj
        rw [hi] at e1; cases e1
        rw [List.getElem?_set_self hiσ] at e2
        cases e2
        exact ⟨u, r, .inl ⟨hk, by simp⟩⟩
      · rw [List.getElem?_set_ne (Ne.symm hj)] at e2
        obtain ⟨u', r', q⟩ := hl j y v' e1 e2 e3
        refine ⟨u', r', ?_⟩
        rcases q with ⟨k, e⟩ | ⟨k, c, e, z⟩
        · refine .inl ⟨k, ?_⟩
          have : y ≠ x := fun e => hj (nodup_ix hN e1 (e ▸ hi))
          simp [this, e]
        · exact .inr ⟨k, c, e, z.sameBut hs (cne y c e)⟩
    · obtain ⟨w', z⟩ := I.cell y c e
      exact ⟨w', z.sameBut hs (cne y c e)⟩
    · obtain ⟨e, n, ne, nf, d⟩ := I.pin p hp
      exact ⟨(hs.2 p.1 ne).trans e, n, ne, nf, d⟩
  · have hfn : X.fn x = true := by
      rcases hf with z | z
      · exact z
      · rw [z] at hk; cases hk
    obtain ⟨c, hc⟩ := I.ok.has x (.inl hk)
    obtain ⟨w', z⟩ := I.cell x c hc
    refine wpAny_storeName_cell I.ok.kind hk hc z (fun h' hc' hs => ?_)
    obtain ⟨oc, hoc, hocd⟩ := id z
    refine h { s with heap := h' } ⟨I.ok, I.os, I.bare, ⟨fun b o e n hb hx => ?_, fun b o e n hb hx => ?_, I.base.free, fun b o e hx => ?_, I.base.tups, I.base.frzs, I.base.tbls⟩, ⟨m, hn.sameBut hs (Ne.symm (cne x c hc)), fun j y v' e1 e2 e3 => ?_⟩, fun y c' e => ?_, I.free, I.freeC, fun p hp => ?_, tracked ⟨oc, hoc, I.freeC x c hc⟩ hs, by simpa using I.len⟩ ⟨c, hs, .inr hc⟩
    · exact (hs.2 b (Nat.ne_of_lt (Nat.lt_of_lt_of_le (Heap.lt_size e) (I.ok.cab x c hfn hc)))).trans (I.base.keep b o e n hb hx)
    · obtain ⟨sl, e1⟩ := I.base.slot b o e n hb hx
      exact ⟨sl, (hs.2 b (Nat.ne_of_lt (Nat.lt_of_lt_of_le (Heap.lt_size e) (I.ok.cab x c hfn hc)))).trans e1⟩
    · obtain ⟨o', e1⟩ := I.base.there b o e hx
      exact ⟨o', (hs.2 b (Nat.ne_of_lt (Nat.lt_of_lt_of_le (Heap.lt_size e) (I.ok.cab x c hfn hc)))).trans e1⟩
    · by_cases hj : j = i
      · subst hj
        rw [hi] at e1; cases e1
        rw [List.getElem?_set_self hiσ] at e2
        cases e2
        exact ⟨u, r, .inr ⟨.inl hk, c, hc, hc'⟩⟩
      · rw [List.getElem?_set_ne (Ne.symm hj)] at e2
        obtain ⟨u', r', q⟩ := hl j y v' e1 e2 e3
        refine ⟨u', r', ?_⟩
        rcases q with q | ⟨k, c', e, z'⟩
        · exact .inl q
        · refine .inr ⟨k, c', e, z'.sameBut hs ?_⟩
          rintro rfl
          exact hj (nodup_ix hN e1 (I.ok.inj _ _ _ e hc ▸ hi))
    · by_cases hcc : c' = c
      · subst hcc; exact ⟨_, hc'⟩
      · obtain ⟨w2, z2⟩ := I.cell y c' e
        exact ⟨w2, z2.sameBut hs hcc⟩
    · obtain ⟨e, n, ne, nf, d⟩ := I.pin p hp
      refine ⟨(hs.2 p.1 ?_).trans e, n, ne, nf, d⟩
      intro q
      rw [q, hoc] at e
      have q' : oc = p.2 := Option.some.inj e
      exact d w' (by rw [← q']; exact hocd)
theorem store_ok {M : Model} {A : Around} {E : Value → Shared → Prop} {i : Nat} {x : Str} {v : V} {u : Value} {Q : Unit → Shared → Prop} (I : Inv X pins σ H s) (hN : X.N.Nodup) (hi : X.N[i]? = some x) (hx : Loc X.env.scope x) (r : RelV v u)
    (h : ∀ s', Inv X pins (σ.set i (some v)) H s' → Q () s') (hf : autoParam (X.fn x = true ∨ X.env.scope.names.lookup x = some .local) L2.au_or._auto_1) : wpAny M A (storeName X.env x u) Q E s :=
  store_ok2 I hN hi hx r (fun s' I' _ => h s' I') hf
theorem Inv.call' {s' : Shared} {ch : List Addr} (I : Inv X pins σ H s) (ho : s'.os = s.os) (u : Un (frs X.stack) ch H H' s.heap s'.heap) (hok : HOk X.prog X.w H' s'.heap) (hg : AllBare s'.gens)
    (hch : ∀ b ∈ ch, (b ∈ X.ex ∨ X.s_0.heap.objs.size ≤ b) ∧ b ≠ X.env.locals ∧ (∀ x c, X.env.cells.lookup x = some c → c ≠ b) ∧ ∀ p ∈ X.pn ++ pins, p.1 ≠ b) : Inv X pins σ H' s' := by
  obtain ⟨h', g', d', t', o'⟩ := s'
  have e : o' = s.os := ho
  subst e
  exact I.call (g' := g') (t' := t') (d' := d') u hok hg hch
end

noncomputable abbrev XK := Value → Option Addr → Hp → Prop
noncomputable abbrev St := List (Option V)
noncomputable abbrev VK := V → Hp → Prop
noncomputable abbrev TE := St → Hp → VK → Prop
noncomputable abbrev TT := St → Hp → (Bool → Hp → Prop) → Prop
noncomputable abbrev TA := St → Hp → (List V → Hp → Prop) → Prop
structure Ends where
  nx : St → Hp → Prop
  rt : VK
  bk : St → Hp → Prop := fun _ _ => False
  ct : St → Hp → Prop := fun _ _ => False
noncomputable abbrev TS := Ends → St → Hp → Prop

noncomputable def EP (X : Cx) (pins : List (Addr × Obj)) (σ : St) (Q : VK) (u : Value) (s' : Shared) : Prop := ∃ v H', Inv X pins σ H' s' ∧ RelV v u ∧ Q v H'
noncomputable def TP (X : Cx) (pins : List (Addr × Obj)) (σ : St) (Q : Bool → Hp → Prop) (b : Bool) (s' : Shared) : Prop := ∃ H', Inv X pins σ H' s' ∧ Q b H'
noncomputable def AP (X : Cx) (pins : List (Addr × Obj)) (σ : St) (Q : List V → Hp → Prop) (us : List Value) (s' : Shared) : Prop := ∃ vs H', Inv X pins σ H' s' ∧ Vals vs us ∧ Q vs H'
noncomputable def SP (X : Cx) (pins : List (Addr × Obj)) (D : Ends) (f : Flow) (s' : Shared) : Prop :=
  match f with
  | .next => ∃ σ' H', Inv X pins σ' H' s' ∧ D.nx σ' H'
  | .brk => ∃ σ' H', Inv X pins σ' H' s' ∧ D.bk σ' H'
  | .cont => ∃ σ' H', Inv X pins σ' H' s' ∧ D.ct σ' H'
  | .ret u => ∃ v σ' H', Inv X pins σ' H' s' ∧ RelV v u ∧ D.rt v H'

noncomputable def PE (X : Cx) (e : Expr) (t : TE) : Prop :=
  ∀ (pins : List (Addr × Obj)) (s : Shared) (σ : St) (H : Hp) (Q : VK), Inv X pins σ H s → t σ H Q → wpAny (model X.prog X.w) X.A (eval e X.env) (EP X pins σ Q) X.xe s
noncomputable def PT (X : Cx) (e : Expr) (t : TT) : Prop :=
  ∀ (pins : List (Addr × Obj)) (s : Shared) (σ : St) (H : Hp) (Q : Bool → Hp → Prop), Inv X pins σ H s → t σ H Q → wpAny (model X.prog X.w) X.A (isTrue e X.env (eval e X.env)) (TP X pins σ Q) X.xe s
noncomputable def PW (X : Cx) (e : Expr) (t : TT) : Prop :=
  ∀ (whole : Sem Value) (pins : List (Addr × Obj)) (s : Shared) (σ : St) (H : Hp) (Q : Bool → Hp → Prop), Inv X pins σ H s → t σ H Q → wpAny (model X.prog X.w) X.A (isTrue e X.env whole) (TP X pins σ Q) X.xe s
theorem PW.pt {X : Cx} {e : Expr} {t : TT} (h : PW X e t) : PT X e t := h _
noncomputable def PA (X : Cx) (es : List Expr) (t : TA) : Prop :=
  ∀ (pos : Pos) (pins : List (Addr × Obj)) (s : Shared) (σ : St) (H : Hp) (Q : List V → Hp → Prop), Inv X pins σ H s → t σ H Q → wpAny (model X.prog X.w) X.A (spliced (backTo pos (starEach es X.env))) (AP X pins σ Q) X.xe s
noncomputable def PS (X : Cx) (st : Stmt) (t : TS) : Prop :=
  ∀ (pins : List (Addr × Obj)) (s : Shared) (σ : St) (H : Hp) (D : Ends), Inv X pins σ H s → t D σ H → wpAny (model X.prog X.w) X.A (exec st X.env) (SP X pins D) X.xe s
noncomputable def PSs (X : Cx) (st : List Stmt) (t : TS) : Prop :=
  ∀ (pins : List (Addr × Obj)) (s : Shared) (σ : St) (H : Hp) (D : Ends), Inv X pins σ H s → t D σ H → wpAny (model X.prog X.w) X.A (execs st X.env) (SP X pins D) X.xe s
theorem thn {α : Type} {t : Sem α} {Q Q' : α → Shared → Prop} {M : Model} {A : Around} {E : Value → Shared → Prop} {s : Shared} (h : wpAny M A t Q E s) (hQ : ∀ a s, Q a s → Q' a s) : wpAny M A t Q' E s := wpAny_mono h hQ fun _ _ x => x
end L2

namespace L2
open PySem PySem.Spec PyProof.Rows
section
variable {X : Cx}

noncomputable def tVar (i : Nat) : TE := fun σ H Q => ∃ v, σ[i]? = some (some v) ∧ Q v H
noncomputable def tC (v : V) : TE := fun _ H Q => Q v H
theorem pe_var {i : Nat} {x : Str} {pos : Pos} (hN : X.N[i]? = some x) (hv : Vis X.env.scope x) (hd : autoParam ((x == ("__debug__" : Str)) = false) L2.au_dec._auto_1) (hcd : autoParam ((x == ("__classdict__" : Str)) = false) L2.au_dec._auto_1) : PE X (.Name x pos) (tVar i) := by
  intro pins s σ H Q I h
  obtain ⟨v, e, h⟩ := h
  obtain ⟨m, hn, hl⟩ := I.loc
  obtain ⟨u, r, l⟩ := hl i x v hN e hv
  have fin : EP X pins σ Q u s := ⟨v, H, I, r, h⟩
  rcases l with ⟨hk, hm⟩ | ⟨hk, c, hc, hcell⟩
  · exact wpAny_Name (wpAny_loadName_local I.ok.kind hk hn hm fin) hd
  · rcases hk with hk | hk
    · exact wpAny_Name (wpAny_loadName_cell I.ok.kind hk hc hcell fin) hd
    · exact wpAny_Name (wpAny_loadName_free I.ok.kind hk hc hcell fin hcd) hd
theorem pe_int {i j pos} : PE X (.Constant (.int i) j pos) (tC (.int i)) := fun _ _ _ H _ I h => wpAny_Constant_int ⟨.int i, H, I.tok _, ⟨_, rfl⟩, h⟩
theorem pe_bl {b j pos} : PE X (.Constant (.bool b) j pos) (tC (.bl b)) := fun _ _ _ H _ I h => Constant_bool ⟨.bl b, H, I, rfl, h⟩
theorem pe_non {j pos} : PE X (.Constant .none j pos) (tC .non) := fun _ _ _ H _ I h => Constant_none ⟨.non, H, I, rfl, h⟩

noncomputable def Gl (X : Cx) (x : Str) : Prop := X.env.kindOf x = some .globalImplicit
theorem ld_glob {E : Value → Shared → Prop} {pins : List (Addr × Obj)} {s : Shared} {σ : St} {H : Hp} {x : Str} {u : Value} {pos : Pos} {Q : Value → Shared → Prop} (I : Inv X pins σ H s) (hg : Gl X x) (hm : X.mg x = some u) (h : Q u s)
    (hd : autoParam ((x == ("__debug__" : Str)) = false) L2.au_dec._auto_1) : wpAny (model X.prog X.w) X.A (eval (.Name x pos) X.env) Q E s :=
  Calls.Name_function_global I.ok.kind hg (Calls.loadGlobal_global (by rw [I.ok.glob]; exact I.mod.glob.keeps I.bk) hm h) hd
theorem ld_blt {E : Value → Shared → Prop} {pins : List (Addr × Obj)} {s : Shared} {σ : St} {H : Hp} {x : Str} {u : Value} {pos : Pos} {Q : Value → Shared → Prop} (I : Inv X pins σ H s) (hg : Gl X x) (hm : X.mg x = none) (hv : bootBuiltins x = some u) (h : Q u s)
    (hn : autoParam (x ≠ "__name__") L2.au_dec._auto_1) (hd : autoParam ((x == ("__debug__" : Str)) = false) L2.au_dec._auto_1) : wpAny (model X.prog X.w) X.A (eval (.Name x pos) X.env) Q E s := by
  obtain ⟨mb, h1, h2⟩ := I.mod.blt
  exact Calls.Name_function_global I.ok.kind hg (Calls.loadGlobal_builtin (by rw [I.ok.glob]; exact I.mod.glob.keeps I.bk) hm (by rw [I.ok.blt]; exact h1.keeps I.bk) ((h2 x hn).trans hv) h) hd
theorem pe_glob {x : Str} {v : V} {u : Value} {pos : Pos} (hg : Gl X x) (hm : X.mg x = some u) (r : RelV v u) (hd : autoParam ((x == ("__debug__" : Str)) = false) L2.au_dec._auto_1) : PE X (.Name x pos) (tC v) :=
  fun _ _ _ H _ I h => ld_glob I hg hm ⟨v, H, I, r, h⟩ hd

variable {a b : Expr} {ta tb : TE} {pos : Pos}

noncomputable def PC (X : Cx) (op : CmpOp) (a b : Expr) (t : TE) : Prop :=
  ∀ (pins : List (Addr × Obj)) (s : Shared) (σ : St) (H : Hp) (Q : VK), Inv X pins σ H s → t σ H Q →
    wpAny (model X.prog X.w) X.A (eval a X.env) (fun v s₁ => wpAny (model X.prog X.w) X.A (eval b X.env) (fun u s₂ => wpAny (model X.prog X.w) X.A (compareOp op v u) (EP X pins σ Q) X.xe s₂) X.xe s₁) X.xe s
theorem nobehind (b : Expr) {op : CmpOp} (h : op ≠ .In) (h2 : op ≠ .NotIn) : behindInMarks op b = false := by
  have e1 : (op == CmpOp.In) = false := by cases op <;> first | rfl | exact absurd rfl h
  have e2 : (op == CmpOp.NotIn) = false := by cases op <;> first | rfl | exact absurd rfl h2
  cases b <;> simp [behindInMarks, e1, e2]
noncomputable def tIsN (ta : TE) : TE := fun σ H Q => ta σ H fun x H1 => Q (.bl (decide (x = .non))) H1
theorem RelV.none_iff {x : V} {v : Value} (r : RelV x v) : (v == Value.none) = decide (x = .non) := by
  cases x with
  | non => cases r; rfl
  | bl _ => cases r; rfl
  | int _ => obtain ⟨t, rfl⟩ := r; rfl
  | str _ => obtain ⟨t, rfl⟩ := r; rfl
  | byt _ => obtain ⟨t, rfl⟩ := r; rfl
  | flt _ => obtain ⟨t, rfl⟩ := r; rfl
  | ref _ => cases r; rfl
  | ty _ => cases r; rfl
theorem pc_isN {j pos'} (ha : PE X a ta) : PC X .Is a (.Constant .none j pos') (tIsN ta) := by
  intro pins s σ H Q I h
  refine thn (ha pins s σ H _ I h) fun v s1 zz1 => ?_
  obtain ⟨x, H1, I1, r1, q1⟩ := zz1
  exact Constant_none (is_none_gen ⟨.bl _, H1, I1, by rw [r1.none_iff]; rfl, q1⟩)
noncomputable def tB (t : TE) : TT := fun σ H Q => t σ H fun x H1 => ∃ c, x = .bl c ∧ Q c H1
theorem pt_cmp {op : CmpOp} {t : TE} (h : PC X op a b t) (h1 : behindInMarks op b = false := by first | exact nobehind _ (by decide) (by decide) | rfl) : PT X (.Compare a [op] [b] pos) (tB t) := by
  intro pins s σ H Q I hw
  refine wpAny_isTrue_Compare1 (thn (h pins s σ H _ I hw) fun v s1 h1 => thn h1 fun u s2 h2 => thn h2 fun c s3 zz1 => ?_) h1
  obtain ⟨x, H1, I1, r1, q1⟩ := zz1
  obtain ⟨d, rfl, q⟩ := q1
  cases r1
  exact wpAny_truthy_bool ⟨H1, I1, q⟩
theorem pt_val {e : Expr} {t : TE} (h : PE X e t) (he : autoParam (∀ whole, isTrue e X.env whole = (do let v ← whole; standAt e.pos; holding [v] (truthy v))) L2.au_in._auto_1) : PT X e (tB t) := by
  intro pins s σ H Q I hw
  refine isTrue_plain (thn (h pins s σ H _ I hw) fun v s1 zz1 => ?_) (he _)
  obtain ⟨x, H1, I1, r1, q1⟩ := zz1
  obtain ⟨d, rfl, q⟩ := q1
  cases r1
  exact wpAny_truthy_bool ⟨H1, I1, q⟩

variable {tA tB' : TT} {rest : List Expr}
noncomputable def tAnd (t u : TT) : TT := fun σ H Q => t σ H fun c H1 => if c = true then u σ H1 Q else Q false H1
noncomputable def tOr (t u : TT) : TT := fun σ H Q => t σ H fun c H1 => if c = true then Q true H1 else u σ H1 Q
noncomputable def tNot (t : TT) : TT := fun σ H Q => t σ H fun c H1 => Q (!c) H1
theorem pw_and1 (ha : PT X a tA) : PW X (.BoolOp .And [a] pos) tA := by
  intro wh pins s σ H Q I h
  refine isTrue_and (thn (ha pins s σ H Q I h) fun c s1 e => ?_)
  cases c with
  | true => exact isTrue_and_nil e
  | false => exact e
theorem pw_or1 (ha : PT X a tA) : PW X (.BoolOp .Or [a] pos) tA := by
  intro wh pins s σ H Q I h
  refine isTrue_or (thn (ha pins s σ H Q I h) fun c s1 e => ?_)
  cases c with
  | false => exact isTrue_or_nil e
  | true => exact e
theorem pw_and (ha : PT X a tA) (hb : PW X (.BoolOp .And (b :: rest) pos) tB') : PW X (.BoolOp .And (a :: b :: rest) pos) (tAnd tA tB') := by
  intro wh pins s σ H Q I h
  refine isTrue_and (thn (ha pins s σ H _ I h) fun c s1 zz1 => ?_)
  obtain ⟨H1, I1, q1⟩ := zz1
  cases c with
  | true => exact hb wh pins s1 σ H1 Q I1 q1
  | false => exact ⟨H1, I1, q1⟩
theorem pw_or (ha : PT X a tA) (hb : PW X (.BoolOp .Or (b :: rest) pos) tB') : PW X (.BoolOp .Or (a :: b :: rest) pos) (tOr tA tB') := by
  intro wh pins s σ H Q I h
  refine isTrue_or (thn (ha pins s σ H _ I h) fun c s1 zz1 => ?_)
  obtain ⟨H1, I1, q1⟩ := zz1
  cases c with
  | true => exact ⟨H1, I1, q1⟩
  | false => exact hb wh pins s1 σ H1 Q I1 q1
theorem pt_not (ha : PT X a tA) : PT X (.UnaryOp .Not a pos) (tNot tA) := by
  intro pins s σ H Q I h
  exact isTrue_not (ha pins s σ H (fun c H1 => Q (!c) H1) I h)
noncomputable def tAndV (ta tb : TE) : TE := fun σ H Q => ta σ H fun x H1 => ∃ c, x = .bl c ∧ if c = true then tb σ H1 Q else Q (.bl false) H1
theorem pe_one {op} {t : TE} (h : PE X a t) : PE X (.BoolOp op [a] pos) t := fun pins s σ H Q I hw => BoolOp_one (h pins s σ H Q I hw)
theorem pe_and (ha : PE X a ta) (hb : PE X (.BoolOp .And (b :: rest) pos) tb) : PE X (.BoolOp .And (a :: b :: rest) pos) (tAndV ta tb) := by
  intro pins s σ H Q I h
  refine BoolOp_and (thn (ha pins s σ H _ I h) fun v s1 zz1 => ?_)
  obtain ⟨x, H1, I1, r1, q1⟩ := zz1
  obtain ⟨c, rfl, q1⟩ := q1
  cases r1
  refine wpAny_truthy_bool ?_
  cases c with
  | true => exact hb pins s1 σ H1 Q I1 q1
  | false => exact ⟨.bl false, H1, I1, rfl, q1⟩
noncomputable def tIf (t : TT) (ta tb : TE) : TE := fun σ H Q => t σ H fun c H1 => if c = true then ta σ H1 Q else tb σ H1 Q
theorem pe_ifExp {c : Expr} (hc : PT X c tA) (ha : PE X a ta) (hb : PE X b tb) : PE X (.IfExp c a b pos) (tIf tA ta tb) := by
  intro pins s σ H Q I h
  refine wpAny_IfExp (thn (hc pins s σ H _ I h) fun d s1 zz1 => ?_)
  obtain ⟨H1, I1, q1⟩ := zz1
  cases d with
  | true => exact ha pins s1 σ H1 Q I1 q1
  | false => exact hb pins s1 σ H1 Q I1 q1
end
end L2

namespace L2
open PySem PySem.Spec PyProof.Rows

noncomputable def SqL (K : PySem.W.Frag) (H : Hp) (a : Addr) (xs : List V) : Prop :=
  Rd H a (.lst xs) ∨
    ∃ (o : Obj) (its : Array Value) (n : Nat), K.lookup a = some o ∧ o.cls = .type "list" ∧ o.dict = none ∧ o.data = .seq its n ∧ its.size ≤ sizeLine ∧ Vals xs its.toList
noncomputable def SqT (K : PySem.W.Frag) (H : Hp) (a : Addr) (xs : List V) : Prop :=
  Rd H a (.tup xs) ∨
    ∃ (o : Obj) (its : Array Value) (n : Nat), K.lookup a = some o ∧ o.cls = .type "tuple" ∧ o.data = .seq its n ∧ its.size ≤ sizeLine ∧ Vals xs its.toList
noncomputable def absV : Value → Option V
  | .none => some .non
  | .bool b => some (.bl b)
  | .int i _ => some (.int i)
  | .str x _ => some (.str x)
  | .bytes b _ => some (.byt b)
  | .float b _ => some (.flt b)
  | .ref a => some (.ref a)
  | .type n => some (.ty n)
  | _ => none
theorem RelV.abs {x : V} {u : Value} (r : RelV x u) : absV u = some x := by
  cases x with
  | non => cases r; rfl
  | bl _ => cases r; rfl
  | int _ => obtain ⟨t, rfl⟩ := r; rfl
  | str _ => obtain ⟨t, rfl⟩ := r; rfl
  | byt _ => obtain ⟨t, rfl⟩ := r; rfl
  | flt _ => obtain ⟨t, rfl⟩ := r; rfl
  | ref _ => cases r; rfl
  | ty _ => cases r; rfl
theorem RelV.inj {x y : V} {u : Value} (r : RelV x u) (q : RelV y u) : x = y := Option.some.inj (r.abs.symm.trans q.abs)
theorem Vals.inj : ∀ {xs ys : List V} {us : List Value}, Vals xs us → Vals ys us → xs = ys := by
  intro xs ys us h h'
  induction h generalizing ys with
  | nil => cases h'; rfl
  | cons r t ih =>
    cases h' with
    | cons r' t' => rw [r.inj r', ih t']
section
variable {X : Cx} {pins : List (Addr × Obj)} {σ : St} {H : Hp} {s : Shared} {a : Addr} {xs ys : List V}
theorem SqL.of {K : PySem.W.Frag} (h : H a = some (.lst xs)) : SqL K H a xs := .inl (.inl h)
theorem SqT.of {K : PySem.W.Frag} (h : H a = some (.tup xs)) : SqT K H a xs := .inl (.inl h)
theorem Inv.list (I : Inv X pins σ H s) (h : SqL X.K H a xs) : ∃ its : List Value, Vals xs its ∧ PlainL s.heap a its.toArray ∧ xs.length ≤ sizeLine := by
  rcases h with h | ⟨o, its, n, hk, hc, hd, hs, hz, r⟩
  · obtain ⟨z, its, n, r, e⟩ := h.ok I.hok
    exact ⟨its, r, ⟨_, n, e, rfl, rfl, rfl⟩, z⟩
  · refine ⟨its.toList, r, ⟨o, n, I.kIn a o hk, hc, hd, by simpa using hs⟩, ?_⟩
    have e := r.length
    simp only [Array.length_toList] at e
    omega
theorem Inv.tuple (I : Inv X pins σ H s) (h : SqT X.K H a xs) : ∃ its : List Value, Vals xs its ∧ IsTup s.heap a its.toArray ∧ xs.length ≤ sizeLine := by
  rcases h with h | ⟨o, its, n, hk, hc, hs, hz, r⟩
  · obtain ⟨z, its, r, p⟩ := h.ok I.hok
    exact ⟨its, r, p, z⟩
  · refine ⟨its.toList, r, ⟨o, I.kIn a o hk, hc, n, by simpa using hs⟩, ?_⟩
    have e := r.length
    simp only [Array.length_toList] at e
    omega
theorem Inv.list_inj (I : Inv X pins σ H s) (h : SqL X.K H a xs) (h' : SqL X.K H a ys) : xs = ys := by
  obtain ⟨its, r, ⟨o, n, e, _, _, d⟩, _⟩ := I.list h
  obtain ⟨its', r', ⟨o', n', e', _, _, d'⟩, _⟩ := I.list h'
  rw [e] at e'; cases e'
  rw [d] at d'
  injection d' with d1 _
  have : its = its' := by simpa using congrArg Array.toList d1
  subst this
  exact r.inj r'
end

noncomputable abbrev Cx.wish (X : Cx) (E : Value → Shared → Prop) : Cx := { X with xe := E }
noncomputable abbrev Cx.nox (X : Cx) : Cx := X.wish fun _ _ => False
theorem Cx.Ok.wish {X : Cx} (ok : X.Ok) (E : Value → Shared → Prop) : (X.wish E).Ok :=
  ⟨ok.mod, ok.kind, ok.glob, ok.blt, ok.above, ok.inj, ok.has, ok.cab, ok.hd, ok.frames, ok.stk, ok.exf, ok.bs, ok.bsz, ok.noex, ok.exfs, ok.funs, ok.frf⟩
theorem Cx.Ok.unwish {X : Cx} {E : Value → Shared → Prop} (ok : (X.wish E).Ok) : X.Ok :=
  ⟨ok.mod, ok.kind, ok.glob, ok.blt, ok.above, ok.inj, ok.has, ok.cab, ok.hd, ok.frames, ok.stk, ok.exf, ok.bs, ok.bsz, ok.noex, ok.exfs, ok.funs, ok.frf⟩
section
variable {X : Cx} {pins : List (Addr × Obj)} {σ : St} {H : Hp} {s : Shared} {E : Value → Shared → Prop}
theorem Inv.wish (I : Inv X pins σ H s) (E : Value → Shared → Prop) : Inv (X.wish E) pins σ H s := ⟨I.ok.wish E, I.os, I.bare, I.base, I.loc, I.cell, I.free, I.freeC, I.pin, I.hok, I.len⟩
theorem Inv.unwish (I : Inv (X.wish E) pins σ H s) : Inv X pins σ H s := ⟨I.ok.unwish, I.os, I.bare, I.base, I.loc, I.cell, I.free, I.freeC, I.pin, I.hok, I.len⟩
theorem SP.unwish {D : Ends} {f : Flow} {s' : Shared} (h : SP (X.wish E) pins D f s') : SP X pins D f s' := by
  cases f with
  | next => obtain ⟨σ', H', I, q⟩ := h; exact ⟨σ', H', I.unwish, q⟩
  | brk => obtain ⟨σ', H', I, q⟩ := h; exact ⟨σ', H', I.unwish, q⟩
  | cont => obtain ⟨σ', H', I, q⟩ := h; exact ⟨σ', H', I.unwish, q⟩
  | ret u => obtain ⟨v, σ', H', I, r, q⟩ := h; exact ⟨v, σ', H', I.unwish, r, q⟩
theorem PSs.nox {st : List Stmt} {t : TS} (h : PSs X.nox st t) : PSs X st t := fun pins s σ H D I hw =>
  wpAny_mono (h pins s σ H D (I.wish _) hw) (fun _ _ q => q.unwish) fun _ _ z => False.elim z
end

section
variable {X : Cx} {st : Stmt} {rest : List Stmt} {t u : TS} {e : Expr} {te : TE} {pos : Pos}
noncomputable def tNext : TS := fun D σ H => D.nx σ H
noncomputable def tSeq (t u : TS) : TS := fun D σ H => t { D with nx := u D } σ H
theorem pss_nil : PSs X [] tNext := fun _ _ σ H _ I h => wpAny_execs_nil ⟨σ, H, I, h⟩
theorem pss_cons (h1 : PS X st t) (h2 : PSs X rest u) : PSs X (st :: rest) (tSeq t u) := by
  intro pins s σ H D I h
  refine wpAny_execs_cons (thn (h1 pins s σ H { D with nx := u D } I h) fun f s1 q => ?_)
  cases f with
  | next =>
    obtain ⟨σ', H', I', q⟩ := q
    exact h2 pins s1 σ' H' D I' q
  | ret v => exact q
  | brk => exact q
  | cont => exact q
theorem pss_one (h1 : PS X st t) : PSs X [st] t := by
  intro pins s σ H D I h
  refine wpAny_execs_cons (thn (h1 pins s σ H D I h) fun f s1 q => ?_)
  cases f with
  | next => exact wpAny_execs_nil q
  | ret v => exact q
  | brk => exact q
  | cont => exact q
theorem Inv.quiet {pins : List (Addr × Obj)} {σ : St} {H : Hp} {s : Shared} (I : Inv X pins σ H s) : interactive X.env = false := by simp [interactive, I.ok.kind]
noncomputable def tDrop (te : TE) : TS := fun D σ H => te σ H fun _ H1 => D.nx σ H1
theorem ps_expr (he : PE X e te) (hs : autoParam (swapsWith e none pos.line X.env = pure false) L2.au_rfl._auto_1) : PS X (.Expr e pos) (tDrop te) := by
  intro pins s σ H D I h
  refine wpAny_Expr_any (thn (he pins s σ H _ I h) fun v s1 zz1 => ?_) I.quiet hs
  obtain ⟨x, H1, I1, r1, q1⟩ := zz1
  exact ⟨σ, H1, I1, q1⟩
noncomputable def tRet (te : TE) : TS := fun D σ H => te σ H D.rt
theorem ps_ret (he : PE X e te) : PS X (.Return (some e) pos) (tRet te) := by
  intro pins s σ H D I h
  refine wpAny_Return_some (thn (he pins s σ H _ I h) fun v s1 zz1 => ?_)
  obtain ⟨x, H1, I1, r1, q1⟩ := zz1
  exact ⟨x, σ, H1, I1, r1, q1⟩
noncomputable def tIfS (c : TT) (t u : TS) : TS := fun D σ H => c σ H fun b H1 => if b = true then t D σ H1 else u D σ H1
theorem ps_if {c : Expr} {a b : List Stmt} {tc : TT} (hc : PT X c tc) (ha : PSs X a t) (hb : PSs X b u) : PS X (.If c a b pos) (tIfS tc t u) := by
  intro pins s σ H D I h
  refine wpAny_If (thn (hc pins s σ H _ I h) fun d s1 zz1 => ?_)
  obtain ⟨H1, I1, q1⟩ := zz1
  cases d with
  | true => exact ha pins s1 σ H1 D I1 q1
  | false => exact hb pins s1 σ H1 D I1 q1
end

noncomputable abbrev TG := V → St → Hp → (St → Hp → Prop) → Prop
noncomputable abbrev TGs := List V → St → Hp → (St → Hp → Prop) → Prop
noncomputable def PG (X : Cx) (target : Expr) (t : TG) : Prop :=
  ∀ (pins : List (Addr × Obj)) (s : Shared) (σ : St) (H : Hp) (v : V) (u : Value) (Q : St → Hp → Prop), Inv X pins σ H s → RelV v u → t v σ H Q →
    wpAny (model X.prog X.w) X.A (assign target X.env u) (fun _ s' => ∃ σ' H', Inv X pins σ' H' s' ∧ Q σ' H') X.xe s
noncomputable def PGs (X : Cx) (ts : List Expr) (t : TGs) : Prop :=
  ∀ (pins : List (Addr × Obj)) (s : Shared) (σ : St) (H : Hp) (vs : List V) (us : List Value) (Q : St → Hp → Prop), Inv X pins σ H s → Vals vs us → t vs σ H Q →
    wpAny (model X.prog X.w) X.A (assignInOrder ((assignEach ts X.env).map (·.2)) us) (fun _ s' => ∃ σ' H', Inv X pins σ' H' s' ∧ Q σ' H') X.xe s
noncomputable abbrev TSet := V → V → V → Hp → (Hp → Prop) → Prop
noncomputable def PSet (X : Cx) (t : TSet) : Prop :=
  ∀ (pins : List (Addr × Obj)) (s : Shared) (σ : St) (H : Hp) (o i v : V) (ov iv u : Value) (Q : Hp → Prop), Inv X pins σ H s → RelV o ov → RelV i iv → RelV v u → t o i v H Q →
    wpAny (model X.prog X.w) X.A (setItem ov iv u) (fun _ s' => ∃ H', Inv X pins σ H' s' ∧ Q H') X.xe s
section
variable {X : Cx} {pos : Pos}
noncomputable def gName (i : Nat) : TG := fun v σ H Q => Q (σ.set i (some v)) H
theorem pg_name {i : Nat} {x : Str} (hN : X.N.Nodup) (hi : X.N[i]? = some x) (hx : Loc X.env.scope x) (hf : autoParam (X.fn x = true ∨ X.env.scope.names.lookup x = some .local) L2.au_or._auto_1) : PG X (.Name x pos) (gName i) := by
  intro pins s σ H v u Q I r h
  exact wpAny_assign_Name (store_ok I hN hi hx r (fun s' I' => ⟨_, H, I', h⟩) hf)
noncomputable def gNil : TGs := fun vs σ H Q => vs = [] ∧ Q σ H
noncomputable def gCons (t : TG) (u : TGs) : TGs := fun vs σ H Q => ∃ v r, vs = v :: r ∧ t v σ H fun σ' H' => u r σ' H' Q
theorem pgs_nil : PGs X [] gNil := by
  intro pins s σ H vs us Q I r h
  obtain ⟨e, h⟩ := h
  subst e
  cases r
  exact assignInOrder_nil ⟨σ, H, I, h⟩
theorem pgs_cons {e : Expr} {es : List Expr} {t : TG} {u : TGs} (h1 : PG X e t) (h2 : PGs X es u)
    (hs : autoParam ((assignEach (e :: es) X.env).map (·.2) = assign e X.env :: (assignEach es X.env).map (·.2)) L2.au_rfl._auto_1) : PGs X (e :: es) (gCons t u) := by
  intro pins s σ H vs us Q I r h
  obtain ⟨v, vr, e1, h⟩ := h
  subst e1
  cases r with
  | cons r rr =>
    rw [hs]
    refine assignInOrder_cons (thn (h1 pins s σ H _ _ _ I r h) fun _ s1 zz1 => ?_)
    obtain ⟨σ1, H1, I1, q1⟩ := zz1
    exact h2 pins s1 σ1 H1 _ _ Q I1 rr q1
noncomputable def gTup (K : PySem.W.Frag) (n : Nat) (t : TGs) : TG := fun v σ H Q => ∃ a xs, v = .ref a ∧ SqT K H a xs ∧ xs.length = n ∧ t xs σ H Q
theorem pg_tup {es : List Expr} {k : Nat} {t : TGs} {n : Nat} (hc : X.calm = true) (h : PGs X es t)
    (hn : autoParam ((assignEach es X.env).length = n) L2.au_rfl._auto_1) (hst : autoParam ((assignEach es X.env).findIdx? (·.1) = none) L2.au_rfl._auto_1) : PG X (.Tuple es k pos) (gTup X.K n t) := by
  intro pins s σ H v u Q I r hw
  obtain ⟨a, xs, e1, hq, hl, hw⟩ := hw
  subst e1
  cases r
  obtain ⟨its, rv, ht, hz⟩ := I.tuple hq
  refine assign_Tuple_tuple (I.ok.hd hc) ht (by simp [hn, ← hl, rv.length]) hst fun h' hx => ?_
  have I1 : Inv X pins σ H { s with heap := h' } := I.kept (t' := s.toks) fun b o e => hx b o (Nat.ne_of_lt (Heap.lt_size e)) e
  exact h pins _ σ H xs _ Q I1 (by simpa using rv) hw
noncomputable def gSub (to ti : TE) (t : TSet) : TG := fun v σ H Q => to σ H fun o H1 => ti σ H1 fun i H2 => t o i v H2 fun H3 => Q σ H3
theorem pg_sub {o i : Expr} {to ti : TE} {t : TSet} (ho : PE X o to) (hi : PE X i ti) (hs : PSet X t)
    (ha : ∀ v, assign (.Subscript o i pos) X.env v = (do
      let ov ← holding [v] (eval o X.env)
      let iv ← holding [v, ov] (eval i X.env)
      standAt pos
      holding [v, ov, iv] (setItem ov iv v)
      release [v, ov, iv] []) := by intro _; rfl) : PG X (.Subscript o i pos) (gSub to ti t) := by
  intro pins s σ H v u Q I r h
  rw [ha]
  refine wpAny_bind (wpAny_holding (thn (ho pins s σ H _ I h) fun ov s1 zz1 => ?_))
  obtain ⟨x, H1, I1, r1, q1⟩ := zz1
  refine wpAny_bind (wpAny_holding (thn (hi pins s1 σ H1 _ I1 q1) fun iv s2 zz1 => ?_))
  obtain ⟨y, H2, I2, r2, q2⟩ := zz1
  refine wpAny_bind (wpAny_standAt (wpAny_bind (wpAny_holding (thn (hs pins s2 σ H2 x y v ov iv u _ I2 r1 r2 r q2) fun _ s3 zz1 => ?_))))
  obtain ⟨H3, I3, q3⟩ := zz1
  exact wpAny_release ⟨σ, H3, I3, q3⟩
noncomputable def tAsg (te : TE) (g : TG) : TS := fun D σ H => te σ H fun x H1 => g x σ H1 D.nx
theorem ps_asg {tg e : Expr} {te : TE} {g : TG} (he : PE X e te) (hg : PG X tg g) (hs : autoParam (swapsWithSole [tg] e pos.line X.env = pure false) L2.au_rfl._auto_1) (hw : autoParam (swappedStores [tg] e X.env = pure none) L2.au_rfl._auto_1)
    (h1 : autoParam ((assignEach [tg] X.env).map (·.2) = [assign tg X.env]) L2.au_rfl._auto_1) : PS X (.Assign [tg] e pos) (tAsg te g) := by
  intro pins s σ H D I h
  refine wpAny_Assign_stores (thn (he pins s σ H _ I h) fun v s1 zz1 => ?_) hs hw
  obtain ⟨x, H1, I1, r1, q1⟩ := zz1
  rw [h1]
  exact thn (hg pins s1 σ H1 x v _ I1 r1 q1) fun _ s2 q => q
theorem ps_set {i : Nat} {x : Str} {e : Expr} {te : TE} {pos' : Pos} (hN : X.N.Nodup) (hi : X.N[i]? = some x) (hx : Loc X.env.scope x) (he : PE X e te) (hs : autoParam (swapsWith e (some (.Name x pos')) pos.line X.env = pure false) L2.au_rfl._auto_1) (hf : autoParam (X.fn x = true ∨ X.env.scope.names.lookup x = some .local) L2.au_or._auto_1) :
    PS X (.Assign [.Name x pos'] e pos) (tAsg te (gName i)) := by
  intro pins s σ H D I h
  refine wpAny_Assign_Name (thn (he pins s σ H _ I h) fun v s1 zz1 => ?_) hs
  obtain ⟨y, H1, I1, r1, q1⟩ := zz1
  exact store_ok I1 hN hi hx r1 (fun s2 I2 => ⟨_, H1, I2, q1⟩) hf
end

section
variable {X : Cx} {pos : Pos}
noncomputable def tWhile (c : TT) (tb : TS) : TS := fun D σ H => ∃ W : Nat → St → Hp → Prop, (∃ m, W m σ H) ∧ ∀ m σ H, W m σ H →
  c σ H fun b H1 => if b = true then ∃ N : St → Hp → Prop, (∀ σ' H', N σ' H' → ∃ m', m' < m ∧ W m' σ' H') ∧ tb { D with nx := N, ct := N, bk := D.nx } σ H1 else D.nx σ H1
theorem ps_while {c : Expr} {body : List Stmt} {tc : TT} {tb : TS} (hp : PassesOwn (model X.prog X.w) X.A X.env X.xe) (hc : PT X c tc) (hb : PSs X body tb) : PS X (.While c body [] pos) (tWhile tc tb) := by
  intro pins s σ H D I h
  obtain ⟨W, ⟨m0, w0⟩, turn⟩ := h
  refine wpAny_While (codeAny_whileLoop (fun n s' => ∃ σ' H', Inv X pins σ' H' s' ∧ W n σ' H') ?_ m0 ⟨σ, H, I, w0⟩)
  rintro n s1 ⟨σ1, H1, I1, w1⟩
  refine wpAny_passesOwn hp (thn (hc pins s1 σ1 H1 _ I1 (turn n σ1 H1 w1)) fun b s2 zz1 => ?_)
  obtain ⟨H2, I2, q2⟩ := zz1
  cases b with
  | true =>
    obtain ⟨N, hN, q2⟩ := q2
    rw [if_pos rfl]
    refine wpAny_passesOwn hp (thn (hb pins s2 σ1 H2 _ I2 q2) fun f s3 q3 => ?_)
    cases f with
    | next =>
      obtain ⟨σ3, H3, I3, n3⟩ := q3
      obtain ⟨m', hm, w3⟩ := hN σ3 H3 n3
      exact ⟨m', hm, σ3, H3, I3, w3⟩
    | cont =>
      obtain ⟨σ3, H3, I3, n3⟩ := q3
      obtain ⟨m', hm, w3⟩ := hN σ3 H3 n3
      exact ⟨m', hm, σ3, H3, I3, w3⟩
    | brk => exact q3
    | ret v => exact q3
  | false =>
    rw [if_neg Bool.false_ne_true]
    exact wpAny_execs_nil ⟨σ1, H2, I2, q2⟩
end

structure It where
  go : Nat → Hp → Prop
  yld : Nat → Hp → V → Hp → Prop
  stop : Nat → Hp → Prop
noncomputable def FpOk (X : Cx) (pins : List (Addr × Obj)) (H : Hp) (b : Addr) : Prop :=
  H b = none ∧ b ≠ X.env.locals ∧ b ∉ X.fs ∧ (b ∈ X.ex ∨ X.s_0.heap.objs.size ≤ b) ∧ (∀ x c, X.env.cells.lookup x = some c → c ≠ b) ∧ ∀ p ∈ X.pn ++ pins, p.1 ≠ b
theorem Inv.fpOk {X : Cx} {pins : List (Addr × Obj)} {σ : St} {H H' : Hp} {s : Shared} {b : Addr} (I : Inv X pins σ H s) (hb : s.heap.objs.size ≤ b) (hn : H' b = none) : FpOk X pins H' b := by
  refine ⟨hn, Nat.ne_of_gt (Nat.lt_of_lt_of_le I.lt hb), I.nofs hb, .inr (Nat.le_trans I.sz hb), fun x c e z => ?_, fun p hp z => ?_⟩
  · obtain ⟨v, q⟩ := I.cell x c e
    exact absurd (Nat.lt_of_lt_of_le q.lt (by rw [z]; exact hb)) (Nat.lt_irrefl _)
  · exact absurd (Nat.lt_of_lt_of_le (Heap.lt_size (I.pin p hp).1) (by rw [z]; exact hb)) (Nat.lt_irrefl _)
structure Turn (P : Program) (w : World) (K : PySem.W.Frag) (tg : Expr) (J : It) (fp : List Addr) (it : Addr) (tn : Nat → Heap → Prop) : Prop where
  mem : it ∈ fp
  obj : ∀ i h, tn i h → ∀ b ∈ fp, ∃ o, h.get? b = some o ∧ ∀ v, o.data ≠ .cell v
  keep : ∀ i h h', tn i h → (∀ b ∈ fp, ∀ o, h.get? b = some o → h'.get? b = some o) → tn i h'
  item : ∀ (X : Cx), X.prog = P → X.w = w → X.K = K → X.calm = true → ∀ (i : Nat) (pins : List (Addr × Obj)) (s : Shared) (σ : St) (H : Hp) (E : Value → Shared → Prop), Inv X pins σ H s → (∀ b ∈ fp, FpOk X pins H b) → tn i s.heap → J.go i H →
    wpAny (model P w) X.A (pyNext (.ref it)) (fun r s1 => ∃ u, r = some u ∧
      wpAny (model P w) X.A (letOwnedTupleGo tg (.ref it) u) (fun _ s2 => ∃ x H', Inv X pins σ H' s2 ∧ RelV x u ∧ J.yld i H x H' ∧ tn (i + 1) s2.heap ∧ ∀ b ∈ fp, H' b = none) E s1) E s
  done : ∀ (X : Cx), X.prog = P → X.w = w → X.K = K → X.calm = true → ∀ (i : Nat) (pins : List (Addr × Obj)) (s : Shared) (σ : St) (H : Hp) (E : Value → Shared → Prop), Inv X pins σ H s → (∀ b ∈ fp, FpOk X pins H b) → tn i s.heap → J.stop i H →
    wpAny (model P w) X.A (pyNext (.ref it)) (fun r s1 => r = none ∧ Inv X pins σ H s1) E s
  self : ∀ (A : Around) (i : Nat) (s : Shared) (Q : Value → Shared → Prop) (E : Value → Shared → Prop), tn i s.heap → Q (.ref it) s → wpAny (model P w) A (pyIter (.ref it)) Q E s
noncomputable abbrev TI := St → Hp → (It → Hp → Prop) → Prop
noncomputable def PIE (X : Cx) (pins : List (Addr × Obj)) (σ : St) (tg : Expr) (R : It → Hp → Prop) (itv : Value) (s2 : Shared) : Prop :=
  ∃ (it : Addr) (fp : List Addr) (tn : Nat → Heap → Prop) (J : It) (H' : Hp), itv = .ref it ∧ Inv X pins σ H' s2 ∧ Turn X.prog X.w X.K tg J fp it tn ∧ tn 0 s2.heap ∧ (∀ b ∈ fp, FpOk X pins H' b) ∧ R J H'
noncomputable def PI (X : Cx) (tg iter : Expr) (wi : TI) : Prop :=
  ∀ (pins : List (Addr × Obj)) (s : Shared) (σ : St) (H : Hp) (R : It → Hp → Prop), Inv X pins σ H s → wi σ H R →
    wpAny (model X.prog X.w) X.A (eval iter X.env) (fun v s1 => wpAny (model X.prog X.w) X.A (pyIter v) (PIE X pins σ tg R) X.xe s1) X.xe s

theorem go_of {M : Model} {A : Around} {E : Value → Shared → Prop} {s : Shared} {tg : Expr} {it : Addr} {u : Value} {o : Obj} {n : String} {vs : Array Value} {Q : Unit → Shared → Prop} (ho : s.heap.get? it = some o) (hc : o.cls = .type n) (hd : o.data = .fields vs)
    (hn : ["enumerate", "zip", "dict_itemiterator", "dict_reverseitemiterator", "odict_iterator", "itertools.zip_longest", "itertools.pairwise"].contains n = false) (hQ : Q () s) : wpAny M A (letOwnedTupleGo tg (.ref it) u) Q E s := by
  unfold letOwnedTupleGo
  cases tg <;> first
    | exact wpAny_pure hQ
    | (cases u <;> first
        | exact wpAny_pure hQ
        | (refine wpAny_bind (wpAny_load ho ?_)
           rw [hc, hd]
           show wpAny M A (if (["enumerate", "zip", "dict_itemiterator", "dict_reverseitemiterator", "odict_iterator", "itertools.zip_longest", "itertools.pairwise"].contains n && vs[0]? == some (rawInt _)) = true then _ else _) Q E s
           rw [if_neg (by intro h; rw [hn, Bool.false_and] at h; cases h)]
           exact wpAny_pure hQ))

noncomputable def Itl (K : PySem.W.Frag) (a : Addr) : It :=
  ⟨fun i H => ∃ xs x, SqL K H a xs ∧ xs[i]? = some x, fun i H x H' => H' = H ∧ ∀ xs, SqL K H a xs → xs[i]? = some x, fun i H => ∃ xs, SqL K H a xs ∧ xs.length ≤ i⟩
noncomputable def Itr (lo : Int) (n : Nat) : It := ⟨fun i _ => i < n, fun i H x H' => H' = H ∧ x = .int (lo + i), fun i _ => n ≤ i⟩
theorem turn_list {P : Program} {w : World} {K : PySem.W.Frag} {tg : Expr} (a it : Addr) : Turn P w K tg (Itl K a) [it] it (fun i h => h.IsListIter it a i) where
  mem := by simp
  obj := fun i h st b hb => by
    have e : b = it := by simpa using hb
    subst e
    obtain ⟨o, e, c, d⟩ := st
    exact ⟨o, e, fun v z => by rw [d] at z; cases z⟩
  keep := fun i h h' st k => st.at fun o e => k it (by simp) o e
  item := by
    intro X hP hw hK hc i pins s σ H E I hf st hg
    subst hP hw hK
    obtain ⟨xs, x, hq, hx⟩ := hg
    obtain ⟨its, rv, p, hz⟩ := I.list hq
    obtain ⟨u, hu, ru⟩ := rv.get hx
    obtain ⟨f0, f1, f2, f3, f4, f5⟩ := hf it (by simp)
    refine wpAny_pyNext_list_item st p.isList (x := u) (by simpa using hu) fun h' st' sb => ?_
    have I1 : Inv X pins σ H { s with heap := h' } := I.turned (t' := s.toks) (fun b o hb e => (sb.2 b hb).trans e) f0 f1 f3 f4 f5
    obtain ⟨o, e, c, d⟩ := id st'
    exact ⟨u, rfl, go_of (s := { s with heap := h' }) e c d (by decide) ⟨x, H, I1, ru, ⟨rfl, fun ys hy => by rw [I.list_inj hy hq]; exact hx⟩, st', fun b hb => (hf b hb).1⟩⟩
  done := by
    intro X hP hw hK hc i pins s σ H E I hf st hg
    subst hP hw hK
    obtain ⟨xs, hq, hx⟩ := hg
    obtain ⟨its, rv, p, hz⟩ := I.list hq
    obtain ⟨f0, f1, f2, f3, f4, f5⟩ := hf it (by simp)
    have hl := rv.length
    exact wpAny_pyNext_list_end (I.ok.hd hc) st p.isList (by simp; omega) fun h' eb => ⟨rfl, I.turned (t' := s.toks) (fun b o hb e => eb b o hb e) f0 f1 f3 f4 f5⟩
  self := fun _ _ _ _ _ st h => wpAny_pyIter_listiter st h
theorem turn_range {P : Program} {w : World} {K : PySem.W.Frag} {tg : Expr} (it : Addr) (lo : Int) (n : Nat) : Turn P w K tg (Itr lo n) [it] it (fun i h => IsRangeIter h it (lo + (i : Nat) * 1) ((n : Int) - (i : Nat)) 1) where
  mem := by simp
  obj := fun i h st b hb => by
    have e : b = it := by simpa using hb
    subst e
    exact ⟨_, st, fun v z => by
      have z' : Data.fields _ = Data.cell v := z
      cases z'⟩
  keep := fun i h h' st k => k it (by simp) _ st
  item := by
    intro X hP hw hK hc i pins s σ H E I hf st hg
    subst hP hw hK
    obtain ⟨f0, f1, f2, f3, f4, f5⟩ := hf it (by simp)
    have W := Walks.range (prog := X.prog) (w := X.w) (I.ok.hd hc) it lo 1 n
    refine W.item i s _ _ hg st fun v h' tk hv st' kk => ?_
    obtain ⟨t, rfl⟩ := hv
    have I1 : Inv X pins σ H { s with heap := h', toks := tk } := I.turned (fun b o hb e => kk b o (by simpa using hb) e) f0 f1 f3 f4 f5
    refine ⟨_, rfl, go_of (s := { s with heap := h', toks := tk }) (n := "range_iterator") st' rfl rfl (by decide) ⟨.int (lo + i), H, I1, ⟨t, ?_⟩, ⟨rfl, rfl⟩, st', fun b hb => (hf b hb).1⟩⟩
    rw [Int.mul_one]
  done := by
    intro X hP hw hK hc i pins s σ H E I hf st hg
    subst hP hw hK
    obtain ⟨f0, f1, f2, f3, f4, f5⟩ := hf it (by simp)
    exact wpAny_pyNext_range_end (I.ok.hd hc) st (by have : n ≤ i := hg; omega) fun h' eb => ⟨rfl, I.turned (t' := s.toks) (fun b o hb e => eb b o hb e) f0 f1 f3 f4 f5⟩
  self := fun _ _ _ _ _ st h => wpAny_pyIter_rangeiter st h
end L2

namespace L2
open PySem PySem.Spec PyProof.Rows
section
variable {X : Cx} {tg : Expr}
noncomputable def iList (K : PySem.W.Frag) (tl : TE) : TI := fun σ H R => tl σ H fun x H1 => ∃ a, x = .ref a ∧ (∃ xs, SqL K H1 a xs) ∧ R (Itl K a) H1
theorem pi_list {l : Expr} {tl : TE} (hl : PE X l tl) : PI X tg l (iList X.K tl) := by
  intro pins s σ H R I h
  refine thn (hl pins s σ H _ I h) fun v s1 zz1 => ?_
  obtain ⟨x, H1, I1, r1, q1⟩ := zz1
  obtain ⟨a, e, ⟨xs, hq⟩, q⟩ := q1
  subst e
  cases r1
  obtain ⟨its, rv, p, hz⟩ := I1.list hq
  refine wpAny_pyIter_list p.isList ?_
  refine ⟨s1.heap.objs.size, [s1.heap.objs.size], _, _, H1, rfl, I1.kept (t' := s1.toks) fun b o e => Heap.get?_push_of_some _ e, turn_list a _, ⟨_, Heap.get?_push_size _ rfl, rfl, rfl⟩, fun b hb => ?_, q⟩
  have e : b = s1.heap.objs.size := by simpa using hb
  subst e
  exact I1.fpOk (Nat.le_refl _) (I1.hok.fresh (Nat.le_refl _))
theorem range_it {pins : List (Addr × Obj)} {σ : St} {H : Hp} {s : Shared} {R : It → Hp → Prop} {E : Value → Shared → Prop} {lo hi : Int} {t u v : Tok} {tk : Nat} (I : Inv X pins σ H s) (h1 : -(2 ^ 62) ≤ lo) (h2 : lo < 2 ^ 62) (h3 : -(2 ^ 62) ≤ hi) (h4 : hi < 2 ^ 62)
    (q : R (Itr lo (hi - lo).toNat) H) : wpAny (model X.prog X.w) X.A (pyIter (.ref s.heap.objs.size)) (PIE X pins σ tg R) E { s with heap := s.heap.push { cls := .type "range", data := .fields #[.int lo t, .int hi u, .int 1 v] }, toks := tk } := by
  refine wpAny_pyIter_range (IsRange.new ..) (small_one h1 h2 h3 h4) ?_
  have I1 : Inv X pins σ H { s with heap := s.heap.push { cls := .type "range", data := .fields #[.int lo t, .int hi u, .int 1 v] }, toks := tk } := I.kept fun b o e => Heap.get?_push_of_some _ e
  refine ⟨(s.heap.push { cls := .type "range", data := .fields #[.int lo t, .int hi u, .int 1 v] }).objs.size, [(s.heap.push { cls := .type "range", data := .fields #[.int lo t, .int hi u, .int 1 v] }).objs.size], _, _, H, rfl,
    I1.kept (t' := tk) fun b o e => Heap.get?_push_of_some _ e, turn_range _ lo (hi - lo).toNat, ?_, fun b hb => ?_, q⟩
  · have e1 : lo + ((0 : Nat) : Int) * 1 = lo := by simp
    have e2 : (((hi - lo).toNat : Nat) : Int) - ((0 : Nat) : Int) = Builtin.Range.rangeSize lo hi 1 := by rw [rangeSize_one]; split <;> omega
    show IsRangeIter _ _ (lo + ((0 : Nat) : Int) * 1) ((((hi - lo).toNat : Nat) : Int) - ((0 : Nat) : Int)) 1
    rw [e1, e2]
    exact Heap.get?_push_size _ rfl
  · have e : b = (s.heap.push { cls := .type "range", data := .fields #[.int lo t, .int hi u, .int 1 v] }).objs.size := by simpa using hb
    subst e
    exact I1.fpOk (Nat.le_refl _) (I1.hok.fresh (Nat.le_refl _))
noncomputable def iRng1 (ta : TA) : TI := fun σ H R => ta σ H fun vs H1 => ∃ j : Int, vs = [.int j] ∧ -(2 ^ 62) ≤ j ∧ j < 2 ^ 62 ∧ R (Itr 0 j.toNat) H1
theorem pi_range1 {a : Expr} {ta : TA} {p pos : Pos} (hg : Gl X "range") (hm : X.mg "range" = none) (ha : PA X [a] ta) (hs : autoParam (starEach [a] X.env = [(false, eval a X.env)]) L2.au_rfl._auto_1) : PI X tg (.Call (.Name "range" p) [a] [] pos) (iRng1 ta) := by
  intro pins s σ H R I h
  refine Call_ (ld_blt I hg hm boot_range (PyProof.Rows.callWith_type1 (thn (ha pos pins s σ H _ I h) fun us s1 zz1 => ?_) hs rfl))
  obtain ⟨vs, H1, I1, r1, q1⟩ := zz1
  obtain ⟨j, e, q1, q2, q⟩ := q1
  subst e
  cases r1 with
  | cons r rr =>
    cases rr
    obtain ⟨t, rfl⟩ := r
    exact call_range_1 (range_it I1 (by omega) (by omega) q1 q2 (by simpa using q))

noncomputable def tFor (wi : TI) (g : TG) (tb : TS) : TS := fun D σ H => wi σ H fun J H1 => ∃ W : Nat → Nat → St → Hp → Prop, (∃ m, W 0 m σ H1) ∧ ∀ i m σ H, W i m σ H →
  (J.stop i H ∧ D.nx σ H) ∨ (J.go i H ∧ ∃ N : St → Hp → Prop, (∀ σ' H', N σ' H' → ∃ m', m' < m ∧ W (i + 1) m' σ' H') ∧ ∀ x H', J.yld i H x H' → g x σ H' fun σ2 H2 => tb { D with nx := N, ct := N, bk := D.nx } σ2 H2)
noncomputable def pinsAt (fp : List Addr) (h : Heap) : List (Addr × Obj) := fp.filterMap fun b => (h.get? b).map fun o => (b, o)
theorem mem_pinsAt {fp : List Addr} {h : Heap} {b : Addr} {o : Obj} (hb : b ∈ fp) (e : h.get? b = some o) : (b, o) ∈ pinsAt fp h := List.mem_filterMap.mpr ⟨b, hb, by rw [e]; rfl⟩
theorem of_pinsAt {fp : List Addr} {h : Heap} {p : Addr × Obj} (hp : p ∈ pinsAt fp h) : p.1 ∈ fp ∧ h.get? p.1 = some p.2 := by
  obtain ⟨b, hb, e⟩ := List.mem_filterMap.mp hp
  cases q : h.get? b with
  | none => rw [q] at e; cases e
  | some o =>
    rw [q] at e
    have e' : (b, o) = p := Option.some.inj e
    subst e'
    exact ⟨hb, q⟩
theorem Inv.pinned {pins : List (Addr × Obj)} {σ : St} {H : Hp} {s : Shared} {fp : List Addr} (I : Inv X pins σ H s) (hf : ∀ b ∈ fp, FpOk X pins H b) (ho : ∀ b ∈ fp, ∃ o, s.heap.get? b = some o ∧ ∀ v, o.data ≠ .cell v) : Inv X (pins ++ pinsAt fp s.heap) σ H s :=
  I.pins_of fun p hp => (List.mem_append.mp hp).elim (fun z => I.pin p (List.mem_append_right _ z)) fun z => by
    obtain ⟨hb, e⟩ := of_pinsAt z
    obtain ⟨f0, f1, f2, _⟩ := hf p.1 hb
    obtain ⟨o, e', d⟩ := ho p.1 hb
    rw [e] at e'; cases e'
    exact ⟨e, f0, f1, f2, d⟩
theorem Inv.unpinned {pins pl : List (Addr × Obj)} {σ : St} {H : Hp} {s : Shared} (I : Inv X (pins ++ pl) σ H s) : Inv X pins σ H s := I.pins_of fun p hp => I.pin p (List.mem_append_right _ (List.mem_append_left _ hp))
theorem ps_for {iter : Expr} {body : List Stmt} {wi : TI} {g : TG} {tb : TS} {pos : Pos} (hp : PassesOwn (model X.prog X.w) X.A X.env X.xe) (hc : X.calm = true) (hi : PI X tg iter wi) (hg : PG X tg g) (hb : PSs X body tb)
    (hs : autoParam (∀ x, foldedSetIterable iter X.env x = pure x) L2.au_in._auto_1) : PS X (.For tg iter body [] pos) (tFor wi g tb) := by
  intro pins s σ H D I h
  refine wpAny_For (thn (hi pins s σ H _ I h) fun v s1 h1 => thn h1 fun itv s2 h2 => ?_) hs
  obtain ⟨it, fp, tn, J, H2, e, I2, T, st2, f2, W, ⟨m0, w0⟩, turn⟩ := h2
  subst e
  -- what stays true of the iterator's objects through the loop
  have stat : ∀ {H' : Hp}, (∀ b ∈ fp, H' b = none) → ∀ b ∈ fp, FpOk X pins H' b := fun hn b hb => ⟨hn b hb, (f2 b hb).2⟩
  refine codeAny_forLoop_any (fun n s' => ∃ i σ' H', Inv X pins σ' H' s' ∧ tn i s'.heap ∧ (∀ b ∈ fp, H' b = none) ∧ W i n σ' H') ?_ m0 ⟨0, σ, H2, I2, st2, fun b hb => (f2 b hb).1, w0⟩
  rintro n s3 ⟨i, σ3, H3, I3, st3, fr3, w3⟩
  rcases turn i n σ3 H3 w3 with ⟨stop, qn⟩ | ⟨go, N, hN, step⟩
  · refine wpAny_passesOwn hp (thn (T.done X rfl rfl rfl hc i pins s3 σ3 H3 X.xe I3 (stat fr3) st3 stop) fun r s4 zz1 => ?_)
    obtain ⟨hr, I4⟩ := zz1
    subst hr
    exact wpAny_execs_nil ⟨σ3, H3, I4, qn⟩
  · refine wpAny_passesOwn hp (thn (T.item X rfl rfl rfl hc i pins s3 σ3 H3 X.xe I3 (stat fr3) st3 go) fun r s4 zz1 => ?_)
    obtain ⟨u, hr, h4⟩ := zz1
    subst hr
    refine wpAny_passesOwn hp (thn h4 fun _ s5 zz1 => ?_)
    obtain ⟨x, H5, I5, r5, y5, st5, fr5⟩ := zz1
    have I5' := I5.pinned (stat fr5) (T.obj _ _ st5)
    refine wpAny_passesOwn hp (thn (hg _ s5 σ3 H5 x u _ I5' r5 (step x H5 y5)) fun _ s6 zz1 => ?_)
    obtain ⟨σ6, H6, I6, q6⟩ := zz1
    refine wpAny_passesOwn hp (thn (hb _ s6 σ6 H6 _ I6 q6) fun f s7 q7 => ?_)
    have again : ∀ {σ7 : St} {H7 : Hp}, Inv X (pins ++ pinsAt fp s5.heap) σ7 H7 s7 → N σ7 H7 → ∃ m, m < n ∧ ∃ i σ' H', Inv X pins σ' H' s7 ∧ tn i s7.heap ∧ (∀ b ∈ fp, H' b = none) ∧ W i m σ' H' := fun {σ7 H7} I7 n7 => by
      obtain ⟨m', hm, w7⟩ := hN σ7 H7 n7
      refine ⟨m', hm, i + 1, σ7, H7, I7.unpinned, T.keep _ _ _ st5 fun b hb o e => (I7.pin (b, o) (List.mem_append_right _ (List.mem_append_right _ (mem_pinsAt hb e)))).1, fun b hb => ?_, w7⟩
      obtain ⟨o, e, d⟩ := T.obj _ _ st5 b hb
      exact (I7.pin (b, o) (List.mem_append_right _ (List.mem_append_right _ (mem_pinsAt hb e)))).2.1
    cases f with
    | next => obtain ⟨σ7, H7, I7, n7⟩ := q7; exact again I7 n7
    | cont => obtain ⟨σ7, H7, I7, n7⟩ := q7; exact again I7 n7
    | brk => obtain ⟨σ7, H7, I7, q7⟩ := q7; exact ⟨σ7, H7, I7.unpinned, q7⟩
    | ret v => obtain ⟨x7, σ7, H7, I7, r7, q7⟩ := q7; exact ⟨x7, σ7, H7, I7.unpinned, r7, q7⟩
end

theorem for_list {K : PySem.W.Frag} {a : Addr} {xs : List V} {g : TG} {tb : TS} {D : Ends} {σ : St} {H : Hp} (Pv : Nat → St → Hp → Prop) (h0 : Pv 0 σ H) (hl : ∀ i σ H, i ≤ xs.length → Pv i σ H → SqL K H a xs)
    (hs : ∀ i x σ H, xs[i]? = some x → Pv i σ H → g x σ H fun σ2 H2 => tb { D with nx := Pv (i + 1), ct := Pv (i + 1), bk := D.nx } σ2 H2) (hd : ∀ σ H, Pv xs.length σ H → D.nx σ H) :
    ∃ W : Nat → Nat → St → Hp → Prop, (∃ m, W 0 m σ H) ∧ ∀ i m σ H, W i m σ H →
      ((Itl K a).stop i H ∧ D.nx σ H) ∨ ((Itl K a).go i H ∧ ∃ N : St → Hp → Prop, (∀ σ' H', N σ' H' → ∃ m', m' < m ∧ W (i + 1) m' σ' H') ∧ ∀ x H', (Itl K a).yld i H x H' → g x σ H' fun σ2 H2 => tb { D with nx := N, ct := N, bk := D.nx } σ2 H2) := by
  refine ⟨fun i m σ H => m = xs.length - i ∧ i ≤ xs.length ∧ Pv i σ H, ⟨xs.length, by simp, Nat.zero_le _, h0⟩, ?_⟩
  rintro i m σ H ⟨rfl, hi, p⟩
  have q := hl i σ H hi p
  by_cases hlt : i < xs.length
  · refine .inr ⟨⟨xs, xs[i], q, by simp [hlt]⟩, Pv (i + 1), fun σ' H' p' => ⟨xs.length - (i + 1), by omega, rfl, hlt, p'⟩, fun x H' y => ?_⟩
    obtain ⟨e, y⟩ := y
    subst e
    exact hs i x σ _ (y xs q) p
  · have e : i = xs.length := by omega
    subst e
    exact .inl ⟨⟨xs, q, Nat.le_refl _⟩, hd σ H p⟩
theorem for_range {lo : Int} {n : Nat} {g : TG} {tb : TS} {D : Ends} {σ : St} {H : Hp} (Pv : Nat → St → Hp → Prop) (h0 : Pv 0 σ H)
    (hs : ∀ i σ H, i < n → Pv i σ H → g (.int (lo + i)) σ H fun σ2 H2 => tb { D with nx := Pv (i + 1), ct := Pv (i + 1), bk := D.nx } σ2 H2) (hd : ∀ σ H, Pv n σ H → D.nx σ H) :
    ∃ W : Nat → Nat → St → Hp → Prop, (∃ m, W 0 m σ H) ∧ ∀ i m σ H, W i m σ H →
      ((Itr lo n).stop i H ∧ D.nx σ H) ∨ ((Itr lo n).go i H ∧ ∃ N : St → Hp → Prop, (∀ σ' H', N σ' H' → ∃ m', m' < m ∧ W (i + 1) m' σ' H') ∧ ∀ x H', (Itr lo n).yld i H x H' → g x σ H' fun σ2 H2 => tb { D with nx := N, ct := N, bk := D.nx } σ2 H2) := by
  refine ⟨fun i m σ H => m = n - i ∧ i ≤ n ∧ Pv i σ H, ⟨n, by simp, Nat.zero_le _, h0⟩, ?_⟩
  rintro i m σ H ⟨rfl, hi, p⟩
  by_cases hlt : i < n
  · refine .inr ⟨hlt, Pv (i + 1), fun σ' H' p' => ⟨n - (i + 1), by omega, rfl, hlt, p'⟩, fun x H' y => ?_⟩
    obtain ⟨e, y⟩ := y
    subst e y
    exact hs i σ _ hlt p
  · have e : i = n := by omega
    subst e
    exact .inl ⟨Nat.le_refl _, hd σ H p⟩
end L2

namespace L2
open PySem PySem.Spec PyProof.Rows

noncomputable abbrev R2 := V → V → Hp → VK → Prop
noncomputable def OpR (X : Cx) (f : Value → Value → Sem Value) (r : R2) : Prop :=
  ∀ (pins : List (Addr × Obj)) (s : Shared) (σ : St) (H : Hp) (x y : V) (v u : Value) (Q : VK), Inv X pins σ H s → RelV x v → RelV y u → r x y H Q →
    wpAny (model X.prog X.w) X.A (f v u) (EP X pins σ Q) X.xe s
noncomputable def CallR (X : Cx) (f : Value) (r : List V → Hp → VK → Prop) : Prop :=
  ∀ (pins : List (Addr × Obj)) (s : Shared) (σ : St) (H : Hp) (xs : List V) (us : List Value) (Q : VK), Inv X pins σ H s → Vals xs us → r xs H Q →
    wpAny (model X.prog X.w) X.A (call f us) (EP X pins σ Q) X.xe s

noncomputable def tOp (r : R2) (ta tb : TE) : TE := fun σ H Q => ta σ H fun x H1 => tb σ H1 fun y H2 => r x y H2 Q
noncomputable def rI0 (g : Int → Int → V) : R2 := fun x y H Q => ∃ i j, x = .int i ∧ y = .int j ∧ Q (g i j) H

section
variable {X : Cx} {a b c : Expr} {ta tb tc : TE} {pos : Pos}

theorem binT (ha : PE X a ta) (hb : PE X b tb) {pins : List (Addr × Obj)} {s : Shared} {σ : St} {H : Hp} {R : V → V → Hp → Prop} (I : Inv X pins σ H s)
    (h : ta σ H fun x H1 => tb σ H1 fun y H2 => R x y H2) {Q : Value → Shared → Prop} {f : Value → Value → Sem Value}
    (hf : ∀ v u s2 x y H2, Inv X pins σ H2 s2 → RelV x v → RelV y u → R x y H2 → wpAny (model X.prog X.w) X.A (f v u) Q X.xe s2) :
    wpAny (model X.prog X.w) X.A (eval a X.env) (fun v s₁ => wpAny (model X.prog X.w) X.A (eval b X.env) (fun u s₂ => wpAny (model X.prog X.w) X.A (f v u) Q X.xe s₂) X.xe s₁) X.xe s := by
  refine thn (ha pins s σ H _ I h) fun v s1 zz1 => ?_
  obtain ⟨x, H1, I1, r1, q1⟩ := zz1
  refine thn (hb pins s1 σ H1 _ I1 q1) fun u s2 zz1 => ?_
  obtain ⟨y, H2, I2, r2, q2⟩ := zz1
  exact hf v u s2 x y H2 I2 r1 r2 q2

theorem pe_op {op : Operator} {r : R2} (ho : OpR X (binaryOp op) r) (ha : PE X a ta) (hb : PE X b tb) : PE X (.BinOp a op b pos) (tOp r ta tb) := by
  intro pins s σ H Q I h
  exact wpAny_BinOp (binT ha hb I h fun v u s2 x y H2 I2 rx ry q => ho pins s2 σ H2 x y v u Q I2 rx ry q)

theorem opI0 {f : Value → Value → Sem Value} {g : Int → Int → Int}
    (rule : ∀ (i j : Int) (t u : Tok) (s : Shared) (Q : Value → Shared → Prop) (E : Value → Shared → Prop), Q (.int (g i j) s.toks) { s with toks := s.toks + 1 } → wpAny (model X.prog X.w) X.A (f (.int i t) (.int j u)) Q E s) :
    OpR X f (rI0 fun i j => .int (g i j)) := by
  intro pins s σ H x y v u Q I rx ry h
  obtain ⟨i, j, rfl, rfl, q⟩ := h
  obtain ⟨t, rfl⟩ := rx
  obtain ⟨t', rfl⟩ := ry
  exact rule i j t t' s _ _ ⟨.int (g i j), H, I.tok _, ⟨_, rfl⟩, q⟩
theorem opB0 {f : Value → Value → Sem Value} {g : Int → Int → Bool}
    (rule : ∀ (i j : Int) (t u : Tok) (s : Shared) (Q : Value → Shared → Prop) (E : Value → Shared → Prop), Q (.bool (g i j)) s → wpAny (model X.prog X.w) X.A (f (.int i t) (.int j u)) Q E s) :
    OpR X f (rI0 fun i j => .bl (g i j)) := by
  intro pins s σ H x y v u Q I rx ry h
  obtain ⟨i, j, rfl, rfl, q⟩ := h
  obtain ⟨t, rfl⟩ := rx
  obtain ⟨t', rfl⟩ := ry
  exact rule i j t t' s _ _ ⟨.bl (g i j), H, I, rfl, q⟩

theorem op_add : OpR X (binaryOp .Add) (rI0 fun i j => .int (i + j)) := opI0 fun _ _ _ _ _ _ _ q => add_int q
theorem op_sub : OpR X (binaryOp .Sub) (rI0 fun i j => .int (i - j)) := opI0 fun _ _ _ _ _ _ _ q => sub_int q

end

noncomputable def scal : V → V → Bool
  | .non, .non => true | .non, .int _ => true | .int _, .non => true | .non, .bl _ => true | .bl _, .non => true | .non, .str _ => true | .str _, .non => true
  | .int _, .int _ => true | .bl _, .bl _ => true | .str _, .str _ => true | .byt _, .byt _ => true
  | .int _, .str _ => true | .str _, .int _ => true | .bl _, .str _ => true | .str _, .bl _ => true
  | _, _ => false
noncomputable def rEq : R2 := fun x y H Q => scal x y = true ∧ Q (.bl (decide (x = y))) H
noncomputable def rNe : R2 := fun x y H Q => scal x y = true ∧ Q (.bl (!decide (x = y))) H

theorem dec_int {i j : Int} : decide (V.int i = V.int j) = (i == j) := by
  rw [Bool.eq_iff_iff]
  simp
theorem dec_bl {i j : Bool} : decide (V.bl i = V.bl j) = (i == j) := by
  rw [Bool.eq_iff_iff]
  simp
theorem dec_str {i j : Str} : decide (V.str i = V.str j) = (i == j) := by
  rw [Bool.eq_iff_iff]
  simp
theorem dec_byt {i j : Array UInt8} : decide (V.byt i = V.byt j) = (i.toList == j.toList) := by
  rw [Bool.eq_iff_iff]
  cases i
  cases j
  simp

section
variable {X : Cx} {a b c : Expr} {ta tb tc : TE} {pos : Pos}
theorem fin_bl {pins : List (Addr × Obj)} {σ : St} {H : Hp} {s : Shared} {Q : VK} {k k' : Bool} (I : Inv X pins σ H s) (q : Q (.bl k) H) (e : k = k') : EP X pins σ Q (.bool k') s := by
  subst e
  exact ⟨.bl k, H, I, rfl, q⟩
theorem op_eq : OpR X (compareOp .Eq) rEq := by
  intro pins s σ H x y v u Q I rx ry h
  obtain ⟨hs, q⟩ := h
  cases x with
  | non =>
    cases rx
    cases y with
    | non => cases ry; exact PySem.EqNone.eq_none_none (fin_bl I q (by simp))
    | bl j => cases ry; exact PySem.EqNone.eq_none_bool (fin_bl I q (by simp))
    | int j => obtain ⟨t', rfl⟩ := ry; exact PySem.EqNone.eq_none_int (fin_bl I q (by simp))
    | str j => obtain ⟨t', rfl⟩ := ry; exact PySem.EqNone.eq_none_str (fin_bl I q (by simp))
    | _ => exact absurd (show false = true from hs) Bool.false_ne_true
  | bl i =>
    cases rx
    cases y with
    | non => cases ry; exact PySem.EqNone.eq_bool_none (fin_bl I q (by simp))
    | bl j => cases ry; exact eq_bool (fin_bl I q dec_bl)
    | str j => obtain ⟨t', rfl⟩ := ry; exact PySem.EqMixed.eq_bool_str (fin_bl I q (by simp))
    | _ => exact absurd (show false = true from hs) Bool.false_ne_true
  | int i =>
    obtain ⟨t, rfl⟩ := rx
    cases y with
    | non => cases ry; exact PySem.EqNone.eq_int_none (fin_bl I q (by simp))
    | int j => obtain ⟨t', rfl⟩ := ry; exact eq_int (fin_bl I q dec_int)
    | str j => obtain ⟨t', rfl⟩ := ry; exact PySem.EqMixed.eq_int_str (fin_bl I q (by simp))
    | _ => exact absurd (show false = true from hs) Bool.false_ne_true
  | str i =>
    obtain ⟨t, rfl⟩ := rx
    cases y with
    | non => cases ry; exact PySem.EqNone.eq_str_none (fin_bl I q (by simp))
    | bl j => cases ry; exact PySem.EqMixed.eq_str_bool (fin_bl I q (by simp))
    | int j => obtain ⟨t', rfl⟩ := ry; exact PySem.EqMixed.eq_str_int (fin_bl I q (by simp))
    | str j => obtain ⟨t', rfl⟩ := ry; exact eq_str (fin_bl I q dec_str)
    | _ => exact absurd (show false = true from hs) Bool.false_ne_true
  | byt i =>
    obtain ⟨t, rfl⟩ := rx
    cases y with
    | byt j => obtain ⟨t', rfl⟩ := ry; exact PySem.W.eq_bytes (fin_bl I q dec_byt)
    | _ => exact absurd (show false = true from hs) Bool.false_ne_true
  | _ => cases y <;> exact absurd (show false = true from hs) Bool.false_ne_true
theorem op_ne : OpR X (compareOp .NotEq) rNe := by
  intro pins s σ H x y v u Q I rx ry h
  obtain ⟨hs, q⟩ := h
  cases x with
  | non =>
    cases rx
    cases y with
    | non => cases ry; exact PySem.EqNone.ne_none_none (fin_bl I q (by simp))
    | bl j => cases ry; exact PySem.EqNone.ne_none_bool (fin_bl I q (by simp))
    | int j => obtain ⟨t', rfl⟩ := ry; exact PySem.EqNone.ne_none_int (fin_bl I q (by simp))
    | str j => obtain ⟨t', rfl⟩ := ry; exact PySem.EqNone.ne_none_str (fin_bl I q (by simp))
    | _ => exact absurd (show false = true from hs) Bool.false_ne_true
  | bl i =>
    cases rx
    cases y with
    | non => cases ry; exact PySem.EqNone.ne_bool_none (fin_bl I q (by simp))
    | bl j => cases ry; exact ne_bool (fin_bl I q (congrArg not dec_bl))
    | str j => obtain ⟨t', rfl⟩ := ry; exact PySem.EqMixed.ne_bool_str (fin_bl I q (by simp))
    | _ => exact absurd (show false = true from hs) Bool.false_ne_true
  | int i =>
    obtain ⟨t, rfl⟩ := rx
    cases y with
    | non => cases ry; exact PySem.EqNone.ne_int_none (fin_bl I q (by simp))
    | int j => obtain ⟨t', rfl⟩ := ry; exact ne_int (fin_bl I q (congrArg not dec_int))
    | str j => obtain ⟨t', rfl⟩ := ry; exact PySem.EqMixed.ne_int_str (fin_bl I q (by simp))
    | _ => exact absurd (show false = true from hs) Bool.false_ne_true
  | str i =>
    obtain ⟨t, rfl⟩ := rx
    cases y with
    | non => cases ry; exact PySem.EqNone.ne_str_none (fin_bl I q (by simp))
    | bl j => cases ry; exact PySem.EqMixed.ne_str_bool (fin_bl I q (by simp))
    | int j => obtain ⟨t', rfl⟩ := ry; exact PySem.EqMixed.ne_str_int (fin_bl I q (by simp))
    | str j => obtain ⟨t', rfl⟩ := ry; exact ne_str (fin_bl I q (congrArg not dec_str))
    | _ => exact absurd (show false = true from hs) Bool.false_ne_true
  | byt i =>
    obtain ⟨t, rfl⟩ := rx
    cases y with
    | byt j => obtain ⟨t', rfl⟩ := ry; exact PySem.W.ne_bytes (fin_bl I q (congrArg not dec_byt))
    | _ => exact absurd (show false = true from hs) Bool.false_ne_true
  | _ => cases y <;> exact absurd (show false = true from hs) Bool.false_ne_true

theorem op_lt : OpR X (compareOp .Lt) (rI0 fun i j => .bl (decide (i < j))) := opB0 fun _ _ _ _ _ _ _ q => lt_int q
theorem op_le : OpR X (compareOp .LtE) (rI0 fun i j => .bl (decide (i ≤ j))) := opB0 fun _ _ _ _ _ _ _ q => le_int q
theorem op_gt : OpR X (compareOp .Gt) (rI0 fun i j => .bl (decide (j < i))) := opB0 fun _ _ _ _ _ _ _ q => gt_int q
theorem op_ge : OpR X (compareOp .GtE) (rI0 fun i j => .bl (decide (j ≤ i))) := opB0 fun _ _ _ _ _ _ _ q => ge_int q

theorem nomark (b : Expr) {op : CmpOp} (h : autoParam (op ≠ .In) L2.au_dec._auto_1) (h2 : autoParam (op ≠ .NotIn) L2.au_dec._auto_1) : behindInMarks op b = false := by
  have e1 : (op == CmpOp.In) = false := by cases op <;> first | rfl | exact absurd rfl h
  have e2 : (op == CmpOp.NotIn) = false := by cases op <;> first | rfl | exact absurd rfl h2
  cases b <;> simp [behindInMarks, e1, e2]
theorem pe_cmpR {op : CmpOp} {r : R2} (ho : OpR X (compareOp op) r) (ha : PE X a ta) (hb : PE X b tb) (hm : behindInMarks op b = false) : PE X (.Compare a [op] [b] pos) (tOp r ta tb) := by
  intro pins s σ H Q I h
  exact wpAny_Compare1 (binT ha hb I h fun v u s2 x y H2 I2 rx ry q => ho pins s2 σ H2 x y v u Q I2 rx ry q) hm
noncomputable def tTest (t : TE) : TT := fun σ H Q => t σ H fun x H' => ∃ k, x = .bl k ∧ Q k H'
theorem pt_cmpR {op : CmpOp} {r : R2} (ho : OpR X (compareOp op) r) (ha : PE X a ta) (hb : PE X b tb) (hm : behindInMarks op b = false) : PT X (.Compare a [op] [b] pos) (tTest (tOp r ta tb)) := by
  intro pins s σ H Q I h
  refine wpAny_isTrue_Compare1 (thn (ha pins s σ H _ I h) fun v s1 ⟨x, H1, I1, r1, q1⟩ => thn (hb pins s1 σ H1 _ I1 q1) fun u s2 ⟨y, H2, I2, r2, q2⟩ =>
    thn (ho pins s2 σ H2 x y v u _ I2 r1 r2 q2) fun c s3 ⟨z, H3, I3, r3, k, e, q3⟩ => ?_) hm
  subst e
  cases r3
  exact wpAny_truthy_bool ⟨H3, I3, q3⟩

theorem line63 : (sizeLine : Nat) < 2 ^ 63 := by rw [sizeLine_eq]; decide

theorem vals1 {x : V} {us : List Value} (r : Vals [x] us) : ∃ u, us = [u] ∧ RelV x u := by
  cases r with
  | cons r1 r2 => cases r2; exact ⟨_, rfl, r1⟩
theorem vals2 {x y : V} {us : List Value} (r : Vals [x, y] us) : ∃ u w', us = [u, w'] ∧ RelV x u ∧ RelV y w' := by
  cases r with
  | cons r1 r2 =>
    cases r2 with
    | cons r3 r4 => cases r4; exact ⟨_, _, rfl, r1, r3⟩
theorem call_max2 (hc : X.calm = true) : CallR X (.builtin "max") (fun xs H Q => ∃ i j, xs = [.int i, .int j] ∧ Q (.int (if j > i then j else i)) H) := by
  intro pins s σ H xs us Q I r h
  obtain ⟨i, j, rfl, q⟩ := h
  obtain ⟨u, w', rfl, ⟨t, rfl⟩, ⟨t', rfl⟩⟩ := vals2 r
  refine max_two_ints (I.ok.hd hc) fun h' tk k => ⟨_, H, I.kept k, ?_, q⟩
  by_cases hj : j > i
  · rw [if_pos hj, if_pos hj]; exact ⟨_, rfl⟩
  · rw [if_neg hj, if_neg hj]; exact ⟨_, rfl⟩
end
end L2

namespace L2
open PySem PySem.Spec PyProof.Rows

structure ObjM (h : Heap) (x dx C : Addr) (mA : Str → Option Value) : Prop where
  obj : h.get? x = some (PySem.W.instObj C dx)
  ns : h.Ns1 dx mA
  ne : dx ≠ x

theorem lookIn_ns {h : Heap} {dx : Addr} {mA : Str → Option Value} (n : h.Ns1 dx mA) : ∃ od, h.get? dx = some od ∧ ∀ name, PySem.W.lookIn name od = some (mA name) := by
  obtain ⟨o, es, ep, ho, hd, hk, _, hm⟩ := n
  refine ⟨o, ho, fun name => ?_⟩
  have e := hm name
  unfold nsFind findBy at e
  rw [← Array.find?_toList] at e
  unfold PySem.W.lookIn
  rw [hd]
  dsimp only
  split
  · rename_i y q
    rw [q] at e
    exact congrArg some e
  · rename_i q
    rw [q] at e
    have a : es.toList.any (·.refKey) = false := by
      rw [List.any_eq_false]
      intro y hy
      obtain ⟨z, t, hkey⟩ := hk y (Array.mem_toList_iff.mp hy)
      simp [DictEntry.refKey, hkey]
    have a' : ¬ es.toList.any (·.refKey) = true := by rw [a]; exact Bool.false_ne_true
    rw [if_neg a']
    exact congrArg some e

theorem ObjM.look {h : Heap} {x dx C : Addr} {mA : Str → Option Value} (I : ObjM h x dx C mA) : ∃ od, PySem.W.InstAt h x (PySem.W.instObj C dx) C (some od) ∧ ∀ name, PySem.W.lookIn name od = some (mA name) :=
  let ⟨od, ho, hl⟩ := lookIn_ns I.ns
  ⟨od, ⟨I.obj, rfl, rfl, ho⟩, hl⟩

section
variable {prog : Program} {w : World} {A : Around} {E : Value → Shared → Prop} {s : Shared} {K : PySem.W.Frag} {x dx C f : Addr} {mA : Str → Option Value} {name : Str} {v : Value}

theorem get_map {expr : Bool} {Q : Value → Shared → Prop} (X : K.In s.heap) (I : ObjM s.heap x dx C mA) (hg : PySem.W.plainGet K C name = true) (hh : PySem.W.hasDictIn K C = true)
    (ha : PySem.W.findIn K (.ref C) name = some none) (hv : mA name = some v) (hv' : PySem.W.handedIn v = true) (h : Q v { s with toks := s.toks + 1 }) :
    wpAny (model prog w) A (getAttr (.ref x) name expr) Q E s := by
  obtain ⟨od, J, hl⟩ := I.look
  exact PySem.W.get_value X J (PySem.W.plainGet_of hg).1 (PySem.W.findObj_own hh ha rfl (by rw [hl, hv])) hv' h

theorem get_meth {pl : Sem Bool} {Q : Value × List Value → Shared → Prop} (X : K.In s.heap) (I : ObjM s.heap x dx C mA) (hg : PySem.W.plainGet K C name = true)
    (hf : PySem.W.findIn K (.ref C) name = some (some (.ref f))) (ht : PySem.W.isFn K (.ref f) = true) (hv : mA name = none) (h : Q (.ref f, [.ref x]) s) :
    wpAny (model prog w) A (getMethod (.ref x) name pl) Q E s := by
  obtain ⟨od, J, hl⟩ := I.look
  exact PySem.W.method_fn X J (PySem.W.plainGet_of hg).1 (PySem.W.plainGet_of hg).2 hf (beq_iff_eq.mp ht) (by show (PySem.W.lookIn name od).map (·.isSome) = some false; rw [hl, hv]; rfl) h

theorem set_map {ns : List Str} {Q : Unit → Shared → Prop} (X : K.In s.heap) (I : ObjM s.heap x dx C mA)
    (hs : PySem.W.findIn K (.ref C) "__setattr__" = some (some (.builtin "object.__setattr__"))) (hp : PySem.W.plainOver K C = true) (ht : PySem.W.takerIn K C name = some none) (hh : PySem.W.hasDictIn K C = true)
    (hw : PySem.Within mA ns) (hsz : ns.length ≤ sizeLine)
    (h : ∀ h', ObjM h' x dx C (fun y => if y = name then some v else mA y) → Heap.SameBut dx s.heap h' → Q () { s with heap := h', toks := s.toks + 2 }) :
    wpAny (model prog w) A (setAttr (.ref x) name v) Q E s := by
  obtain ⟨od, J, hl⟩ := I.look
  refine PySem.W.set_plain X J hs (PySem.W.osa_open (s := { s with toks := s.toks + 1 }) (r := none) X J hp ht fun b => ?_)
  obtain ⟨cd, hc, hd'⟩ := PySem.W.any_some hh
  have hx : s.heap.get? x = some ⟨.ref C, some dx, .plain, #[]⟩ := I.obj
  refine wpAny_bind (wpAny_pure (wpAny_bind (wpAny_bind (wpAny_loadPart hx (wpAny_bind (PySem.W.Looks.here (s := { s with toks := s.toks + 1 }) (PySem.W.looks_clsIn X hc) ?_))))))
  rw [hd']
  refine wpAny_pure (a := some dx) (wpAny_bind (wpAny_pure (wpAny_bind ?_)))
  refine wpAny_nsSet1 (s := { s with toks := s.toks + 1 }) I.ns fun h' hn2 hs2 => ?_
  obtain ⟨oD, esD, epD, hoD, hdD, hcD⟩ := hn2.count (PySem.Within.cons name v hw)
  refine wpAny_bind (wpAny_lookBehind hoD (by rw [hdD]; exact pastItsLine_dict (Nat.le_trans hcD (by rw [List.length_cons]; omega))) ?_)
  exact wpAny_pure (h _ ⟨(hs2.2 _ (Ne.symm I.ne)).trans I.obj, hn2, I.ne⟩ hs2)

theorem make_map {R : Result → Shared → Prop} {vs : List Value} {kw : List (Str × Value)} (X : K.In s.heap) (hm : PySem.W.makesIn K C = true)
    (hi : PySem.W.findIn K (.ref C) "__init__" = some (some (.ref f))) (hf : PySem.W.typeIn K (.ref f) = some (.type "function"))
    (h : codeAny (model prog w) (A.under (.builtin "type.__call__" ⟨.ref C :: vs, kw⟩)) (.call (.ref f) ⟨.ref (s.heap.objs.size + 1) :: vs, kw⟩) (PySem.W.InitBack (s.heap.objs.size + 1) R)
      { s with heap := (s.heap.push PySem.W.emptyDict).push (PySem.W.instObj C s.heap.objs.size) }) :
    codeAny (model prog w) A (.call (.ref C) ⟨vs, kw⟩) R s := by
  obtain ⟨hh, g, d, t, os⟩ := s
  exact PySem.W.make_core (PySem.W.makes_of X hm) (PySem.W.looks_findIn X hi) (fun self => PySem.W.bind_fn X self hf) (.inl rfl) h
end

noncomputable def putF (f : Str) (v : V) : List (Str × V) → List (Str × V)
  | [] => [(f, v)]
  | (g, x) :: r => if g = f then (g, v) :: r else (g, x) :: putF f v r
theorem lookup_putF (f g : Str) (v : V) : ∀ fs : List (Str × V), (putF f v fs).lookup g = if g = f then some v else fs.lookup g
  | [] => by
    show List.lookup g [(f, v)] = _
    by_cases h : g = f
    · have hb : (g == f) = true := beq_iff_eq.mpr h
      simp only [List.lookup, hb, if_pos h]
    · have hb : (g == f) = false := beq_eq_false_iff_ne.mpr h
      simp only [List.lookup, hb, if_neg h]
  | (k, x) :: r => by
    have ih := lookup_putF f g v r
    rw [show putF f v ((k, x) :: r) = (if k = f then (k, v) :: r else (k, x) :: putF f v r) from rfl]
    by_cases hk : k = f
    · rw [if_pos hk]
      by_cases h : g = k
      · have hb : (g == k) = true := beq_iff_eq.mpr h
        simp only [List.lookup, hb, if_pos (h.trans hk)]
      · have hb : (g == k) = false := beq_eq_false_iff_ne.mpr h
        simp only [List.lookup, hb, if_neg (fun e : g = f => h (e.trans hk.symm))]
    · rw [if_neg hk]
      by_cases h : g = k
      · have hb : (g == k) = true := beq_iff_eq.mpr h
        simp only [List.lookup, hb, if_neg (fun e : g = f => hk (h.symm.trans e))]
      · have hb : (g == k) = false := beq_eq_false_iff_ne.mpr h
        simp only [List.lookup, hb]
        exact ih
theorem keys_putF (f : Str) (v : V) : ∀ fs : List (Str × V), f ∈ (putF f v fs).map (·.1) ∧ ∀ g, g ∈ fs.map (·.1) → g ∈ (putF f v fs).map (·.1)
  | [] => ⟨by simp [putF], fun g h => by simp at h⟩
  | (k, x) :: r => by
    obtain ⟨i1, i2⟩ := keys_putF f v r
    rw [show putF f v ((k, x) :: r) = (if k = f then (k, v) :: r else (k, x) :: putF f v r) from rfl]
    by_cases hk : k = f
    · rw [if_pos hk]
      subst hk
      exact ⟨by simp, fun g h => by simpa using h⟩
    · rw [if_neg hk]
      refine ⟨?_, fun g h => ?_⟩
      · rw [List.map_cons]
        exact List.mem_cons_of_mem _ i1
      · rw [List.map_cons] at h ⊢
        rcases List.mem_cons.mp h with e | e
        · exact List.mem_cons.mpr (.inl e)
        · exact List.mem_cons_of_mem _ (i2 g e)
theorem length_putF (f : Str) (v : V) : ∀ fs : List (Str × V), (putF f v fs).length ≤ fs.length + 1
  | [] => by simp [putF]
  | (k, x) :: r => by
    have ih := length_putF f v r
    rw [show putF f v ((k, x) :: r) = (if k = f then (k, v) :: r else (k, x) :: putF f v r) from rfl]
    by_cases hk : k = f
    · rw [if_pos hk, List.length_cons, List.length_cons]; omega
    · rw [if_neg hk, List.length_cons, List.length_cons]; omega

theorem RelO.some_of {v : V} {o : Option Value} (r : RelO (some v) o) : ∃ u, o = some u ∧ RelV v u := by
  cases o with
  | none => exact (show False from r).elim
  | some u => exact ⟨u, rfl, r⟩
theorem RelO.none_of {o : Option Value} (r : RelO none o) : o = none := by
  cases o with
  | none => rfl
  | some u => exact (show False from r).elim
theorem handed_of {v : V} {u : Value} (r : RelV v u) : PySem.W.handedIn u = true := by
  cases v with
  | non => cases (show u = Value.none from r); rfl
  | bl b => cases (show u = Value.bool b from r); rfl
  | int i => obtain ⟨t, e⟩ := (show ∃ t, u = Value.int i t from r); cases e; rfl
  | str x => obtain ⟨t, e⟩ := (show ∃ t, u = Value.str x t from r); cases e; rfl
  | byt b => obtain ⟨t, e⟩ := (show ∃ t, u = Value.bytes b t from r); cases e; rfl
  | flt b => obtain ⟨t, e⟩ := (show ∃ t, u = Value.float b t from r); cases e; rfl
  | ref a => cases (show u = Value.ref a from r); rfl
  | ty n => cases (show u = Value.type n from r); rfl

section
variable {P : Program} {w : World} {H H' : Hp} {h h' : Heap} {a C dx : Addr} {fs fs' : List (Str × V)}
theorem ins_get (hok : HOk P w H h) (e : H a = some (.ins C dx fs)) : ∃ mA, ObjM h a dx C mA ∧ (∀ f, RelO (fs.lookup f) (mA f)) ∧ PySem.Within mA (fs.map (·.1)) ∧ fs.length ≤ 1000 ∧ H dx = some (.own a) := by
  obtain ⟨d, z, ne, ob, mA, n, r, q⟩ := (show ObjOk P w H h a (.ins C dx fs) from hok a _ e)
  exact ⟨mA, ⟨ob, n, ne⟩, r, q, z, d⟩
end

structure Cls (K : PySem.W.Frag) (C : Addr) : Prop where
  pg : PySem.W.plainGet K C Str.empty = true
  hd : PySem.W.hasDictIn K C = true
  po : PySem.W.plainOver K C = true
  sa : PySem.W.findIn K (.ref C) "__setattr__" = some (some (.builtin "object.__setattr__"))
theorem Cls.get {K : PySem.W.Frag} {C : Addr} (c : Cls K C) (f : Str) : PySem.W.plainGet K C f = true := c.pg
noncomputable def NoAttr (K : PySem.W.Frag) (C : Addr) (f : Str) : Prop := PySem.W.findIn K (.ref C) f = some none
theorem NoAttr.taker {K : PySem.W.Frag} {C : Addr} {f : Str} (n : NoAttr K C f) : PySem.W.takerIn K C f = some none := by
  unfold PySem.W.takerIn
  rw [show PySem.W.findIn K (.ref C) f = some none from n]
  rfl
structure Meth (K : PySem.W.Frag) (C : Addr) (m : Str) (f : Addr) : Prop where
  at_ : PySem.W.findIn K (.ref C) m = some (some (.ref f))
  fn : PySem.W.isFn K (.ref f) = true
  kp : PySem.W.keepIn K (.ref f) = true

section
variable {X : Cx} {pins : List (Addr × Obj)} {σ : St} {H : Hp} {s : Shared} {a C dx : Addr} {fs : List (Str × V)} {f : Str} {v : V} {A : Around} {E : Value → Shared → Prop}

theorem getattr_ok {b : Bool} {Q : Value → Shared → Prop} (I : Inv X pins σ H s) (e : H a = some (.ins C dx fs)) (c : Cls X.K C) (n : NoAttr X.K C f) (l : fs.lookup f = some v)
    (h : ∀ u s', Inv X pins σ H s' → RelV v u → Q u s') : wpAny (model X.prog X.w) A (getAttr (.ref a) f b) Q E s := by
  obtain ⟨mA, O, r, _, _, _⟩ := ins_get I.hok e
  obtain ⟨u, hu, ru⟩ := RelO.some_of (v := v) (o := mA f) (by rw [← l]; exact r f)
  exact get_map I.kIn O (c.get f) c.hd n hu (handed_of ru) (h u _ (I.tok _) ru)

theorem getmeth_ok {m : Str} {g : Addr} {pl : Sem Bool} {Q : Value × List Value → Shared → Prop} (I : Inv X pins σ H s) (e : H a = some (.ins C dx fs)) (c : Cls X.K C) (k : Meth X.K C m g) (l : fs.lookup m = none)
    (h : Q (.ref g, [.ref a]) s) : wpAny (model X.prog X.w) A (getMethod (.ref a) m pl) Q E s := by
  obtain ⟨mA, O, r, _, _, _⟩ := ins_get I.hok e
  have hn : mA m = none := RelO.none_of (by rw [← l]; exact r m)
  exact get_meth I.kIn O (c.get m) k.at_ k.fn hn h

theorem setattr_ok {y : V} {u : Value} {Q : Unit → Shared → Prop} (I : Inv X pins σ H s) (e : H a = some (.ins C dx fs)) (c : Cls X.K C) (n : NoAttr X.K C f) (hl : fs.length < 1000) (ry : RelV y u)
    (h : ∀ s', Inv X pins σ (upd H a (.ins C dx (putF f y fs))) s' → Q () s') : wpAny (model X.prog X.w) A (setAttr (.ref a) f u) Q E s := by
  obtain ⟨mA, O, r, wi, _, ho⟩ := ins_get I.hok e
  have hz : (fs.map (·.1)).length ≤ sizeLine := by rw [List.length_map, sizeLine_eq]; omega
  refine set_map I.kIn O c.sa c.po n.taker c.hd wi hz fun h' O' sb => h _ ?_
  have hd : ∃ o, h'.get? dx = some o := let ⟨o, _, _, e', _⟩ := O'.ns; ⟨o, e'⟩
  refine I.write (x := a) (e := dx) (by rw [e]; exact True.intro) (.inr ho) (fun b q hb z => (sb.2 b hb).trans z) hd ?_
  refine ⟨by rw [upd_ne O.ne]; exact ho, ?_, O.ne, O'.obj, _, O'.ns, fun g => ?_, fun g hg => ?_⟩
  · have := length_putF f y fs; omega
  · show RelO ((putF f y fs).lookup g) (if g = f then some u else mA g)
    rw [lookup_putF]
    by_cases q : g = f
    · rw [if_pos q, if_pos q]; exact ry
    · rw [if_neg q, if_neg q]; exact r g
  · by_cases q : g = f
    · rw [q]; exact (keys_putF f y fs).1
    · refine (keys_putF f y fs).2 g (wi g fun z => hg ?_)
      show (if g = f then some u else mA g) = none
      rw [if_neg q]; exact z

theorem Inv.made (I : Inv X pins σ H s) : Inv X pins σ (upd (upd H s.heap.objs.size (.own (s.heap.objs.size + 1))) (s.heap.objs.size + 1) (.ins C s.heap.objs.size []))
    { s with heap := (s.heap.push PySem.W.emptyDict).push (PySem.W.instObj C s.heap.objs.size) } := by
  have e1 : (s.heap.push PySem.W.emptyDict).get? s.heap.objs.size = some PySem.W.emptyDict := Heap.get?_push_size s.heap rfl
  have e2 : ((s.heap.push PySem.W.emptyDict).push (PySem.W.instObj C s.heap.objs.size)).get? (s.heap.objs.size + 1) = some (PySem.W.instObj C s.heap.objs.size) := by
    have := Heap.get?_push_size (s.heap.push PySem.W.emptyDict) (o := PySem.W.instObj C s.heap.objs.size) rfl
    rwa [Heap.size_push] at this
  have e3 : (s.heap.push PySem.W.emptyDict).Ns s.heap.objs.size (fun _ => none) := ⟨PySem.W.emptyDict, #[], _, e1, rfl, (fun e he => absurd he (by simp)), fun _ => rfl⟩
  have I1 := I.laid (a := s.heap.objs.size) (o := .own (s.heap.objs.size + 1)) (h' := s.heap.push PySem.W.emptyDict) (t' := s.toks) (fun b u q => Heap.get?_push_of_some _ q) (Nat.le_refl _) ⟨_, e1⟩
  refine I1.laid (a := s.heap.objs.size + 1) (o := .ins C s.heap.objs.size []) (t' := s.toks) (fun b u q => Heap.get?_push_of_some _ q) (Nat.le_of_eq (Heap.size_push _ _)) ?_
  have ne : s.heap.objs.size ≠ s.heap.objs.size + 1 := Nat.ne_of_lt (Nat.lt_succ_self _)
  refine ⟨by rw [upd_ne ne, upd_same], Nat.zero_le _, ne, e2, fun _ => none, (Heap.Ns1.of_empty e3).at fun o q => Heap.get?_push_of_some _ q, fun _ => True.intro, fun y hy => absurd rfl hy⟩

theorem attr_of {prog : Program} {w : World} {env : Env} {e : Expr} {f : Str} {pos : Pos} {s : Shared} {Q : Value → Shared → Prop} (hb : attributeBase e f env (eval e env) = eval e env)
    (h : wpAny (model prog w) A (eval e env) (fun o s₁ => wpAny (model prog w) A (getAttr o f true) Q E s₁) E s) : wpAny (model prog w) A (eval (.Attribute e f pos) env) Q E s :=
  Attribute_any_ h (by rw [arm_eval_Attribute, hb])
end

noncomputable def tFld (K : PySem.W.Frag) (ta : TE) (f : Str) : TE := fun σ H Q => ta σ H fun x H1 => ∃ a C dx fs v, x = .ref a ∧ H1 a = some (.ins C dx fs) ∧ Cls K C ∧ NoAttr K C f ∧ fs.lookup f = some v ∧ Q v H1
noncomputable def sFld (K : PySem.W.Frag) (ta tv : TE) (f : Str) : TS := fun D σ H => tv σ H fun y H1 => ta σ H1 fun x H2 => ∃ a C dx fs, x = .ref a ∧ H2 a = some (.ins C dx fs) ∧ Cls K C ∧ NoAttr K C f ∧ fs.length < 1000 ∧
  D.nx σ (upd H2 a (.ins C dx (putF f y fs)))

section
variable {X : Cx} {o e value : Expr} {f : Str} {pos pos' tpos : Pos} {ta tv : TE}
theorem pe_fld (he : PE X e ta) (hb : attributeBase e f X.env (eval e X.env) = eval e X.env) : PE X (.Attribute e f pos) (tFld X.K ta f) := by
  intro pins s σ H Q I h
  refine attr_of hb (thn (he pins s σ H _ I h) fun u s1 zz1 => ?_)
  obtain ⟨x, H1, I1, rx, a, C, dx, fs, v, ex, ea, c, n, l, q⟩ := zz1
  subst ex
  obtain rfl : u = Value.ref a := rx
  exact getattr_ok I1 ea c n l fun u' s2 I2 ru => ⟨v, H1, I2, ru, q⟩
theorem ps_fld (ha : PE X o ta) (hv : PE X value tv) (hs : swapsWith value (some (.Attribute o f pos')) pos.line X.env = pure false) : PS X (.Assign [.Attribute o f pos'] value pos) (sFld X.K ta tv f) := by
  intro pins s σ H D I h
  refine plainObj_wpAny_Assign_Attribute (thn (hv pins s σ H _ I h) fun u s1 zz1 => ?_) hs
  obtain ⟨y, H1, I1, ry, q⟩ := zz1
  refine thn (ha pins s1 σ H1 _ I1 q) fun ov s2 zz1 => ?_
  obtain ⟨x, H2, I2, rx, a, C, dx, fs, ex, ea, c, n, l, q2⟩ := zz1
  subst ex
  obtain rfl : ov = Value.ref a := rx
  exact setattr_ok I2 ea c n l ry fun s3 I3 => ⟨σ, _, I3, q2⟩

end

section
variable {X : Cx} {pins : List (Addr × Obj)} {σ : St} {H : Hp} {s : Shared} {A : Around} {E : Value → Shared → Prop} {Q : Value → Shared → Prop} {c : Value} {b : Bool}
end
end L2

namespace L2
open PySem PySem.Spec PyProof.Rows

structure Room (k : Nat) (A : Around) : Prop where
  hd : A.handled = none
  dp : A.depth + 3 * k + 5 < recursionLimit
  un : A.units + 16 * k + 200 < cLine
theorem Room.mono {j k : Nat} {A : Around} (r : Room k A) (h : j ≤ k) : Room j A := ⟨r.hd, by have := r.dp; omega, by have := r.un; omega⟩
theorem Room.deeper {k : Nat} {A : Around} (r : Room (k + 1) A) (env : Env) : Room k (A.deeper env) :=
  ⟨r.hd, by have := r.dp; show A.depth + 1 + 3 * k + 5 < _; omega, by have := r.un; show A.units + 3 + 16 * k + 200 < _; omega⟩
theorem make_depth {A : Around} {C : Addr} {us : List Value} {kw : List (Str × Value)} : (A.under (.builtin "type.__call__" ⟨.ref C :: us, kw⟩)).depth = A.depth + 1 := by
  first | rfl | simp [Around.under, Code.weight, Code.isCreation, Code.isGuard, Code.isCaller, Code.frames, Code.isFrame, guardIds]
theorem make_units {A : Around} {C : Addr} {us : List Value} {kw : List (Str × Value)} : (A.under (.builtin "type.__call__" ⟨.ref C :: us, kw⟩)).units = A.units + 1 := by
  first | rfl | simp [Around.under, Code.cUnits, Code.frames, Code.isFrame]
theorem Room.make {k : Nat} {A : Around} (r : Room (k + 1) A) (C : Addr) (us : List Value) (kw : List (Str × Value)) : Room k (A.under (.builtin "type.__call__" ⟨.ref C :: us, kw⟩)) :=
  ⟨r.hd, by have := r.dp; rw [make_depth]; omega, by have := r.un; rw [make_units]; omega⟩
theorem Room.depth {k : Nat} {A : Around} (r : Room k A) : A.depth < recursionLimit := by have := r.dp; omega
theorem Room.units {k : Nat} {A : Around} (r : Room k A) : A.units + 64 < cLine := by have := r.un; omega

noncomputable def tNil : TA := fun _ H Q => Q [] H
noncomputable def tCons (ta : TE) (tr : TA) : TA := fun σ H Q => ta σ H fun x H1 => tr σ H1 fun xs H2 => Q (x :: xs) H2
section
variable {X : Cx} {e : Expr} {es : List Expr} {te : TE} {t : TA} {pos : Pos}
theorem pa_nil : PA X [] tNil := fun _ _ _ _ H Q I h => Calls.spliced_nil ⟨[], H, I, .nil, h⟩
theorem pa_cons (ha : PE X e te) (hr : PA X es t) (hs : autoParam (starEach (e :: es) X.env = (false, eval e X.env) :: starEach es X.env) L2.au_rfl._auto_1) : PA X (e :: es) (tCons te t) := by
  intro pos pins s σ H Q I h
  rw [hs]
  show wpAny _ _ (spliced ((false, eval e X.env) :: backTo pos (starEach es X.env))) _ _ s
  refine Calls.spliced_cons (thn (ha pins s σ H _ I h) fun u s1 zz1 => ?_)
  obtain ⟨x, H1, I1, r1, q1⟩ := zz1
  refine thn (hr pos pins s1 σ H1 _ I1 q1) fun us s2 zz1 => ?_
  obtain ⟨xs, H2, I2, r2, q2⟩ := zz1
  exact ⟨x :: xs, H2, I2, .cons r1 r2, q2⟩

noncomputable def tTup (t : TA) : TE := fun σ H Q => t σ H fun xs H1 => xs.length ≤ sizeLine ∧ ∀ p, H1 p = none → Q (.ref p) (upd H1 p (.tup xs))
noncomputable def tLst (t : TA) : TE := fun σ H Q => t σ H fun xs H1 => xs.length ≤ sizeLine ∧ ∀ p, H1 p = none → Q (.ref p) (upd H1 p (.lst xs))
theorem pe_tup {x1} (h : PA X es t) : PE X (.Tuple es x1 pos) (tTup t) := by
  intro pins s σ H Q I hq
  refine wpAny_Tuple_spliced (thn (h pos pins s σ H _ I hq) fun us s1 zz1 => ?_)
  obtain ⟨xs, H1, I1, r, z, q⟩ := zz1
  refine ⟨by rw [← r.length]; exact z, ?_⟩
  have hf : H1 s1.heap.objs.size = none := I1.hok.fresh (Nat.le_refl _)
  refine ⟨.ref s1.heap.objs.size, upd H1 s1.heap.objs.size (.tup xs), I1.laid (t' := s1.toks) (fun b u e => Heap.get?_push_of_some _ e) (Nat.le_refl _) ?_, rfl, q _ hf⟩
  exact ⟨z, us, r, ⟨_, Heap.get?_push_size _ rfl, rfl, _, rfl⟩⟩
theorem pe_lst (h : PA X es t) : PE X (.List es pos) (tLst t) := by
  intro pins s σ H Q I hq
  refine wpAny_List_spliced (thn (h pos pins s σ H _ I hq) fun us s1 zz1 => ?_)
  obtain ⟨xs, H1, I1, r, z, q⟩ := zz1
  refine ⟨by rw [← r.length]; exact z, ?_⟩
  have hf : H1 s1.heap.objs.size = none := I1.hok.fresh (Nat.le_refl _)
  refine ⟨.ref s1.heap.objs.size, upd H1 s1.heap.objs.size (.lst xs), I1.laid (t' := s1.toks) (fun b u e => Heap.get?_push_of_some _ e) (Nat.le_refl _) ?_, rfl, q _ hf⟩
  exact ⟨z, us, 0, r, Heap.get?_push_size _ rfl⟩
end

noncomputable abbrev Sp := List V → Hp → VK → XK → Prop
noncomputable abbrev CXT := List Env → Hp → Shared → XK → Value → Shared → Prop

structure Env0 (P : Program) (w : World) (K : PySem.W.Frag) (mg : Str → Option Value) (base : Heap) (A : Around) (outer : List Env) (s : Shared) (H : Hp) : Prop where
  frames : A.frames = some outer
  mod : Mod K mg base
  bs : ∀ b o, base.get? b = some o → s.heap.get? b = some o ∧ H b = none
  bsz : base.objs.size ≤ s.heap.objs.size
  funs : s.heap.FunFrames base outer
  frf : ∀ b ∈ frs outer, H b = none
  hok : HOk P w H s.heap
  bare : AllBare s.gens
noncomputable def CE (outer : List Env) (P : Program) (w : World) (H : Hp) (s : Shared) (Q : VK) (u : Value) (s' : Shared) : Prop :=
  ∃ v H', s'.os = s.os ∧ AllBare s'.gens ∧ Un (frs outer) [] H H' s.heap s'.heap ∧ HOk P w H' s'.heap ∧ RelV v u ∧ Q v H'
noncomputable def CR (CX : CXT) (outer : List Env) (P : Program) (w : World) (H : Hp) (s : Shared) (Q : VK) (E : XK) (r : Result) (s' : Shared) : Prop :=
  match r with
  | .ok (.ret u) => CE outer P w H s Q u s'
  | .ok _ => False
  | .error e => CX outer H s E e s'
structure FnOk (P : Program) (w : World) (K : PySem.W.Frag) (mg : Str → Option Value) (base : Heap) (CX : CXT) (k : Nat) (f : Addr) (fd : FuncData) (ps : List Str) (sp : Sp) : Prop where
  len : ∀ vs H Q E, sp vs H Q E → vs.length = ps.length
  run : ∀ (A : Around) (outer : List Env) (s : Shared) (H : Hp) (args : Args) (us : List Value) (vs : List V) (Q : VK) (E : XK), Room k A → Env0 P w K mg base A outer s H → BindsTo s fd args (ps.zip us) → Vals vs us → sp vs H Q E →
    codeAny (model P w) A (.call (.ref f) args) (CR CX outer P w H s Q E) s

theorem Env0.make {P : Program} {w : World} {K : PySem.W.Frag} {mg : Str → Option Value} {base : Heap} {A : Around} {outer : List Env} {s : Shared} {H : Hp} (e : Env0 P w K mg base A outer s H) (C : Addr) (us : List Value) (kw : List (Str × Value)) :
    Env0 P w K mg base (A.under (.builtin "type.__call__" ⟨.ref C :: us, kw⟩)) outer s H := ⟨by first | exact e.frames | (simpa [Around.under, Code.envs, Code.isFrame, pushEnvs] using e.frames), e.mod, e.bs, e.bsz, e.funs, e.frf, e.hok, e.bare⟩

section
variable {X : Cx} {pins : List (Addr × Obj)} {σ : St} {H : Hp} {s s' : Shared}
theorem Inv.env0 (I : Inv X pins σ H s) : Env0 X.prog X.w X.K X.mg X.base X.A X.stack s H :=
  ⟨I.ok.frames, I.ok.mod, I.bs, Nat.le_trans I.ok.bsz I.sz, I.stack, I.stkFree, I.hok, I.bare⟩
theorem Inv.after {Q : VK} {u : Value} (I : Inv X pins σ H s) (h : CE X.stack X.prog X.w H s Q u s') : EP X pins σ Q u s' := by
  obtain ⟨v, H', os, bare, un, hok, r, q⟩ := h
  obtain ⟨hh, g, d, t, os'⟩ := s'
  obtain rfl : os' = s.os := os
  exact ⟨v, H', I.call (h' := hh) (g' := g) (d' := d) (t' := t) (ch := []) un hok bare (fun b z => absurd z (by simp)), r, q⟩
end

noncomputable def tCall (sp : Sp) (dvs : List V) (E : XK) (t : TA) : TE := fun σ H Q => t σ H fun vs H1 => sp (vs ++ dvs) H1 Q E
noncomputable def tMeth (C : Addr) (m : Str) (sp : Sp) (dvs : List V) (E : XK) (ta : TE) (t : TA) : TE := fun σ H Q => ta σ H fun x H1 => ∃ a dx fs, x = .ref a ∧ H1 a = some (.ins C dx fs) ∧ fs.lookup m = none ∧
  t σ H1 fun vs H2 => sp (x :: (vs ++ dvs)) H2 Q E
noncomputable def tMake (C : Addr) (sp : Sp) (dvs : List V) (E : XK) (t : TA) : TE := fun σ H Q => t σ H fun vs H1 => ∀ x dx, H1 x = none → H1 dx = none → dx ≠ x →
  sp (.ref x :: (vs ++ dvs)) (upd (upd H1 dx (.own x)) x (.ins C dx [])) (fun v H2 => v = .non ∧ Q (.ref x) H2) E

noncomputable def Binds (K : PySem.W.Frag) (fd : FuncData) (ps : List Str) (ds : List Value) : Prop :=
  ∀ (s : Shared) (us : List Value), K.In s.heap → (us ++ ds).length = ps.length → BindsTo s fd ⟨us, []⟩ (ps.zip (us ++ ds))
theorem Binds.all {K : PySem.W.Frag} {fd : FuncData} {ps : List Str} (h : ∀ us : List Value, us.length = ps.length → bindArgs fd ⟨us, []⟩ = pure (ps.zip us)) : Binds K fd ps [] := fun s us _ hl => by
  rw [List.append_nil] at hl ⊢
  exact .of_eq (h us hl)

noncomputable def Passes (CX : CXT) (X : Cx) (E : XK) : Prop := ∀ (pins : List (Addr × Obj)) (σ : St) (H : Hp) (s : Shared) (e : Value) (s' : Shared), Inv X pins σ H s → CX X.stack H s E e s' → X.xe e s'

section
variable {X : Cx} {CX : CXT} {k : Nat} {f C : Addr} {fd : FuncData} {ps : List Str} {sp : Sp} {dvs : List V} {ds : List Value} {E : XK} {x m : Str} {p pos apos : Pos} {e o : Expr} {es : List Expr} {ta : TE} {t : TA}

theorem run_fn {pins : List (Addr × Obj)} {σ : St} {H : Hp} {s : Shared} {Q : VK} {us : List Value} {vs : List V} (F : FnOk X.prog X.w X.K X.mg X.base CX k f fd ps sp) (hr : Room k X.A) (hb : Binds X.K fd ps ds) (hd : Vals dvs ds) (hx : Passes CX X E)
    (I : Inv X pins σ H s) (r : Vals vs us) (h : sp (vs ++ dvs) H Q E) : wpAny (model X.prog X.w) X.A (call (.ref f) us) (EP X pins σ Q) X.xe s := by
  have r2 : Vals (vs ++ dvs) (us ++ ds) := r.append hd
  have hl : (us ++ ds).length = ps.length := by rw [← r2.length]; exact F.len _ _ _ _ h
  refine wpAny_call (codeAny_mono (F.run X.A X.stack s H ⟨us, []⟩ (us ++ ds) (vs ++ dvs) Q E hr I.env0 (hb s us I.kIn hl) r2 h) fun r s' hq => ?_)
  cases r with
  | error e => exact hx pins σ H s e s' I hq
  | ok fl =>
    cases fl with
    | ret u => exact I.after hq
    | next => exact False.elim hq
    | brk => exact False.elim hq
    | cont => exact False.elim hq

theorem pe_call (F : FnOk X.prog X.w X.K X.mg X.base CX k f fd ps sp) (hr : Room k X.A) (hg : Gl X x) (hm : X.mg x = some (.ref f)) (hk : PySem.W.keepIn X.K (.ref f) = true) (hb : Binds X.K fd ps ds) (hd : Vals dvs ds) (hx : Passes CX X E)
    (ha : PA X (e :: es) t) (hdb : autoParam ((x == ("__debug__" : Str)) = false) L2.au_dec._auto_1) (he : autoParam (starEach (e :: es) X.env = (false, eval e X.env) :: starEach es X.env) L2.au_rfl._auto_1) (hpl : autoParam ((backTo pos (starEach es X.env)).any (·.1) = false) L2.au_rfl._auto_1) :
    PE X (.Call (.Name x p) (e :: es) [] pos) (tCall sp dvs E t) := by
  intro pins s σ H Q I h
  refine wpAny_Call_Name_kw (ld_glob I hg hm ?_ hdb)
  refine PySem.W.callWith_K (h₀ := X.base) I.ok.mod.kin hk (thn (ha pos pins s σ H _ I h) fun us s1 zz1 => ?_) he hpl
  obtain ⟨vs, H1, I1, r, q⟩ := zz1
  refine ⟨I1.kIn, ?_⟩
  exact run_fn F hr hb hd hx I1 r q

theorem pe_meth {pl : Sem Bool} (he : PE X o ta) (c : Cls X.K C) (hm : Meth X.K C m f) (F : FnOk X.prog X.w X.K X.mg X.base CX k f fd ps sp) (hr : Room k X.A) (hb : Binds X.K fd ps ds) (hd : Vals dvs ds) (hx : Passes CX X E) (ha : PA X (e :: es) t)
    (hst : autoParam (starEach (e :: es) X.env = (false, eval e X.env) :: starEach es X.env) L2.au_rfl._auto_1) (hpl : autoParam ((backTo pos (starEach es X.env)).any (·.1) = false) L2.au_rfl._auto_1)
    (ht : eval (.Call (.Attribute o m apos) (e :: es) [] pos) X.env = (do
      let ov ← eval o X.env
      standAt apos.atName
      let (f, first) ← holding [ov] (getMethod ov m pl)
      callWith pos f first (backTo pos (starEach (e :: es) X.env)) (backToKw pos (keywordEach [] X.env))) := by rfl) :
    PE X (.Call (.Attribute o m apos) (e :: es) [] pos) (tMeth C m sp dvs E ta t) := by
  intro pins s σ H Q I h
  refine PySem.W.methodCall_KW (pl := pl) (thn (he pins s σ H _ I h) fun u s1 zz1 => ?_) ht
  obtain ⟨x, H1, I1, rx, a, dx, fs, ex, ea, l, q⟩ := zz1
  subst ex
  obtain rfl : u = Value.ref a := rx
  refine getmeth_ok I1 ea c hm l ?_
  refine PySem.W.callWith_K (first := [.ref a]) (h₀ := X.base) I.ok.mod.kin hm.kp (thn (ha pos pins s1 σ H1 _ I1 q) fun us s2 zz1 => ?_) hst hpl
  obtain ⟨vs, H2, I2, r, q2⟩ := zz1
  refine ⟨I2.kIn, ?_⟩
  exact run_fn (us := .ref a :: us) (vs := .ref a :: vs) F hr hb hd hx I2 (.cons rfl r) q2
theorem pe_meth0 {pl : Sem Bool} (he : PE X o ta) (c : Cls X.K C) (hm : Meth X.K C m f) (F : FnOk X.prog X.w X.K X.mg X.base CX k f fd ps sp) (hr : Room k X.A) (hb : Binds X.K fd ps ds) (hd : Vals dvs ds) (hx : Passes CX X E)
    (ht : eval (.Call (.Attribute o m apos) [] [] pos) X.env = (do
      let ov ← eval o X.env
      standAt apos.atName
      let (f, first) ← holding [ov] (getMethod ov m pl)
      callWith pos f first (backTo pos (starEach [] X.env)) (backToKw pos (keywordEach [] X.env))) := by rfl) :
    PE X (.Call (.Attribute o m apos) [] [] pos) (tMeth C m sp dvs E ta tNil) := by
  intro pins s σ H Q I h
  refine PySem.W.methodCall_KW (pl := pl) (thn (he pins s σ H _ I h) fun u s1 zz1 => ?_) ht
  obtain ⟨x, H1, I1, rx, a, dx, fs, ex, ea, l, q⟩ := zz1
  subst ex
  obtain rfl : u = Value.ref a := rx
  refine getmeth_ok I1 ea c hm l ?_
  exact PySem.W.callWith_K0 (first := [.ref a]) I1.kIn hm.kp (run_fn (us := [.ref a]) (vs := [.ref a]) F hr hb hd hx I1 (.cons rfl .nil) q)

structure Mk (K : PySem.W.Frag) (C f : Addr) : Prop where
  makes : PySem.W.makesIn K C = true
  init : PySem.W.findIn K (.ref C) "__init__" = some (some (.ref f))
  fn : PySem.W.isFn K (.ref f) = true
  kp : PySem.W.keepIn K (.ref C) = true

theorem run_make {pins : List (Addr × Obj)} {σ : St} {H : Hp} {s : Shared} {Q : VK} {us : List Value} {vs : List V} (M : Mk X.K C f) (F : FnOk X.prog X.w X.K X.mg X.base CX k f fd ps sp) (hr : Room (k + 1) X.A) (hb : Binds X.K fd ps ds) (hd : Vals dvs ds)
    (hx : Passes CX X E) (I : Inv X pins σ H s) (r : Vals vs us)
    (h : ∀ x dx, H x = none → H dx = none → dx ≠ x → sp (.ref x :: (vs ++ dvs)) (upd (upd H dx (.own x)) x (.ins C dx [])) (fun v H2 => v = .non ∧ Q (.ref x) H2) E) :
    wpAny (model X.prog X.w) X.A (call (.ref C) us) (EP X pins σ Q) X.xe s := by
  have hq := h (s.heap.objs.size + 1) s.heap.objs.size (I.hok.fresh (Nat.le_succ _)) (I.hok.fresh (Nat.le_refl _)) (Nat.ne_of_lt (Nat.lt_succ_self _))
  have I2 := Inv.made (C := C) I
  have r2 : Vals (V.ref (s.heap.objs.size + 1) :: (vs ++ dvs)) (Value.ref (s.heap.objs.size + 1) :: (us ++ ds)) := .cons rfl (r.append hd)
  have hl : (Value.ref (s.heap.objs.size + 1) :: us ++ ds).length = ps.length := by
    have e := r2.length
    rw [F.len _ _ _ _ hq] at e
    exact e.symm
  refine wpAny_call (make_map (f := f) I.kIn M.makes M.init (beq_iff_eq.mp M.fn) (codeAny_mono (F.run _ X.stack _ _ ⟨Value.ref (s.heap.objs.size + 1) :: us, []⟩ (Value.ref (s.heap.objs.size + 1) :: (us ++ ds)) _ _ E (hr.make C us [])
    (I2.env0.make C us []) (hb _ (Value.ref (s.heap.objs.size + 1) :: us) I2.kIn hl) r2 hq) fun r s' hq' => ?_))
  cases r with
  | error e => exact hx pins σ _ _ e s' I2 hq'
  | ok fl =>
    cases fl with
    | ret u =>
      obtain ⟨v, H', I3, rv, ev, q3⟩ := I2.after hq'
      subst ev
      exact ⟨rv, ⟨V.ref (s.heap.objs.size + 1), H', I3, rfl, q3⟩⟩
    | next => exact False.elim hq'
    | brk => exact False.elim hq'
    | cont => exact False.elim hq'
theorem pe_make (M : Mk X.K C f) (F : FnOk X.prog X.w X.K X.mg X.base CX k f fd ps sp) (hr : Room (k + 1) X.A) (hg : Gl X x) (hm : X.mg x = some (.ref C)) (hb : Binds X.K fd ps ds) (hd : Vals dvs ds) (hx : Passes CX X E)
    (ha : PA X (e :: es) t) (hdb : autoParam ((x == ("__debug__" : Str)) = false) L2.au_dec._auto_1) (he : autoParam (starEach (e :: es) X.env = (false, eval e X.env) :: starEach es X.env) L2.au_rfl._auto_1) (hpl : autoParam ((backTo pos (starEach es X.env)).any (·.1) = false) L2.au_rfl._auto_1) :
    PE X (.Call (.Name x p) (e :: es) [] pos) (tMake C sp dvs E t) := by
  intro pins s σ H Q I h
  refine wpAny_Call_Name_kw (ld_glob I hg hm ?_ hdb)
  refine PySem.W.callWith_K (h₀ := X.base) I.ok.mod.kin M.kp (thn (ha pos pins s σ H _ I h) fun us s1 zz1 => ?_) he hpl
  obtain ⟨vs, H1, I1, r, q⟩ := zz1
  refine ⟨I1.kIn, ?_⟩
  exact run_make M F hr hb hd hx I1 r q
theorem pe_make0 (M : Mk X.K C f) (F : FnOk X.prog X.w X.K X.mg X.base CX k f fd ps sp) (hr : Room (k + 1) X.A) (hg : Gl X x) (hm : X.mg x = some (.ref C)) (hb : Binds X.K fd ps ds) (hd : Vals dvs ds) (hx : Passes CX X E)
    (hdb : autoParam ((x == ("__debug__" : Str)) = false) L2.au_dec._auto_1) : PE X (.Call (.Name x p) [] [] pos) (tMake C sp dvs E tNil) := by
  intro pins s σ H Q I h
  refine wpAny_Call_Name_kw (ld_glob I hg hm ?_ hdb)
  exact PySem.W.callWith_K0 I.kIn M.kp (run_make (us := []) M F hr hb hd hx I .nil h)
end

section
variable {X : Cx} {CX : CXT} {k : Nat} {f C : Addr} {fd : FuncData} {ps ks : List Str} {sp : Sp} {E : XK} {x m : Str} {p pos apos kpos : Pos} {e o : Expr} {es : List Expr} {kws : List Keyword} {te ta : TE} {t tk : TA} {nm : Option Str}

variable {g : List Value → List Value → List Value} {gV : List V → List V → List V}
end

structure FnScope (N P : List Str) (sc : Scope) : Prop where
  kind : sc.kind = .function
  co : sc.isCoroutine = false
  gen : sc.isGenerator = false
  nd : N.Nodup
  pre : N.take P.length = P
  par : ∀ x ∈ P, sc.names.lookup x = some .local ∨ sc.names.lookup x = some .cell
  nofree : ∀ y ∈ sc.names, y.2 ≠ .free

theorem bindL_out {kindOf : Str → Option NameKind} {x : Str} : ∀ {binds : List (Str × Value)} {m : Str → Option Value}, (∀ v, (x, v) ∉ binds) → bindL kindOf binds m x = m x
  | [], _, _ => rfl
  | (n, v) :: r, m, h => by
    unfold bindL
    rw [bindL_out fun w hw => h w (List.mem_cons_of_mem _ hw)]
    split
    · have : x ≠ n := by rintro rfl; exact h v List.mem_cons_self
      simp [this]
    · rfl
theorem bindC_out {kindOf : Str → Option NameKind} {x : Str} : ∀ {binds : List (Str × Value)} {m : Str → Option Value}, (∀ v, (x, v) ∉ binds) → bindC kindOf binds m x = m x
  | [], _, _ => rfl
  | (n, v) :: r, m, h => by
    unfold bindC
    rw [bindC_out fun w hw => h w (List.mem_cons_of_mem _ hw)]
    split
    · rfl
    · have : x ≠ n := by rintro rfl; exact h v List.mem_cons_self
      simp [this]
theorem bindL_get {kindOf : Str → Option NameKind} {x : Str} {v : Value} : ∀ {P : List Str} {vs : List Value} {i : Nat} {m : Str → Option Value}, P.Nodup → P[i]? = some x → vs[i]? = some v → kindOf x = some .local →
    bindL kindOf (P.zip vs) m x = some v
  | [], _, _, _, _, h, _, _ => by simp at h
  | _ :: _, [], _, _, _, _, h, _ => by simp at h
  | p :: P, w :: vs, 0, m, nd, h1, h2, hk => by
    simp at h1 h2; subst h1; subst h2
    show bindL kindOf ((p, w) :: P.zip vs) m p = _
    unfold bindL
    rw [bindL_out fun v hv => (List.nodup_cons.mp nd).1 (List.of_mem_zip hv).1, if_pos hk]
    simp
  | p :: P, w :: vs, i + 1, m, nd, h1, h2, hk => by
    show bindL kindOf ((p, w) :: P.zip vs) m x = _
    unfold bindL
    exact bindL_get (i := i) (List.nodup_cons.mp nd).2 (by simpa using h1) (by simpa using h2) hk
theorem bindC_get {kindOf : Str → Option NameKind} {x : Str} {v : Value} : ∀ {P : List Str} {vs : List Value} {i : Nat} {m : Str → Option Value}, P.Nodup → P[i]? = some x → vs[i]? = some v → kindOf x ≠ some .local →
    bindC kindOf (P.zip vs) m x = some v
  | [], _, _, _, _, h, _, _ => by simp at h
  | _ :: _, [], _, _, _, _, h, _ => by simp at h
  | p :: P, w :: vs, 0, m, nd, h1, h2, hk => by
    simp at h1 h2; subst h1; subst h2
    show bindC kindOf ((p, w) :: P.zip vs) m p = _
    unfold bindC
    rw [bindC_out fun v hv => (List.nodup_cons.mp nd).1 (List.of_mem_zip hv).1, if_neg hk]
    simp
  | p :: P, w :: vs, i + 1, m, nd, h1, h2, hk => by
    show bindC kindOf ((p, w) :: P.zip vs) m x = _
    unfold bindC
    exact bindC_get (i := i) (List.nodup_cons.mp nd).2 (by simpa using h1) (by simpa using h2) hk

noncomputable def start (N : List Str) (vs : List V) : St := vs.map some ++ List.replicate (N.length - vs.length) none

noncomputable def cxOf (CX : CXT) (P : Program) (w : World) (K : PySem.W.Frag) (mg : Str → Option Value) (base : Heap) (N : List Str) (qual : Str) (scope : Scope) (f : Addr) (cd : Value) (A : Around) (outer : List Env) (s : Shared) (H : Hp) (E : XK) : Cx where
  prog := P
  w := w
  K := K
  mg := mg
  base := base
  A := A.deeper (envOfC qual scope s.heap.objs.size f cd)
  N := N
  s_0 := s
  H_0 := H
  env := envOfC qual scope s.heap.objs.size f cd
  outer := outer
  stack := envOfC qual scope s.heap.objs.size f cd :: outer
  ex := []
  calm := true
  fn := fun _ => true
  pn := []
  xe := fun e s' => wpAny (model P w) (A.deeper (envOfC qual scope s.heap.objs.size f cd)) (leaving (envOfC qual scope s.heap.objs.size f cd) e) (fun _ s'' => CX outer H s E e s'') (fun e' s'' => CX outer H s E e' s'') s'

theorem cell_has {sc : Scope} {n : Nat} {x : Str} (h : sc.names.lookup x = some .cell) : ∃ c, (cellsFrom n sc.names []).lookup x = some c := by
  have q := PySem.W.cellsFrom_some sc.names n [] (.inl h)
  exact Option.isSome_iff_exists.mp q

theorem inv_start {CX : CXT} {P : Program} {w : World} {K : PySem.W.Frag} {mg : Str → Option Value} {base : Heap} {N ps : List Str} {qual : Str} {scope : Scope} {f : Addr} {cd : Value} {A : Around} {outer : List Env} {s s1 : Shared} {H : Hp} {E : XK} {us : List Value} {vs : List V}
    (S : FnScope N ps scope) (hd : A.handled = none) (e0 : Env0 P w K mg base A outer s H) (hl : vs.length = ps.length) (r : Vals vs us)
    (x : InCallC s s.heap.objs.size (bindL (envOfC qual scope s.heap.objs.size f cd).kindOf (ps.zip us) fun _ => none) (cellsFrom (s.heap.objs.size + 1) scope.names []) (bindC (envOfC qual scope s.heap.objs.size f cd).kindOf (ps.zip us) fun _ => none) s1) :
    Inv (cxOf CX P w K mg base N qual scope f cd A outer s H E) [] (start N vs) H s1 := by
  have hpl : ps.length ≤ N.length := by have := congrArg List.length S.pre; rw [List.length_take] at this; omega
  obtain ⟨h1, tk, rfl, hk⟩ := x.done
  have noA : ∀ b : Addr, b ∉ (cxOf CX P w K mg base N qual scope f cd A outer s H E).ex := fun b z => absurd (show b ∈ ([] : List Addr) from z) (by simp)
  refine ⟨⟨e0.mod, S.kind, rfl, rfl, Nat.le_refl _, fun y z c h1 h2 => ?_, fun y hy => ?_, fun y c _ h => ?_, fun _ => hd, Around.frames_deeper e0.frames, .inr ⟨rfl, rfl⟩, fun b z => absurd z (noA b), e0.bs, e0.bsz, fun b _ _ => noA b, fun b z => absurd z (noA b), e0.funs, e0.frf⟩,
    rfl, e0.bare, Un.kept hk, ⟨_, x.toInCall.ns, fun i y v h1 h2 h3 => ?_⟩, fun y c h => ⟨_, x.cell y c h⟩, e0.hok.fresh (Nat.le_refl _), fun y c h => ?_, fun p hp => absurd (show p ∈ ([] : List (Addr × Obj)) from hp) (by simp), e0.hok.kept hk, ?_⟩
  · exact name_of_addr x.apart (PySem.mem_of_lookup h1) (PySem.mem_of_lookup h2)
  · have hy : scope.names.lookup y = some .cell ∨ scope.names.lookup y = some .free := hy
    rcases hy with hy | hy
    · exact cell_has hy
    · exact absurd rfl (S.nofree _ (PySem.mem_of_lookup hy))
  · exact Nat.le_of_lt (x.above y c (PySem.mem_of_lookup h))
  · have hi : i < vs.length := by
      unfold start at h2
      by_cases hi : i < vs.length
      · exact hi
      · rw [List.getElem?_append_right (by simpa using hi)] at h2
        rw [List.getElem?_replicate] at h2
        split at h2 <;> cases h2
    have ha : vs[i]? = some v := by
      unfold start at h2
      rw [List.getElem?_append_left (by simpa using hi), List.getElem?_map] at h2
      cases e : vs[i]? with
      | none => rw [e] at h2; cases h2
      | some a => rw [e] at h2; cases h2; rfl
    obtain ⟨u, hu, rv⟩ := r.get ha
    have hp : ps[i]? = some y := by
      rw [← S.pre, List.getElem?_take_of_lt (by omega)]; exact h1
    have ndP : ps.Nodup := by rw [← S.pre]; exact S.nd.sublist (List.take_sublist _ _)
    refine ⟨u, rv, ?_⟩
    rcases S.par y (List.mem_of_getElem? hp) with k | k
    · exact .inl ⟨k, bindL_get ndP hp hu k⟩
    · obtain ⟨c, e⟩ := cell_has (n := s.heap.objs.size + 1) k
      refine .inr ⟨.inl k, c, e, ?_⟩
      have q := x.cell y c e
      rw [bindC_get ndP hp hu (by show scope.names.lookup y ≠ _; rw [k]; decide)] at q
      exact q
  · exact e0.hok.fresh (Nat.le_of_lt (x.above y c (PySem.mem_of_lookup h)))
  · unfold start
    show _ = N.length
    rw [List.length_append, List.length_map, List.length_replicate]
    omega

theorem fn_of {CX : CXT} {P : Program} {w : World} {K : PySem.W.Frag} {mg : Str → Option Value} {base : Heap} {k : Nat} {f : Addr} {name qual : Str} {params : Arguments} {body : List Stmt} {scope : Scope} {dV kV doc pm cdv ct oc : Value} {an od : Option Addr}
    {osl : Array (Option Value)} {N ps : List Str} {sp : Sp} (lk : K.lookup f = some ⟨oc, od, .func (PySem.W.fnOf name qual params body scope dV kV doc pm an cdv ct), osl⟩) (hcd : PySem.W.codeIn K cdv qual = true) (S : FnScope N ps scope)
    (len : ∀ vs H Q E, sp vs H Q E → vs.length = ps.length)
    (hbody : ∀ (A : Around) (outer : List Env) (s : Shared) (H : Hp) (vs : List V) (Q : VK) (E : XK), Room k (A.deeper (envOfC qual scope s.heap.objs.size f cdv)) → sp vs H Q E →
      ∃ t, PSs (cxOf CX P w K mg base N qual scope f cdv A outer s H E) body t ∧ t { nx := fun _ H' => Q .non H', rt := Q } (start N vs) H) :
    FnOk P w K mg base CX (k + 1) f (PySem.W.fnOf name qual params body scope dV kV doc pm an cdv ct) ps sp := by
  refine ⟨len, fun A outer s H args us vs Q E hr e0 hb r hsp => ?_⟩
  have hl := len _ _ _ _ hsp
  have KX : K.In s.heap := e0.mod.kin.keeps fun b o e => (e0.bs b o e).1
  have lim : s.heap.NoLimit := e0.mod.nolimit.keeps fun b o e => (e0.bs b o e).1
  have hkind : ∀ y ∈ ps.zip us, scope.names.lookup y.1 = some .local ∨ (scope.names.lookup y.1 = some .cell ∧ ((cellsFrom (s.heap.objs.size + 1) scope.names []).lookup y.1).isSome = true) := fun ⟨n, v⟩ hy => by
    rcases S.par n (List.of_mem_zip hy).1 with q | q
    · exact .inl q
    · exact .inr ⟨q, PySem.W.cellsFrom_some _ _ _ (.inl q)⟩
  refine codeAny_call_function hr.depth (KX _ _ lk) rfl S.co S.gen rfl (PySem.W.codeRec_of KX hcd) (hb _ _ _ _ ?_)
  refine wpAny_newFunctionEnv_cells S.kind hkind fun env he s1 x => ?_
  subst he
  refine ⟨lim.keeps x.toInCall.keep, codeAny_func ?_⟩
  obtain ⟨t, ht, hq⟩ := hbody A outer s H vs Q E (hr.deeper _) hsp
  have I : Inv (cxOf CX P w K mg base N qual scope f cdv A outer s H E) [] (start N vs) H s1 := inv_start S hr.hd e0 hl r x
  refine wpAny_mono (ht [] s1 (start N vs) H _ I hq) (fun fl s' hs => ?_) fun e s' hs => hs
  have fin : ∀ {σ' : St} {H' : Hp} {v : V} {u : Value}, Inv (cxOf CX P w K mg base N qual scope f cdv A outer s H E) [] σ' H' s' → RelV v u → Q v H' → CE outer P w H s Q u s' :=
    fun {σ' H' v u} J rv q => ⟨v, H', J.os, J.bare, J.base, J.hok, rv, q⟩
  cases fl with
  | ret u =>
    obtain ⟨v, σ', H', J, rv, q⟩ := hs
    exact fin J rv q
  | next =>
    obtain ⟨σ', H', J, q⟩ := hs
    exact fin (v := V.non) (u := Value.none) J rfl q
  | brk =>
    obtain ⟨_, _, _, q⟩ := hs
    exact False.elim q
  | cont =>
    obtain ⟨_, _, _, q⟩ := hs
    exact False.elim q
end L2

namespace L2
open PySem PySem.Spec PyProof.Rows
section
variable {X : Cx} {x : Str} {p pos : Pos} {e : Expr} {es : List Expr} {t : TA} {id T : String} {r : List V → Hp → VK → Prop}

noncomputable def tCB (r : List V → Hp → VK → Prop) (t : TA) : TE := fun σ H Q => t σ H fun vs H1 => r vs H1 Q
theorem pe_callB (hc : CallR X (.builtin id) r) (hg : Gl X x) (hm : X.mg x = none) (hv : bootBuiltins x = some (.builtin id)) (ha : PA X (e :: es) t) (hn : autoParam (x ≠ "__name__") L2.au_dec._auto_1) (hdb : autoParam ((x == ("__debug__" : Str)) = false) L2.au_dec._auto_1)
    (he : autoParam (starEach (e :: es) X.env = (false, eval e X.env) :: starEach es X.env) L2.au_rfl._auto_1) (hpl : autoParam ((backTo pos (starEach es X.env)).any (·.1) = false) L2.au_rfl._auto_1) : PE X (.Call (.Name x p) (e :: es) [] pos) (tCB r t) := by
  intro pins s σ H Q I h
  refine wpAny_Call_Name_kw (ld_blt I hg hm hv ?_ hn hdb)
  refine PyProof.Rows.callWith_builtin1 (thn (ha pos pins s σ H _ I h) fun us s1 zz1 => ?_) he hpl
  obtain ⟨vs, H1, I1, r1, q1⟩ := zz1
  exact hc pins s1 σ H1 vs us Q I1 r1 q1
theorem pe_callTy (hc : CallR X (.type T) r) (hg : Gl X x) (hm : X.mg x = none) (hv : bootBuiltins x = some (.type T)) (ha : PA X (e :: es) t) (hn : autoParam (x ≠ "__name__") L2.au_dec._auto_1) (hdb : autoParam ((x == ("__debug__" : Str)) = false) L2.au_dec._auto_1)
    (he : autoParam (starEach (e :: es) X.env = (false, eval e X.env) :: starEach es X.env) L2.au_rfl._auto_1) (hpl : autoParam ((backTo pos (starEach es X.env)).any (·.1) = false) L2.au_rfl._auto_1) : PE X (.Call (.Name x p) (e :: es) [] pos) (tCB r t) := by
  intro pins s σ H Q I h
  refine wpAny_Call_Name_kw (ld_blt I hg hm hv ?_ hn hdb)
  refine PyProof.Rows.callWith_type1 (thn (ha pos pins s σ H _ I h) fun us s1 zz1 => ?_) he hpl
  obtain ⟨vs, H1, I1, r1, q1⟩ := zz1
  exact hc pins s1 σ H1 vs us Q I1 r1 q1
end
end L2

namespace HT
open PySem PyProof.Rows

section
open PySem.SeqAt
open PySem.AutoSeq1 (wpAny_loadPart')
open PySem.MeetsSeq PySem.MeetsSeq2 PySem.MeetsSeq3

end

section
variable {prog : Program} {w : World} {A : Around} {E : Value → Shared → Prop} {s : Shared}

theorem cat_tup {t b : Addr} {vs ws : List Value} {Q : Value → Shared → Prop} (ht : IsTup s.heap t vs.toArray) (hb : IsTup s.heap b ws.toArray) (hv : vs ≠ [])
    (h1 : ws = [] → Q (.ref t) s) (h2 : ws ≠ [] → Q (.ref s.heap.objs.size) { s with heap := s.heap.push { cls := .type "tuple", data := .seq (vs ++ ws).toArray } })
    (hsz : vs.length + ws.length ≤ sizeLine) : wpAny (model prog w) A (binaryOp .Add (.ref t) (.ref b)) Q E s := by
  obtain ⟨⟨cls, dd, data, sl⟩, ho, hc, n, hd⟩ := id ht
  obtain ⟨⟨cls2, dd2, data2, sl2⟩, ho2, hc2, n2, hd2⟩ := id hb
  simp only at hc hd hc2 hd2
  subst hc hd hc2 hd2
  have e : vs.toArray ++ ws.toArray = (vs ++ ws).toArray := by simp
  by_cases hw : ws = []
  · exact concat_meets ⟨_, ho, rfl⟩ ⟨_, ho2, rfl⟩ noFill_tuple_add seq_tuple_add PySem.F.slot_tuple_add PySem.F.entry_tuple_add (PySem.F.args_tuple_add_2 _ _)
      (tuple_addW1 t b vs.toArray ws.toArray n n2 dd dd2 sl sl2 (by simpa using hv) (by simp [hw])) ⟨ho, ho2, h1 hw⟩
  · refine concat_meets ⟨_, ho, rfl⟩ ⟨_, ho2, rfl⟩ noFill_tuple_add seq_tuple_add PySem.F.slot_tuple_add PySem.F.entry_tuple_add (PySem.F.args_tuple_add_2 _ _)
      (tuple_addW2 t b vs.toArray ws.toArray n n2 dd dd2 sl sl2 (by simpa using hv) (by simpa using hw) (by rw [List.size_toArray, List.size_toArray]; exact hsz)) ⟨ho, ho2, ?_⟩
    rw [e]
    exact h2 hw

noncomputable def sIx (n d : Nat) : Option Int → Nat
  | none => d
  | some v => if v < 0 then (v + (n : Int)).toNat else min v.toNat n
theorem sIx_none (n d : Nat) : sIx n d none = d := rfl
theorem sIx_nat (n d k : Nat) : sIx n d (some (k : Int)) = min k n := by
  show (if (k : Int) < 0 then ((k : Int) + (n : Int)).toNat else min (k : Int).toNat n) = min k n
  rw [if_neg (by omega), Int.toNat_natCast]
theorem sIx_le (n d : Nat) (hd : d ≤ n) (o : Option Int) : sIx n d o ≤ n := by
  cases o with
  | none => exact hd
  | some v =>
    show (if v < 0 then (v + (n : Int)).toNat else min v.toNat n) ≤ n
    by_cases hv : v < 0
    · rw [if_pos hv]; omega
    · rw [if_neg hv]; exact Nat.min_le_right _ _
theorem clip_eq (v : Int) (n d : Nat) : (if v < 0 then max (v + (n : Int)) 0 else min v (n : Int)) = ((sIx n d (some v) : Nat) : Int) := by
  show (if v < 0 then max (v + (n : Int)) 0 else min v (n : Int)) = (((if v < 0 then (v + (n : Int)).toNat else min v.toNat n) : Nat) : Int)
  by_cases hv : v < 0
  · simp only [if_pos hv]; omega
  · simp only [if_neg hv]; omega
theorem adjust_gen (lo hi : Option Int) (n : Nat) : Builtin.Slice.sliceAdjust lo hi 1 (n : Int) = (((sIx n 0 lo : Nat) : Int), ((sIx n n hi : Nat) : Int)) := by
  have h1 : ¬ ((1 : Int) < 0) := by omega
  unfold Builtin.Slice.sliceAdjust
  simp only [h1, if_false]
  refine Prod.ext ?_ ?_
  · cases lo with
    | none => rfl
    | some v => exact clip_eq v n 0
  · cases hi with
    | none => rfl
    | some v => exact clip_eq v n n
theorem places_gen (i j : Nat) : Builtin.Slice.slicePlaces (i : Int) (j : Int) 1 = j - i := by
  unfold Builtin.Slice.slicePlaces
  have h1 : (1 : Int) > 0 := by omega
  simp only [h1, if_true, Int.ediv_one]
  split <;> omega
theorem slicePart_ {v : Value} {o : Option Int} {Q : Option Int → Shared → Prop} (p : IsPart v o) (h : Q o s) : wpAny (model prog w) A (Builtin.Slice.slicePartIndex v) Q E s := by
  cases p with
  | none => exact slicePart_none h
  | int i t => exact slicePart_int h
theorem sliceApplied_gen {sl : Addr} {vl vu : Value} {lo hi : Option Int} {n : Nat} {Q : Int × Int × Nat → Shared → Prop} (hs : s.heap.IsSliceOf sl vl vu .none) (pl : IsPart vl lo) (pu : IsPart vu hi)
    (h : Q (((sIx n 0 lo : Nat) : Int), 1, sIx n n hi - sIx n 0 lo) s) : wpAny (model prog w) A (Builtin.Slice.sliceApplied (.ref sl) (pure (n : Int))) Q E s := by
  obtain ⟨os, hos, hcs, hds⟩ := id hs
  unfold Builtin.Slice.sliceApplied Builtin.Slice.sliceFields
  refine wpAny_bind (wpAny_bind (wpAny_field hos hds (x := vl) rfl (wpAny_bind (wpAny_field hos hds (x := vu) rfl (wpAny_bind (wpAny_field hos hds (x := .none) rfl (wpAny_pure ?_)))))))
  refine wpAny_bind (slicePart_none ?_)
  show wpAny _ _ (if ((1 : Int) == 0) = true then _ else _) _ _ s
  rw [if_neg (by decide)]
  refine wpAny_bind (slicePart_ pl (wpAny_bind (slicePart_ pu (wpAny_bind (wpAny_pure ?_)))))
  show wpAny _ _ (match Builtin.Slice.sliceAdjust lo hi 1 (n : Int) with | (lo, hi) => pure (lo, (1 : Int), Builtin.Slice.slicePlaces lo hi 1)) _ _ s
  rw [adjust_gen lo hi n]
  show wpAny _ _ (pure (((sIx n 0 lo : Nat) : Int), (1 : Int), Builtin.Slice.slicePlaces ((sIx n 0 lo : Nat) : Int) ((sIx n n hi : Nat) : Int) 1)) _ _ s
  rw [places_gen]
  exact wpAny_pure h
theorem pick_gen (xs : Array Value) (i k : Nat) : ((List.range k).filterMap fun (m : Nat) => xs[((i : Int) + (m : Int) * 1).toNat]?).toArray = ((xs.toList.drop i).take k).toArray := by
  have e : (fun (m : Nat) => xs[((i : Int) + (m : Int) * 1).toNat]?) = fun m => xs[i + m]? := by
    funext m
    have : ((i : Int) + (m : Int) * 1).toNat = i + m := by omega
    rw [this]
  rw [e]
  have := pick_run xs i k
  rw [List.filterMap_map] at this
  have e2 : ((fun x => xs[x]?) ∘ fun x => i + x) = fun m => xs[i + m]? := rfl
  rw [e2] at this
  rw [this]

theorem getItem_tuple_cut {t sl : Addr} {items : Array Value} {vl vu : Value} {lo hi : Option Int} {Q : Value → Shared → Prop} (ht : IsTup s.heap t items) (hs : s.heap.IsSliceOf sl vl vu .none) (pl : IsPart vl lo) (pu : IsPart vu hi)
    (hw : ¬ (sIx items.size 0 lo = 0 ∧ sIx items.size items.size hi = items.size))
    (h : Q (.ref s.heap.objs.size) { s with heap := s.heap.push { cls := .type "tuple", data := .seq ((items.toList.drop (sIx items.size 0 lo)).take (sIx items.size items.size hi - sIx items.size 0 lo)).toArray } })
    (hsz : items.size ≤ sizeLine) : wpAny (model prog w) A (getItem (.ref t) (.ref sl)) Q E s := by
  have htake : sizeOk (.seq ((items.toList.drop (sIx items.size 0 lo)).take (sIx items.size items.size hi - sIx items.size 0 lo)).toArray) := by
    show ((items.toList.drop (sIx items.size 0 lo)).take (sIx items.size items.size hi - sIx items.size 0 lo)).toArray.size ≤ sizeLine
    rw [List.size_toArray, List.length_take, List.length_drop, Array.length_toList]
    omega
  have hj : sIx items.size items.size hi ≤ items.size := sIx_le _ _ (Nat.le_refl _) hi
  obtain ⟨os, hos, hcs, hds⟩ := id hs
  have hTs : s.TypeIs (.ref sl) "slice" := ⟨os, hos, hcs⟩
  unfold getItem
  try with_reducible refine wpAny_holding ?_
  first | refine wpAny_bind (wpAny_pure ?_) | skip
  refine wpAny_bind (wpAny_sequenceKey ht.typeIs (by decide) ?_)
  refine wpAny_bind (wpAny_callSpecial?_slot (name := Str.ofString "__getitem__") ht.typeIs PyProof.Rows.slot_tuple_getitem
    (wpAny_call_entry PyProof.Rows.slot_tuple_getitem ht.typeIs entry_tuple_getitem ?_ (args_tuple_getitem _ _)))
  show wpAny _ _ (Builtin.Tuple.tupleItemsOf (.ref t) >>= _) _ _ s
  refine wpAny_bind (tupleItemsOf_ ht ?_)
  refine wpAny_bind (wpAny_typeOf hTs ?_)
  rw [if_pos (by decide)]
  refine wpAny_bind (sliceApplied_gen hs pl pu ?_)
  have hno : ¬ ((((sIx items.size 0 lo : Nat) : Int) == 0 && (1 : Int) == 1 && (sIx items.size items.size hi - sIx items.size 0 lo) == items.size) = true) := by
    intro q
    rw [Bool.and_eq_true, Bool.and_eq_true] at q
    have q1 : ((sIx items.size 0 lo : Nat) : Int) = 0 := eq_of_beq q.1.1
    have q2 : sIx items.size items.size hi - sIx items.size 0 lo = items.size := eq_of_beq q.2
    exact hw ⟨by omega, by omega⟩
  show wpAny _ _ (if (((sIx items.size 0 lo : Nat) : Int) == 0 && (1 : Int) == 1 && (sIx items.size items.size hi - sIx items.size 0 lo) == items.size) = true then _ else _) _ _ s
  rw [if_neg hno, pick_gen]
  first
    | exact wpAny_bind (m := Builtin.Tuple.tupleExact _) (wpAny_newObj_type (wpAny_pure ⟨_, rfl, wpAny_pure h⟩) htake)
    | exact wpAny_bind (m := Builtin.Tuple.tupleExact _) (wpAny_newObj_type (wpAny_bind (wpAny_pure (wpAny_pure ⟨_, rfl, wpAny_pure h⟩))) htake)
    | exact wpAny_bind (wpAny_bind (m := Builtin.Tuple.tupleExact _) (wpAny_newObj_type (wpAny_pure (wpAny_pure ⟨_, rfl, wpAny_pure h⟩)) htake))
    | exact wpAny_bind (wpAny_bind (m := Builtin.Tuple.tupleExact _) (wpAny_newObj_type (wpAny_pure ⟨_, rfl, wpAny_pure h⟩) htake))
end
end HT

namespace L2
open PySem PySem.Spec PyProof.Rows

noncomputable abbrev TO := St → Hp → (Option Int → Hp → Prop) → Prop
noncomputable def PO (X : Cx) (e : Option Expr) (t : TO) : Prop :=
  ∀ (pins : List (Addr × Obj)) (s : Shared) (σ : St) (H : Hp) (Q : Option Int → Hp → Prop), Inv X pins σ H s → t σ H Q →
    wpAny (model X.prog X.w) X.A (evalPart e X.env) (fun u s' => ∃ o H', Inv X pins σ H' s' ∧ IsPart u o ∧ Q o H') X.xe s
noncomputable def tNoPart : TO := fun _ H Q => Q none H
noncomputable def tPart (t : TE) : TO := fun σ H Q => t σ H fun x H1 => ∃ i, x = .int i ∧ Q (some i) H1

section
variable {X : Cx} {e : Expr} {te : TE} {lo hi : Option Expr} {tl th : TO} {pos p2 : Pos}

theorem po_none : PO X none tNoPart := by
  intro pins s σ H Q I h
  rw [evalPart_none]
  exact wpAny_pure ⟨none, H, I, .none, h⟩
theorem po_some (h : PE X e te) : PO X (some e) (tPart te) := by
  intro pins s σ H Q I hw
  rw [evalPart_some]
  refine thn (h pins s σ H _ I hw) fun u s1 zz1 => ?_
  obtain ⟨x, H1, I1, r1, q1⟩ := zz1
  obtain ⟨i, rfl, q⟩ := q1
  obtain ⟨t, rfl⟩ := r1
  exact ⟨some i, H1, I1, .int i t, q⟩

noncomputable def SlR (X : Cx) (r : V → Option Int → Option Int → Hp → VK → Prop) : Prop :=
  ∀ (pins : List (Addr × Obj)) (s : Shared) (σ : St) (H : Hp) (x : V) (v vl vu : Value) (lo hi : Option Int) (sl : Addr) (Q : VK), Inv X pins σ H s → RelV x v → s.heap.IsSliceOf sl vl vu .none → IsPart vl lo → IsPart vu hi → r x lo hi H Q →
    ∃ T id, typeLookup (.type T) "__getitem__" = pure (some (.builtin id)) ∧ s.TypeIs v T ∧ wpAny (model X.prog X.w) X.A (getItem v (.ref sl)) (EP X pins σ Q) X.xe s
noncomputable def tSl (r : V → Option Int → Option Int → Hp → VK → Prop) (te : TE) (tl th : TO) : TE := fun σ H Q => te σ H fun x H1 => tl σ H1 fun l H2 => th σ H2 fun u H3 => r x l u H3 Q
theorem pe_slice {r : V → Option Int → Option Int → Hp → VK → Prop} (hr : SlR X r) (he : PE X e te) (hl : PO X lo tl) (hu : PO X hi th) : PE X (.Subscript e (.Slice lo hi none p2) pos) (tSl r te tl th) := by
  intro pins s σ H Q I h
  refine Subscript_ (thn (he pins s σ H _ I h) fun v s1 zz1 => ?_)
  obtain ⟨x, H1, I1, r1, q1⟩ := zz1
  refine wpAny_Slice (thn (hl pins s1 σ H1 _ I1 q1) fun vl s2 zz1 => ?_)
  obtain ⟨l, H2, I2, pl, q2⟩ := zz1
  refine thn (hu pins s2 σ H2 _ I2 q2) fun vu s3 zz1 => ?_
  obtain ⟨u, H3, I3, pu, q3⟩ := zz1
  rw [evalPart_none]
  refine wpAny_pure ?_
  have I4 : Inv X pins σ H3 { s3 with heap := s3.heap.push { cls := .type "slice", data := .fields #[vl, vu, .none] } } := I3.kept (t' := s3.toks) fun b ob q => Heap.get?_push_of_some _ q
  obtain ⟨T, id, hT, ht, hg⟩ := hr pins { s3 with heap := s3.heap.push { cls := .type "slice", data := .fields #[vl, vu, .none] } } σ H3 x v vl vu l u s3.heap.objs.size Q I4 r1 (Heap.IsSliceOf.new ..) pl pu q3
  show wpAny (model X.prog X.w) X.A (subscriptTail e (.Slice lo hi none p2) v (.ref s3.heap.objs.size)) (EP X pins σ Q) X.xe { s3 with heap := s3.heap.push { cls := .type "slice", data := .fields #[vl, vu, .none] } }
  exact tail_any (ops := [.ref s3.heap.objs.size, v]) ht hT hg (by with_unfolding_all rfl)

noncomputable def cutV (xs : List V) (lo hi : Option Int) : List V := (xs.drop (HT.sIx xs.length 0 lo)).take (HT.sIx xs.length xs.length hi - HT.sIx xs.length 0 lo)
theorem cutV_length (xs : List V) (lo hi : Option Int) : (cutV xs lo hi).length ≤ xs.length := by
  unfold cutV
  rw [List.length_take, List.length_drop]
  omega
noncomputable def rSlT (K : PySem.W.Frag) : V → Option Int → Option Int → Hp → VK → Prop := fun x lo hi H Q => ∃ a xs, x = .ref a ∧ SqT K H a xs ∧
  ¬ (HT.sIx xs.length 0 lo = 0 ∧ HT.sIx xs.length xs.length hi = xs.length) ∧ ∀ p, H p = none → Q (.ref p) (upd H p (.tup (cutV xs lo hi)))
theorem sl_tup : SlR X (rSlT X.K) := by
  intro pins s σ H x v vl vu lo hi sl Q I rx hs pl pu h
  obtain ⟨a, xs, rfl, hx, hw, q⟩ := h
  cases rx
  obtain ⟨its, r, ht, hz⟩ := I.tuple hx
  have hlen : its.toArray.size = xs.length := by rw [List.size_toArray]; exact r.length.symm
  refine ⟨"tuple", _, PyProof.Rows.slot_tuple_getitem.lookup, ht.typeIs, ?_⟩
  refine HT.getItem_tuple_cut ht hs pl pu (by rw [hlen]; exact hw) ?_ (by rw [hlen]; exact hz)
  rw [hlen]
  refine ⟨.ref s.heap.objs.size, _, I.laid (t' := s.toks) (o := .tup (cutV xs lo hi)) (fun b ob q => Heap.get?_push_of_some _ q) (Nat.le_refl _) ?_, rfl, q _ (I.hok.fresh (Nat.le_refl _))⟩
  exact ⟨Nat.le_trans (cutV_length xs lo hi) hz, _, (r.drop (HT.sIx xs.length 0 lo)).take (HT.sIx xs.length xs.length hi - HT.sIx xs.length 0 lo), IsTup.new _ _⟩

noncomputable def rCatT (K : PySem.W.Frag) : R2 := fun x y H Q => ∃ a b xs ys, x = .ref a ∧ y = .ref b ∧ SqT K H a xs ∧ SqT K H b ys ∧ xs ≠ [] ∧ xs.length + ys.length ≤ sizeLine ∧
  (ys = [] → Q (.ref a) H) ∧ (ys ≠ [] → ∀ p, H p = none → Q (.ref p) (upd H p (.tup (xs ++ ys))))
theorem Vals.nil_iff {xs : List V} {us : List Value} (r : Vals xs us) : us = [] ↔ xs = [] := by
  cases r with
  | nil => simp
  | cons _ _ => simp
theorem op_catT : OpR X (binaryOp .Add) (rCatT X.K) := by
  intro pins s σ H x y v u Q I rx ry h
  obtain ⟨a, b, xs, ys, rfl, rfl, ha, hb, hx, hz, q1, q2⟩ := h
  cases rx
  cases ry
  obtain ⟨its, r1, p1, _⟩ := I.tuple ha
  obtain ⟨its2, r2, p2, _⟩ := I.tuple hb
  refine HT.cat_tup p1 p2 (fun z => hx (r1.nil_iff.mp z)) (fun z => ⟨.ref a, H, I, rfl, q1 (r2.nil_iff.mp z)⟩) (fun z => ?_) (by rw [← r1.length, ← r2.length]; exact hz)
  refine ⟨.ref s.heap.objs.size, _, I.laid (t' := s.toks) (o := .tup (xs ++ ys)) (fun b ob q => Heap.get?_push_of_some _ q) (Nat.le_refl _) ?_, rfl, q2 (fun w => z (r2.nil_iff.mpr w)) _ (I.hok.fresh (Nat.le_refl _))⟩
  exact ⟨by rw [List.length_append]; exact hz, _, r1.append r2, IsTup.new _ _⟩
end
end L2

namespace L2
open PySem PySem.Spec PyProof.Rows

noncomputable def ixN (n : Nat) (i : Int) : Option Nat := if 0 ≤ i then (if i < n then some i.toNat else none) else if -(n : Int) ≤ i then some (i + n).toNat else none
noncomputable def atI {α : Type} (xs : List α) (i : Int) : Option α := (ixN xs.length i).bind fun j => xs[j]?
theorem ixN_seq {n : Nat} {i : Int} {j : Nat} (h : ixN n i = some j) : seqIndex? i n = some j ∧ j < n ∧ -(n : Int) ≤ i ∧ i < n := by
  unfold ixN at h
  by_cases h0 : 0 ≤ i
  · rw [if_pos h0] at h
    by_cases h1 : i < n
    · rw [if_pos h1] at h
      have e : i.toNat = j := Option.some.inj h
      exact ⟨by rw [seqIndex_of h0 h1, e], by omega, by omega, h1⟩
    · rw [if_neg h1] at h; cases h
  · rw [if_neg h0] at h
    by_cases h1 : -(n : Int) ≤ i
    · rw [if_pos h1] at h
      have e : (i + n).toNat = j := Option.some.inj h
      exact ⟨by rw [seqIndex_neg (by omega) h1, e], by omega, h1, by omega⟩
    · rw [if_neg h1] at h; cases h
theorem atI_get {α : Type} {xs : List α} {i : Int} {v : α} (h : atI xs i = some v) : ∃ j, seqIndex? i xs.length = some j ∧ xs[j]? = some v ∧ j < xs.length ∧ -(xs.length : Int) ≤ i ∧ i < xs.length := by
  unfold atI at h
  cases e : ixN xs.length i with
  | none => rw [e] at h; cases h
  | some j =>
    rw [e] at h
    obtain ⟨h1, h2, h3, h4⟩ := ixN_seq e
    exact ⟨j, h1, h, h2, h3, h4⟩
theorem atI_nat {α : Type} {xs : List α} {j : Nat} {v : α} (h : xs[j]? = some v) : atI xs (j : Int) = some v := by
  have hj : j < xs.length := (List.getElem?_eq_some_iff.mp h).1
  have e : ixN xs.length (j : Int) = some j := by
    unfold ixN
    rw [if_pos (by omega), if_pos (by omega)]; simp
  unfold atI; rw [e]; exact h

noncomputable def PlainIx (b : Expr) : Prop := ∀ o i, subscripted b false o i = operate [o, i] (getItem o i)
noncomputable def IxR (X : Cx) (r : R2) : Prop :=
  ∀ (value slice : Expr) (pins : List (Addr × Obj)) (s : Shared) (σ : St) (H : Hp) (x y : V) (v u : Value) (Q : VK), Inv X pins σ H s → RelV x v → RelV y u → r x y H Q →
    subscripted slice false v u = operate [v, u] (getItem v u) → wpAny (model X.prog X.w) X.A (subscriptTail value slice v u) (EP X pins σ Q) X.xe s
noncomputable def MtR (X : Cx) (id : String) (r : V → List V → Hp → VK → Prop) : Prop :=
  ∀ (pins : List (Addr × Obj)) (s : Shared) (σ : St) (H : Hp) (x : V) (xs : List V) (v : Value) (us : List Value) (Q : VK), Inv X pins σ H s → RelV x v → Vals xs us → r x xs H Q →
    wpAny (model X.prog X.w) X.A (call (.builtin id) (v :: us)) (EP X pins σ Q) X.xe s
section
variable {X : Cx} {a b : Expr} {ta tb : TE} {pos : Pos}
theorem pe_ix {r : R2} (hr : IxR X r) (ha : PE X a ta) (hb : PE X b tb) (hs : PlainIx b) : PE X (.Subscript a b pos) (tOp r ta tb) := by
  intro pins s σ H Q I h
  exact Subscript_ (binT ha hb I h fun v u s2 x y H2 I2 rx ry q => hr a b pins s2 σ H2 x y v u Q I2 rx ry q (hs _ _))

noncomputable def rIxL (K : PySem.W.Frag) : R2 := fun x y H Q => ∃ p xs i v, x = .ref p ∧ y = .int i ∧ SqL K H p xs ∧ atI xs i = some v ∧ Q v H
noncomputable def rIxT (K : PySem.W.Frag) : R2 := fun x y H Q => ∃ p xs i v, x = .ref p ∧ y = .int i ∧ SqT K H p xs ∧ atI xs i = some v ∧ Q v H
theorem ix_list : IxR X (rIxL X.K) := by
  intro value slice pins s σ H x y v u Q I rx ry h hs
  obtain ⟨p, xs, i, z, rfl, rfl, hq, he, q⟩ := h
  cases rx
  obtain ⟨t, rfl⟩ := ry
  obtain ⟨its, r, pl, hz⟩ := I.list hq
  obtain ⟨j, h1, h2, h3, h4, h5⟩ := atI_get he
  obtain ⟨w, ew, rw'⟩ := r.get h2
  have hl := r.length
  have hn := line63
  have fin : EP X pins σ Q w s := ⟨z, H, I, rw', q⟩
  by_cases h0 : 0 ≤ i
  · have hj : i.toNat = j := by
      rw [seqIndex_of h0 h5] at h1
      exact Option.some.inj h1
    exact item_listR pl.isList h0 (by omega) (by rw [hj]; simpa using ew) fin hs
  · have hj : (i + (its.toArray.size : Int)).toNat = j := by
      rw [seqIndex_neg (by omega) h4] at h1
      rw [List.size_toArray, ← hl]
      exact Option.some.inj h1
    exact subscriptTail_builtinR (x := w) pl.isList.typeIs slot_list_getitem.lookup
      (wpAny_getItem_list_neg (Q := fun r s' => r = w ∧ EP X pins σ Q r s') pl.isList (by omega) (by rw [List.size_toArray] <;> omega) (by omega) (by rw [hj]; simpa using ew) ⟨rfl, fin⟩) hs
theorem ix_tup : IxR X (rIxT X.K) := by
  intro value slice pins s σ H x y v u Q I rx ry h hs
  obtain ⟨p, xs, i, z, rfl, rfl, hq, he, q⟩ := h
  cases rx
  obtain ⟨t, rfl⟩ := ry
  obtain ⟨its, r, pl, hz⟩ := I.tuple hq
  obtain ⟨j, h1, h2, h3, h4, h5⟩ := atI_get he
  obtain ⟨w, ew, rw'⟩ := r.get h2
  have hl := r.length
  have hn := line63
  have fin : EP X pins σ Q w s := ⟨z, H, I, rw', q⟩
  exact subscriptTail_builtinR (x := w) pl.typeIs slot_tuple_getitem.lookup
    (getItem_tuple (j := j) (Q := fun r s' => r = w ∧ EP X pins σ Q r s') pl (by omega) (by omega) (by rw [List.size_toArray, ← hl]; exact h1) (by simpa using ew) ⟨rfl, fin⟩) hs

theorem mapSeq_set (its : List Value) (n j : Nat) (u : Value) : Obj.mapSeq (·.setIfInBounds j u) { cls := .type "list", data := .seq its.toArray n } = { cls := .type "list", data := .seq (its.set j u).toArray n } := by
  simp [Obj.mapSeq]
theorem Inv.lst {pins : List (Addr × Obj)} {σ : St} {H : Hp} {s : Shared} {p : Addr} {xs : List V} (I : Inv X pins σ H s) (h : H p = some (.lst xs)) :
    ∃ (its : List Value) (n : Nat), Vals xs its ∧ s.heap.get? p = some { cls := .type "list", data := .seq its.toArray n } ∧ xs.length ≤ sizeLine := by
  obtain ⟨z, its, n, r, e⟩ := I.hok p _ h
  exact ⟨its, n, r, e, z⟩
theorem Inv.lstUpd {pins : List (Addr × Obj)} {σ : St} {H : Hp} {s : Shared} {p : Addr} {xs ys : List V} {its its' : List Value} {n n' : Nat} {f : Obj → Obj} (I : Inv X pins σ H s) (h : H p = some (.lst xs))
    (ho : s.heap.get? p = some { cls := .type "list", data := .seq its.toArray n }) (hf : f { cls := .type "list", data := .seq its.toArray n } = { cls := .type "list", data := .seq its'.toArray n' }) (r : Vals ys its') (hz : ys.length ≤ sizeLine) (t : Nat) :
    Inv X pins σ (upd H p (.lst ys)) { s with heap := s.heap.update p f, toks := t } := by
  have e : (s.heap.update p f).get? p = some { cls := .type "list", data := .seq its'.toArray n' } := by
    rw [Heap.get?_update_self f ho (by rw [hf] <;> rfl), hf]
  refine I.write (x := p) (e := p) (by rw [h]; trivial) (.inl rfl) (fun b u hb q => (Heap.get?_update_other _ _ (Ne.symm hb)).trans q) ⟨_, e⟩ ?_
  exact ⟨hz, its', n', r, e⟩
noncomputable def rSetL : V → V → V → Hp → (Hp → Prop) → Prop := fun o i v H Q => ∃ p xs k j, o = .ref p ∧ i = .int k ∧ H p = some (.lst xs) ∧ ixN xs.length k = some j ∧ Q (upd H p (.lst (xs.set j v)))
theorem set_list : PSet X rSetL := by
  intro pins s σ H o i v ov iv u Q I ro ri rv h
  obtain ⟨p, xs, k, j, rfl, rfl, hp, hj, q⟩ := h
  cases ro
  obtain ⟨t, rfl⟩ := ri
  obtain ⟨its, n, r, ho, hz⟩ := I.lst hp
  obtain ⟨h1, h2, h3, h4⟩ := ixN_seq hj
  have hl := r.length
  have hn := line63
  have I' : Inv X pins σ (upd H p (.lst (xs.set j v))) { s with heap := s.heap.update p (Obj.mapSeq (·.setIfInBounds j u)) } :=
    I.lstUpd hp ho (mapSeq_set its n j u) (r.set rv j) (by rw [List.length_set]; exact hz) s.toks
  by_cases h0 : 0 ≤ k
  · have hk : k.toNat = j := by
      rw [seqIndex_of h0 h4] at h1
      exact Option.some.inj h1
    exact PySem.W.ki_setAt ho h0 (by omega) (by rw [List.size_toArray, ← hl]; exact h4) (by rw [hk]; exact ⟨_, I', q⟩)
  · have hk : (k + (its.toArray.size : Int)).toNat = j := by
      rw [seqIndex_neg (by omega) h3] at h1
      rw [List.size_toArray, ← hl]
      exact Option.some.inj h1
    exact PySem.W.ki_setBack ho (by omega) (by rw [List.size_toArray, ← hl]; exact h3) (by omega) (by rw [hk]; exact ⟨_, I', q⟩)

theorem slice_bounds (lo hi : Option Int) (n : Nat) : (sliceBounds lo hi none n).1 = ((HT.sIx n 0 lo : Nat) : Int) ∧ (sliceBounds lo hi none n).2.1 = ((HT.sIx n n hi : Nat) : Int) ∧ (sliceBounds lo hi none n).2.2 = 1 := by
  refine ⟨?_, ?_, rfl⟩
  · cases lo with
    | none => simp [sliceBounds, HT.sIx]
    | some i =>
      simp only [sliceBounds, HT.sIx, Option.getD_none, show (1 : Int) > 0 by decide, if_true]
      by_cases h : i < 0
      · simp only [h, if_true] <;> omega
      · simp only [h, if_false] <;> omega
  · cases hi with
    | none => simp [sliceBounds, HT.sIx]
    | some i =>
      simp only [sliceBounds, HT.sIx, Option.getD_none, show (1 : Int) > 0 by decide, if_true]
      by_cases h : i < 0
      · simp only [h, if_true] <;> omega
      · simp only [h, if_false] <;> omega
theorem slicePick_cut (its : List Value) (lo hi : Option Int) : slicePick its.toArray lo hi none = ((its.drop (HT.sIx its.length 0 lo)).take (HT.sIx its.length its.length hi - HT.sIx its.length 0 lo)).toArray := by
  obtain ⟨h1, h2, h3⟩ := slice_bounds lo hi its.toArray.size
  unfold slicePick
  rw [h1, h2, h3]
  simp only [sliceRange_one, pick_run, List.size_toArray] <;> rfl
noncomputable def rSlL (K : PySem.W.Frag) : V → Option Int → Option Int → Hp → VK → Prop := fun x lo hi H Q => ∃ a xs, x = .ref a ∧ SqL K H a xs ∧ ∀ p, H p = none → Q (.ref p) (upd H p (.lst (cutV xs lo hi)))
theorem sl_list : SlR X (rSlL X.K) := by
  intro pins s σ H x v vl vu lo hi sl Q I rx hs pl pu h
  obtain ⟨a, xs, rfl, hx, q⟩ := h
  cases rx
  obtain ⟨its, r, ht, hz⟩ := I.list hx
  have hlen := r.length
  refine ⟨"list", _, slot_list_getitem.lookup, ht.isList.typeIs, ?_⟩
  refine wpAny_getItem_list_slice ht.isList hs pl pu .none (by simp) ?_ (by rw [List.size_toArray] <;> omega)
  rw [slicePick_cut, ← hlen]
  refine ⟨.ref s.heap.objs.size, _, I.laid (t' := s.toks) (o := .lst (cutV xs lo hi)) (fun b ob q => Heap.get?_push_of_some _ q) (Nat.le_refl _) ?_, rfl, q _ (I.hok.fresh (Nat.le_refl _))⟩
  exact ⟨Nat.le_trans (cutV_length xs lo hi) hz, _, 0, (r.drop (HT.sIx xs.length 0 lo)).take (HT.sIx xs.length xs.length hi - HT.sIx xs.length 0 lo), Heap.get?_push_size _ rfl⟩

noncomputable def flatV : V → Bool
  | .non => true
  | .bl _ => true
  | .int _ => true
  | .str _ => true
  | _ => false
noncomputable def eqV : V → V → Bool
  | .non, .non => true
  | .bl a, .bl b => a == b
  | .bl a, .int b => (if a then 1 else 0) == b
  | .int a, .bl b => a == (if b then 1 else 0)
  | .int a, .int b => a == b
  | .str a, .str b => a == b
  | _, _ => false
theorem eqAt_V {A : Around} {s : Shared} {y x : V} {u v : Value} (ry : RelV y u) (rx : RelV x v) (fy : flatV y = true) (fx : flatV x = true) : SeqAt.EqAt A s u v (eqV y x) := by
  cases y with
  | non =>
    cases ry
    cases x with
    | non => cases rx; exact SeqAt.EqAt.same _
    | bl b => cases rx; exact SeqAt.EqAt.none_bool b
    | int b => obtain ⟨t, rfl⟩ := rx; exact SeqAt.EqAt.none_int b t
    | str b => obtain ⟨t, rfl⟩ := rx; exact SeqAt.EqAt.none_str b t
    | _ => exact absurd (show false = true from fx) Bool.false_ne_true
  | bl a =>
    cases ry
    cases x with
    | non => cases rx; exact SeqAt.EqAt.bool_none a
    | bl b => cases rx; exact SeqAt.EqAt.bool_bool a b
    | int b => obtain ⟨t, rfl⟩ := rx; exact SeqAt.EqAt.bool_int a b t
    | str b => obtain ⟨t, rfl⟩ := rx; exact SeqAt.EqAt.bool_str a b t
    | _ => exact absurd (show false = true from fx) Bool.false_ne_true
  | int a =>
    obtain ⟨t', rfl⟩ := ry
    cases x with
    | non => cases rx; exact SeqAt.EqAt.int_none a t'
    | bl b => cases rx; exact SeqAt.EqAt.int_bool a t' b
    | int b => obtain ⟨t, rfl⟩ := rx; exact SeqAt.EqAt.int_int a t' b t
    | str b => obtain ⟨t, rfl⟩ := rx; exact SeqAt.EqAt.int_str a t' b t
    | _ => exact absurd (show false = true from fx) Bool.false_ne_true
  | str a =>
    obtain ⟨t', rfl⟩ := ry
    cases x with
    | non => cases rx; exact SeqAt.EqAt.str_none a t'
    | bl b => cases rx; exact SeqAt.EqAt.str_bool a t' b
    | int b => obtain ⟨t, rfl⟩ := rx; exact SeqAt.EqAt.str_int a t' b t
    | str b => obtain ⟨t, rfl⟩ := rx; exact SeqAt.EqAt.str_str a t' b t
    | _ => exact absurd (show false = true from fx) Bool.false_ne_true
  | _ => exact absurd (show false = true from fy) Bool.false_ne_true
noncomputable def eqU (x : V) (u : Value) : Bool := match u with
  | .none => eqV .non x
  | .bool b => eqV (.bl b) x
  | .int i _ => eqV (.int i) x
  | .str z _ => eqV (.str z) x
  | _ => false
theorem eqU_of {x y : V} {u : Value} (r : RelV y u) (f : flatV y = true) : eqU x u = eqV y x := by
  cases y with
  | non => cases r; rfl
  | bl b => cases r; rfl
  | int i => obtain ⟨t, rfl⟩ := r; rfl
  | str z => obtain ⟨t, rfl⟩ := r; rfl
  | _ => exact absurd (show false = true from f) Bool.false_ne_true
theorem any_eqU {x : V} : ∀ {xs : List V} {us : List Value}, Vals xs us → xs.all flatV = true → us.any (eqU x) = xs.any fun y => eqV y x
  | _, _, .nil, _ => rfl
  | y :: xs, u :: us, .cons r t, f => by
    rw [List.all_cons, Bool.and_eq_true] at f
    rw [List.any_cons, List.any_cons, eqU_of r f.1, any_eqU t f.2]
theorem mem_eqAt {A : Around} {s : Shared} {x : V} {v : Value} (rx : RelV x v) (fx : flatV x = true) : ∀ {xs : List V} {us : List Value}, Vals xs us → xs.all flatV = true → ∀ u ∈ us, SeqAt.EqAt A s u v (eqU x u)
  | _, _, .nil, _ => fun u hu => by cases hu
  | y :: xs, u :: us, .cons r t, f => fun u' hu => by
    rw [List.all_cons, Bool.and_eq_true] at f
    rcases List.mem_cons.mp hu with rfl | hu
    · rw [eqU_of r f.1]; exact eqAt_V r rx f.1 fx
    · exact mem_eqAt rx fx t f.2 u' hu
noncomputable def inV (x : V) (xs : List V) : Bool := xs.any fun y => eqV y x
noncomputable def rIn (K : PySem.W.Frag) (neg : Bool) : R2 := fun x y H Q => ∃ p xs, y = .ref p ∧ (SqL K H p xs ∨ SqT K H p xs) ∧ flatV x = true ∧ xs.all flatV = true ∧ Q (.bl (if neg then !inV x xs else inV x xs)) H
theorem op_in_seq : OpR X (compareOp .In) (rIn X.K false) := by
  intro pins s σ H x y v u Q I rx ry h
  obtain ⟨p, xs, rfl, hq, fx, fs, q⟩ := h
  cases ry
  rcases hq with hq | hq
  · obtain ⟨its, r, pl, hz⟩ := I.list hq
    refine SeqAt.in_listAt (eqU x) pl.isList (fun w hw => mem_eqAt rx fx r fs w (by simpa using hw)) ⟨.bl _, H, I, rfl, ?_⟩
    rw [show its.toArray.any (eqU x) = its.any (eqU x) by simp, any_eqU r fs]
    exact q
  · obtain ⟨its, r, pl, hz⟩ := I.tuple hq
    refine SeqAt.in_tupleAt (eqU x) pl (fun w hw => mem_eqAt rx fx r fs w (by simpa using hw)) ⟨.bl _, H, I, rfl, ?_⟩
    rw [show its.toArray.any (eqU x) = its.any (eqU x) by simp, any_eqU r fs]
    exact q
theorem op_notIn_seq : OpR X (compareOp .NotIn) (rIn X.K true) := by
  intro pins s σ H x y v u Q I rx ry h
  obtain ⟨p, xs, rfl, hq, fx, fs, q⟩ := h
  cases ry
  rcases hq with hq | hq
  · obtain ⟨its, r, pl, hz⟩ := I.list hq
    refine SeqAt.notIn_listAt (eqU x) pl.isList (fun w hw => mem_eqAt rx fx r fs w (by simpa using hw)) ⟨.bl _, H, I, rfl, ?_⟩
    rw [show its.toArray.any (eqU x) = its.any (eqU x) by simp, any_eqU r fs]
    exact q
  · obtain ⟨its, r, pl, hz⟩ := I.tuple hq
    refine SeqAt.notIn_tupleAt (eqU x) pl (fun w hw => mem_eqAt rx fx r fs w (by simpa using hw)) ⟨.bl _, H, I, rfl, ?_⟩
    rw [show its.toArray.any (eqU x) = its.any (eqU x) by simp, any_eqU r fs]
    exact q

theorem call_len_seq : CallR X (.builtin "len") (fun xs H Q => ∃ p ys, xs = [.ref p] ∧ (SqL X.K H p ys ∨ SqT X.K H p ys) ∧ Q (.int ys.length) H) := by
  intro pins s σ H xs us Q I r h
  obtain ⟨p, ys, rfl, hq, q⟩ := h
  obtain ⟨u, rfl, rx⟩ := vals1 r
  cases rx
  have hn := line63
  rcases hq with hq | hq
  · obtain ⟨its, r', pl, hz⟩ := I.list hq
    have hlen := r'.length
    exact Calls.call_len_list pl.isList (by simp only [List.size_toArray] <;> omega) ⟨.int ys.length, H, I.tok _, ⟨s.toks + 1, by rw [List.size_toArray, hlen]⟩, q⟩
  · obtain ⟨its, r', pl, hz⟩ := I.tuple hq
    have hlen := r'.length
    exact len_tuple pl (by simp only [List.size_toArray] <;> omega) ⟨.int ys.length, H, I.tok _, ⟨s.toks + 1, by rw [List.size_toArray, hlen]⟩, q⟩
theorem call_list_of : CallR X (.type "list") (fun xs H Q => ∃ p ys, xs = [.ref p] ∧ (SqL X.K H p ys ∨ SqT X.K H p ys) ∧ ∀ l, H l = none → Q (.ref l) (upd H l (.lst ys))) := by
  intro pins s σ H xs us Q I r h
  obtain ⟨p, ys, rfl, hq, q⟩ := h
  obtain ⟨u, rfl, rx⟩ := vals1 r
  cases rx
  have fin : ∀ (its : List Value), Vals ys its → ys.length ≤ sizeLine → ∀ (h' : Heap) (c' : Nat), (∀ b o', s.heap.get? b = some o' → h'.get? b = some o') →
      h'.get? s.heap.objs.size = some { cls := .type "list", dict := none, data := .seq its.toArray c', slots := #[] } → EP X pins σ Q (.ref s.heap.objs.size) { s with heap := h' } := fun its r' hz h' c' kp e =>
    ⟨.ref s.heap.objs.size, _, I.laid (t' := s.toks) kp (Nat.le_refl _) (show ObjOk X.prog X.w _ h' _ (.lst ys) from ⟨hz, its, c', r', e⟩), rfl, q _ (I.hok.fresh (Nat.le_refl _))⟩
  rcases hq with hq | hq
  · obtain ⟨its, r', pl, hz⟩ := I.list hq
    have hlen := r'.length
    obtain ⟨o, ho, hc, n, hd⟩ := pl.isList
    exact call_list_seq p (.inl rfl) ho hc hd (fun h' c' kp e => fin its r' hz h' c' kp e) (by simp only [List.size_toArray] <;> omega)
  · obtain ⟨its, r', pl, hz⟩ := I.tuple hq
    have hlen := r'.length
    obtain ⟨o, ho, hc, n, hd⟩ := pl
    exact call_list_seq p (.inr rfl) ho hc hd (fun h' c' kp e => fin its r' hz h' c' kp e) (by simp only [List.size_toArray] <;> omega)
theorem call_tuple_of : CallR X (.type "tuple") (fun xs H Q => ∃ p ys, xs = [.ref p] ∧ ((SqL X.K H p ys ∧ ∀ l, H l = none → Q (.ref l) (upd H l (.tup ys))) ∨ (SqT X.K H p ys ∧ Q (.ref p) H))) := by
  intro pins s σ H xs us Q I r h
  obtain ⟨p, ys, rfl, h⟩ := h
  obtain ⟨u, rfl, rx⟩ := vals1 r
  cases rx
  rcases h with ⟨hq, q⟩ | ⟨hq, q⟩
  · obtain ⟨its, r', pl, hz⟩ := I.list hq
    have hlen := r'.length
    refine call_tuple_list pl.isList (fun h' kp => ?_) (by simp only [List.size_toArray] <;> omega)
    have I1 : Inv X pins σ H { s with heap := h' } := I.kept (t' := s.toks) kp
    have I2 : Inv X pins σ (upd H h'.objs.size (.tup ys)) { s with heap := h'.push { cls := .type "tuple", data := .seq its.toArray } } :=
      I1.laid (t' := s.toks) (fun b o e => Heap.get?_push_of_some _ e) (Nat.le_refl _) (show ObjOk X.prog X.w _ _ _ (.tup ys) from ⟨hz, its, r', IsTup.new _ _⟩)
    exact ⟨.ref h'.objs.size, _, I2, rfl, q _ (I1.hok.fresh (Nat.le_refl _))⟩
  · obtain ⟨its, r', pl, hz⟩ := I.tuple hq
    exact call_tuple_same pl ⟨.ref p, H, I, rfl, q⟩

noncomputable def tyV (K : PySem.W.Frag) (T : String) (x : V) (H : Hp) : Prop := match x with
  | .str _ => T = "str"
  | .int _ => T = "int"
  | .ref p => (T = "list" ∧ ∃ xs, SqL K H p xs) ∨ (T = "tuple" ∧ ∃ o, K.lookup p = some o ∧ o.cls = .type "tuple" ∧ o.dict = none) ∨
      (T = "dict" ∧ ((∃ kvs, H p = some (.dK kvs)) ∨ (∃ kvs, H p = some (.dT kvs)) ∨ ∃ kvs, H p = some (.dG kvs))) ∨ (T = "set" ∧ ∃ S n, H p = some (.set S n))
  | _ => False
theorem tyV_is {pins : List (Addr × Obj)} {σ : St} {H : Hp} {s : Shared} {T : String} {x : V} {v : Value} (I : Inv X pins σ H s) (r : RelV x v) (ty : tyV X.K T x H) :
    s.TypeIs v T ∧ ∀ a, v = .ref a → ∃ ob, s.heap.get? a = some ob ∧ ob.dict = none := by
  cases x with
  | str z =>
    obtain ⟨t, rfl⟩ := r
    cases (show T = "str" from ty)
    exact ⟨typeIs_str s z t, fun _ e => nomatch e⟩
  | int i =>
    obtain ⟨t, rfl⟩ := r
    cases (show T = "int" from ty)
    exact ⟨typeIs_int s i t, fun _ e => nomatch e⟩
  | ref p =>
    cases r
    rcases ty with ⟨rfl, xs, hq⟩ | ⟨rfl, o, hk, hc, hd⟩ | ⟨rfl, hk⟩ | ⟨rfl, S, n, hk⟩
    · obtain ⟨its, _, pl, _⟩ := I.list hq
      refine ⟨pl.isList.typeIs, fun a e => ?_⟩
      cases e
      obtain ⟨o, n, e, c, hd, _⟩ := pl
      exact ⟨o, e, hd⟩
    · refine ⟨⟨o, I.kIn p o hk, hc⟩, fun a e => ?_⟩
      cases e
      exact ⟨o, I.kIn _ o hk, hd⟩
    · have z : ∃ o, s.heap.get? p = some o ∧ o.ExactDict := by
        rcases hk with ⟨kvs, hk⟩ | ⟨kvs, hk⟩ | ⟨kvs, hk⟩
        · obtain ⟨_, _, _, _, o, _, _, e, ex, _⟩ := I.hok p _ hk
          exact ⟨o, e, ex⟩
        · obtain ⟨_, _, _, _, o, _, _, e, ex, _⟩ := I.hok p _ hk
          exact ⟨o, e, ex⟩
        · obtain ⟨_, _, _, _, o, _, _, e, ex, _⟩ := I.hok p _ hk
          exact ⟨o, e, ex⟩
      obtain ⟨o, e, ex⟩ := z
      refine ⟨⟨o, e, ex.1⟩, fun a e2 => ?_⟩
      cases e2
      exact ⟨o, e, ex.2.1⟩
    · obtain ⟨o, _, _, _, e, ex, _⟩ := I.hok p _ hk
      refine ⟨⟨o, e, ex.1⟩, fun a e2 => ?_⟩
      cases e2
      exact ⟨o, e, ex.2.1⟩
  | _ => exact False.elim ty
noncomputable def tBM0 (K : PySem.W.Frag) (T : String) (r : V → List V → Hp → VK → Prop) (to : TE) : TE := fun σ H Q => to σ H fun x H1 => tyV K T x H1 ∧ r x [] H1 Q
noncomputable def tBM (K : PySem.W.Frag) (T : String) (r : V → List V → Hp → VK → Prop) (to : TE) (t : TA) : TE := fun σ H Q => to σ H fun x H1 => tyV K T x H1 ∧ t σ H1 fun xs H2 => r x xs H2 Q
variable {o e : Expr} {es : List Expr} {to : TE} {t : TA} {name : Str} {apos cpos : Pos} {T id : String} {r : V → List V → Hp → VK → Prop}
theorem pe_bm0 (pa : PlainAttrs T) (slot : Slot T name id) (hty : typeOf (.builtin id) = pure (.type "method_descriptor")) (hm : MtR X id r) (ho : PE X o to)
    (hbase : autoParam (attributeBase o name X.env (eval o X.env) = eval o X.env) L2.au_rfl._auto_1) (hline : autoParam ((apos.endLine == cpos.line) = true) L2.au_rfl._auto_1) : PE X (.Call (.Attribute o name apos) [] [] cpos) (tBM0 X.K T r to) := by
  intro pins s σ H Q I h
  refine wpAny_Call_method0_late hbase hline (thn (ho pins s σ H _ I h) fun v s1 zz1 => ?_)
  obtain ⟨x, H1, I1, r1, ty, q1⟩ := zz1
  obtain ⟨h1, h2⟩ := tyV_is I1 r1 ty
  exact ⟨T, id, pa, slot, hty, h1, h2, Calls.callWith_builtin rfl (PySem.evalArgs_none (hm pins s1 σ H1 x [] v [] Q I1 r1 .nil q1))⟩
theorem pe_bm (pa : PlainAttrs T) (slot : Slot T name id) (hty : typeOf (.builtin id) = pure (.type "method_descriptor")) (hm : MtR X id r) (ho : PE X o to) (ha : PA X (e :: es) t)
    (hbase : autoParam (attributeBase o name X.env (eval o X.env) = eval o X.env) L2.au_rfl._auto_1)
    (hfew : ((backTo cpos (starEach (e :: es) X.env)).all (fun x => !x.1) && (backToKw cpos (keywordEach [] X.env)).all (fun x => x.1.isSome)
      && decide ((e :: es).length + ([] : List Keyword).length + (if ([] : List Keyword).isEmpty then 0 else 1) < 30)) = true := by rfl)
    (hline : autoParam ((apos.endLine == cpos.line) = true) L2.au_rfl._auto_1) (hs : autoParam (starEach (e :: es) X.env = (false, eval e X.env) :: starEach es X.env) L2.au_rfl._auto_1) (hplain : autoParam ((backTo cpos (starEach es X.env)).any (·.1) = false) L2.au_rfl._auto_1) :
    PE X (.Call (.Attribute o name apos) (e :: es) [] cpos) (tBM X.K T r to t) := by
  intro pins s σ H Q I h
  refine wpAny_Call_method_late hbase hfew hline rfl (thn (ho pins s σ H _ I h) fun v s1 zz1 => ?_)
  obtain ⟨x, H1, I1, r1, ty, q1⟩ := zz1
  obtain ⟨h1, h2⟩ := tyV_is I1 r1 ty
  refine ⟨T, id, pa, slot, hty, h1, h2, ?_⟩
  have hA := ha cpos pins s1 σ H1 _ I1 q1
  rw [hs] at hA ⊢
  refine Calls.callWith_builtin (by show (false || (backTo cpos (starEach es X.env)).any (·.1)) = false; rw [hplain] <;> rfl) (Calls.evalArgs_plain ?_)
  refine thn hA fun us s2 zz1 => ?_
  obtain ⟨vs, H2, I2, r2, q2⟩ := zz1
  exact hm pins s2 σ H2 x vs v us Q I2 r1 r2 q2
/- xs.append(e), list.index on a module's tuple .. are MtR facts of 06m -/
end
end L2

namespace L2
open PySem PySem.Spec PyProof.Rows

noncomputable def MtM (X : Cx) (id : String) (r : V → List V → Hp → VK → Prop) : Prop :=
  ∀ (pins : List (Addr × Obj)) (s : Shared) (σ : St) (H : Hp) (x : V) (xs : List V) (v : Value) (us : List Value) (Q : VK), Inv X pins σ H s → RelV x v → Vals xs us → r x xs H Q →
    wpAny (model X.prog X.w) X.A (call (.builtin id) (v :: us)) (EP X pins σ Q) X.xe s

theorem Vals.one : ∀ {x : V} {us : List Value}, Vals [x] us → ∃ u, us = [u] ∧ RelV x u := by
  intro x us h
  cases h with
  | cons r t =>
    cases t
    exact ⟨_, rfl, r⟩
theorem Vals.zero : ∀ {us : List Value}, Vals [] us → us = []
  | _, .nil => rfl
theorem Vals.dropLast {xs : List V} {us : List Value} (h : Vals xs us) : Vals xs.dropLast us.dropLast := by
  induction h with
  | nil => exact .nil
  | cons r t ih =>
    cases t with
    | nil => exact .nil
    | cons q t' => exact .cons r ih
theorem Vals.rep {xs : List V} {us : List Value} (h : Vals xs us) : ∀ k : Nat, Vals (List.replicate k xs).flatten (List.replicate k us).flatten
  | 0 => .nil
  | k + 1 => by
    rw [List.replicate_succ, List.replicate_succ, List.flatten_cons, List.flatten_cons]
    exact Vals.append h (Vals.rep h k)
theorem erase_last {α : Type} (l : List α) : l.eraseIdx (l.length - 1) = l.dropLast := by
  induction l with
  | nil => rfl
  | cons a r ih =>
    cases r with
    | nil => rfl
    | cons b r =>
      have e : (a :: b :: r).length - 1 = ((b :: r).length - 1) + 1 := by
        have h1 : (a :: b :: r).length = r.length + 2 := rfl
        have h2 : (b :: r).length = r.length + 1 := rfl
        omega
      rw [e, List.eraseIdx_cons_succ, ih]
      all_goals rfl
theorem foldl_rep (its : List Value) : ∀ (k : Nat) (acc : List Value),
    List.foldl (fun x1 x2 => x1 ++ x2) acc.toArray (List.replicate k its.toArray) = (acc ++ (List.replicate k its).flatten).toArray
  | 0, acc => by simp
  | k + 1, acc => by
    have e : acc.toArray ++ its.toArray = (acc ++ its).toArray := by simp
    have e2 : (acc ++ its) ++ (List.replicate k its).flatten = acc ++ (List.replicate (k + 1) its).flatten := by
      rw [List.replicate_succ, List.flatten_cons, List.append_assoc]
    rw [← e2, ← foldl_rep its k (acc ++ its), ← e, List.replicate_succ, List.foldl_cons]

section
variable {X : Cx} {pins : List (Addr × Obj)} {σ : St} {H : Hp} {s : Shared} {l b : Addr} {xs ys zs : List V}

theorem Inv.lset {its its' : List Value} {n : Nat} {f : Array Value → Array Value} {t' : Nat} (I : Inv X pins σ H s) (hH : H l = some (.lst xs))
    (e : s.heap.get? l = some { cls := .type "list", data := .seq its.toArray n }) (hf : f its.toArray = its'.toArray) (hv : Vals ys its') (hz : ys.length ≤ sizeLine) :
    Inv X pins σ (upd H l (.lst ys)) { s with heap := s.heap.update l (Obj.mapSeq f), toks := t' } := by
  have q := PySem.IsL.update e f
  rw [hf] at q
  refine I.write (x := l) (e := l) (by rw [hH]; exact trivial) (.inl rfl) (fun b' u hb hu => (Heap.get?_update_other s.heap (Obj.mapSeq f) (Ne.symm hb)).trans hu) ⟨_, q⟩ ?_
  exact ⟨hz, its', _, hv, q⟩
theorem Inv.lnew {its : List Value} {t' : Nat} (I : Inv X pins σ H s) (hv : Vals ys its) (hz : ys.length ≤ sizeLine) :
    Inv X pins σ (upd H s.heap.objs.size (.lst ys)) { s with heap := s.heap.push { cls := .type "list", data := .seq its.toArray }, toks := t' } :=
  I.laid (fun _ _ q => Heap.get?_push_of_some _ q) (Nat.le_refl _) ⟨hz, its, 0, hv, Heap.get?_push_size _ rfl⟩
theorem Inv.fresh (I : Inv X pins σ H s) : H s.heap.objs.size = none := I.hok.fresh (Nat.le_refl _)
theorem Inv.lstM (I : Inv X pins σ H s) (hH : H l = some (.lst xs)) : xs.length ≤ sizeLine ∧ ∃ (its : List Value) (n : Nat), Vals xs its ∧ xs.length = its.length ∧ s.heap.get? l = some { cls := .type "list", data := .seq its.toArray n } := by
  obtain ⟨z, its, n, r, e⟩ := I.hok l _ hH
  exact ⟨z, its, n, r, r.length, e⟩

theorem notLongL {n : Nat} (h : n ≤ sizeLine) : Builtin.List.listTooLong n = false := by
  unfold Builtin.List.listTooLong
  exact decide_eq_false (by omega)
end

section
variable {X : Cx}

noncomputable def rAppend : V → List V → Hp → VK → Prop := fun x vs H Q => ∃ l xs y, x = .ref l ∧ vs = [y] ∧ H l = some (.lst xs) ∧ xs.length < sizeLine ∧ Q .non (upd H l (.lst (xs ++ [y])))
theorem mt_append : MtM X "list.append" rAppend := by
  intro pins s σ H x vs v us Q I rx rv h
  obtain ⟨l, xs, y, rfl, rfl, hH, hz, q⟩ := h
  cases rx
  obtain ⟨u, rfl, ru⟩ := rv.one
  obtain ⟨z, its, n, r, hl, e⟩ := I.lstM hH
  refine call_meets F.slot_list_append ⟨_, e, rfl⟩ F.entry_list_append (F.args_list_append_2 _ _) (PySem.list_append l its.toArray n u (by rw [List.size_toArray]; omega)) ⟨e, ?_⟩
  refine ⟨.non, _, I.lset (its' := its ++ [u]) hH e (by simp) (r.append (.cons ru .nil)) ?_, rfl, q⟩
  rw [List.length_append, List.length_singleton]
  omega

noncomputable def rExtend : V → List V → Hp → VK → Prop := fun x vs H Q => ∃ l b xs zs, x = .ref l ∧ vs = [.ref b] ∧ H l = some (.lst xs) ∧ H b = some (.lst zs) ∧ xs.length + zs.length ≤ sizeLine ∧ Q .non (upd H l (.lst (xs ++ zs)))
theorem mt_extend : MtM X "list.extend" rExtend := by
  intro pins s σ H x vs v us Q I rx rv h
  obtain ⟨l, b, xs, zs, rfl, rfl, hH, hB, hz, q⟩ := h
  cases rx
  obtain ⟨u, rfl, ru⟩ := rv.one
  cases ru
  obtain ⟨z, its, n, r, hl, e⟩ := I.lstM hH
  obtain ⟨z2, its2, n2, r2, hl2, e2⟩ := I.lstM hB
  have hsz : its.toArray.size + its2.toArray.size ≤ sizeLine := by rw [List.size_toArray, List.size_toArray]; omega
  have hlong : ¬ (!its.toArray.isEmpty && Builtin.List.listTooLong (its.toArray.size + its2.toArray.size)) = true := by
    rw [notLongL hsz, Bool.and_false]
    exact Bool.false_ne_true
  refine call_meets F.slot_list_extend ⟨_, e, rfl⟩ F.entry_list_extend (F.args_list_extend_2 _ _)
    (AutoSeq1.list_extend_list_list_0 l its.toArray n b its2.toArray n2 hlong (by rw [List.size_toArray]; omega) (by omega)) ⟨e, e2, ?_⟩
  refine ⟨.non, _, I.lset (its' := its ++ its2) hH e (by simp) (r.append r2) ?_, rfl, q⟩
  rw [List.length_append]
  omega

noncomputable def rPop : V → List V → Hp → VK → Prop := fun x vs H Q => ∃ l xs y, x = .ref l ∧ vs = [] ∧ H l = some (.lst xs) ∧ xs[xs.length - 1]? = some y ∧ Q y (upd H l (.lst xs.dropLast))
theorem mt_pop : MtM X "list.pop" rPop := by
  intro pins s σ H x vs v us Q I rx rv h
  obtain ⟨l, xs, y, rfl, rfl, hH, hy, q⟩ := h
  cases rx
  have hus := rv.zero
  subst hus
  obtain ⟨z, its, n, r, hl, e⟩ := I.lstM hH
  obtain ⟨u, hu, ru⟩ := r.get hy
  have hy' : its.toArray[its.toArray.size - 1]? = some u := by
    show its.toArray[its.length - 1]? = some u
    rw [← Array.getElem?_toList, ← hl]
    exact hu
  refine call_meets F.slot_list_pop ⟨_, e, rfl⟩ F.entry_list_pop (F.args_list_pop_1 _) (MeetsSeq.list_pop_last l its.toArray n u hy' (by rw [List.size_toArray]; omega)) ⟨e, ?_⟩
  refine ⟨y, _, I.lset (its' := its.dropLast) hH e ?_ r.dropLast ?_, ru, q⟩
  · show its.toArray.eraseIdxIfInBounds (its.toArray.size - 1) = its.dropLast.toArray
    rw [List.size_toArray, List.eraseIdxIfInBounds_toArray, erase_last]
  · rw [List.length_dropLast]
    omega

noncomputable def rCat : R2 := fun x y H Q => ∃ l b xs zs, x = .ref l ∧ y = .ref b ∧ H l = some (.lst xs) ∧ H b = some (.lst zs) ∧ xs.length + zs.length ≤ sizeLine ∧ ∀ p, H p = none → Q (.ref p) (upd H p (.lst (xs ++ zs)))
theorem op_cat : OpR X (binaryOp .Add) rCat := by
  intro pins s σ H x y v u Q I rx ry h
  obtain ⟨l, b, xs, zs, rfl, rfl, hH, hB, hz, q⟩ := h
  cases rx
  cases ry
  obtain ⟨z, its, n, r, hl, e⟩ := I.lstM hH
  obtain ⟨z2, its2, n2, r2, hl2, e2⟩ := I.lstM hB
  refine PySem.P.add_list e e2 ?_ (by rw [List.size_toArray, List.size_toArray]; omega)
  have ea : its.toArray ++ its2.toArray = (its ++ its2).toArray := by simp
  rw [ea]
  exact ⟨.ref _, _, I.lnew (t' := s.toks) (r.append r2) (by rw [List.length_append]; omega), rfl, q _ I.fresh⟩
noncomputable def rRep : R2 := fun x y H Q => ∃ l k xs, x = .ref l ∧ y = .int k ∧ H l = some (.lst xs) ∧ -(2 ^ 63) ≤ k ∧ k < 2 ^ 63 ∧ xs.length * k.toNat ≤ sizeLine ∧
  ∀ p, H p = none → Q (.ref p) (upd H p (.lst (List.replicate k.toNat xs).flatten))
theorem len_rep {α : Type} (xs : List α) (k : Nat) : (List.replicate k xs).flatten.length = k * xs.length := by
  induction k with
  | zero => simp
  | succ k ih => rw [List.replicate_succ, List.flatten_cons, List.length_append, ih, Nat.succ_mul, Nat.add_comm]
theorem op_rep : OpR X (binaryOp .Mult) rRep := by
  intro pins s σ H x y v u Q I rx ry h
  obtain ⟨l, k, xs, rfl, rfl, hH, h1, h2, hz, q⟩ := h
  cases rx
  obtain ⟨t, rfl⟩ := ry
  obtain ⟨z, its, n, r, hl, e⟩ := I.lstM hH
  have hlen : its.toArray.size * k.toNat ≤ sizeLine := by rw [List.size_toArray, ← hl]; exact hz
  have hcap : ¬ its.toArray.size * k.toNat > (2 ^ 63 - 1) / 8 := by
    have : (sizeLine : Nat) ≤ (2 ^ 63 - 1) / 8 := by decide
    omega
  have hfit : ¬ (!Builtin.List.listFitsIndex k) = true := by
    rw [fitsIndex_both h1 h2]
    exact Bool.false_ne_true
  have hlong : ¬ Builtin.List.listTooLong (its.toArray.size * k.toNat) = true := by
    rw [notLongL hlen]
    exact Bool.false_ne_true
  have hnew : List.foldl (fun x1 x2 => x1 ++ x2) #[] (List.replicate (if its.toArray.isEmpty = true then 0 else k.toNat) its.toArray) = (List.replicate k.toNat its).flatten.toArray := by
    have f0 : ∀ m : Nat, List.foldl (fun x1 x2 => x1 ++ x2) #[] (List.replicate m its.toArray) = (List.replicate m its).flatten.toArray := fun m => by
      have := foldl_rep its m []
      rw [List.nil_append] at this
      exact this
    rw [f0]
    cases its with
    | nil => simp
    | cons a r' => rw [if_neg (by simp)]
  refine wpAny_binaryOp_repeat_ref (T := "list") (U := "int") (by decide) ⟨_, e, rfl⟩ (fun s' => typeIs_int s' k t) noFill_list_mul F.fills_int_mul F.slot_int_rmul repeat_list F.slot_int_index.lookup
    (call_meets F.slot_int_rmul (typeIs_int s k t) F.entry_int_rmul (F.args_int_rmul_2 _ _) (int___rmul___int_list k t l its.toArray n)
      ⟨e, rfl, ⟨_, e, rfl⟩, call_meets F.slot_list_mul ⟨_, e, rfl⟩ F.entry_list_mul (F.args_list_mul_2 _ _) (AutoListH.list___mul___list_int_3 l its.toArray n k t hfit hcap hlong) ⟨e, ?_⟩⟩)
  rw [hnew]
  exact ⟨.ref _, _, I.lnew (t' := s.toks) (r.rep k.toNat) (by rw [len_rep, Nat.mul_comm]; exact hz), rfl, q _ I.fresh⟩

end

section
variable {prog : Program} {w : World} {A : Around} {E : Value → Shared → Prop} {s : Shared}
end

section
variable {X : Cx}
end
end L2

namespace L2
open PySem PySem.Spec PyProof.Rows

theorem Vals.bls : ∀ {bs : List Bool} {us : List Value}, Vals (bs.map V.bl) us → us = bs.map Value.bool
  | [], us, h => by
    rw [List.map_nil] at h
    cases h
    rfl
  | b :: bs, us, h => by
    rw [List.map_cons] at h
    cases h with
    | cons r t =>
      cases r
      rw [Vals.bls t, List.map_cons]
theorem Vals.ref1 {a : Addr} {us : List Value} (r : Vals [V.ref a] us) : us = [Value.ref a] := by
  cases r with
  | cons r t =>
    cases t
    cases r
    rfl

section
variable {prog : Program} {w : World} {A : Around} {E : Value → Shared → Prop} {s : Shared} {l : Addr} {its : List Value} {ns : List Int} {Q : Value → Shared → Prop}
end

section
variable {X : Cx}

end

section
variable {X : Cx}
end

section
variable {X : Cx}
end

theorem iter_any {prog : Program} {w : World} {A : Around} {E : Value → Shared → Prop} {s : Shared} {l : Addr} {items : Array Value} {Q : Value → Shared → Prop} (hl : s.heap.IsList l items)
    (h : ∀ s₂ : Shared, s₂ = { s with heap := s.heap.push { cls := .type "list_iterator", data := .fields #[.ref l, .int 0 0] } } →
      (s₂.heap.IsListIter s.heap.objs.size l 0 ∧ s₂.heap.IsList l items) → l ≠ s.heap.objs.size → Q (.ref s.heap.objs.size) s₂) : wpAny (model prog w) A (pyIter (.ref l)) Q E s := by
  have hlt : l < s.heap.objs.size := by obtain ⟨_, e, _⟩ := hl; exact Heap.lt_size e
  exact wpAny_pyIter_list hl (h _ rfl ⟨⟨_, Heap.get?_push_size _ rfl, rfl, rfl⟩, hl.push _⟩ (Nat.ne_of_lt hlt))
theorem truth_bools {prog : Program} {w : World} {A : Around} {bs : List Bool} {its : List Value} (e : its = bs.map Value.bool) :
    TruthOf prog w A (fun i v => its.toArray[i]? = some v) (fun i => bs.getD i false) := fun i v s Q E hv hq => by
  have hv' : its[i]? = some v := by simpa using hv
  rw [e, List.getElem?_map] at hv'
  obtain ⟨b, hb, rfl⟩ := Option.map_eq_some_iff.mp hv'
  have hg : bs.getD i false = b := by rw [List.getD_eq_getElem?_getD, hb] <;> rfl
  have hq' : Q (bs.getD i false) s := hq
  rw [hg] at hq'
  exact wpAny_truthy_bool hq'
theorem any_range : ∀ bs : List Bool, (List.range bs.length).any (fun i => bs.getD i false) = bs.any id
  | [] => rfl
  | b :: bs => by
    rw [List.length_cons, List.range_succ_eq_map, List.any_cons, List.any_map, List.any_cons, ← any_range bs]
    all_goals rfl
section
variable {X : Cx}
noncomputable def rAny (K : PySem.W.Frag) : List V → Hp → VK → Prop := fun vs H Q => ∃ (a : Addr) (bs : List Bool), vs = [V.ref a] ∧ SqL K H a (bs.map V.bl) ∧ Q (.bl (bs.any id)) H
theorem cr_any (hc : X.calm = true) : CallR X (.builtin "any") (rAny X.K) := by
  intro pins s σ H vs us Q I r h
  obtain ⟨a, bs, rfl, hs, q⟩ := h
  obtain ⟨its, rv, hl, _⟩ := I.list hs
  rw [Vals.ref1 r]
  have hb := rv.bls
  refine call_any_walk (iter_any hl.isList fun s₂ e2 st hne => ?_)
  subst e2
  refine ⟨_, _, _, _, _, _, _, rfl, Walks.list (A := X.A.in1) (I.ok.hd hc) _ a hne its.toArray, st, truth_bools hb, fun h' tk hk => ?_⟩
  refine ⟨.bl _, H, I.kept fun b o eo => hk b o (fun hmem => ?_) (Heap.get?_push_of_some _ eo), ?_, q⟩
  · rcases List.mem_cons.mp hmem with e1 | hmem
    · exact absurd (e1 ▸ Heap.lt_size eo) (Nat.lt_irrefl _)
    · cases hmem
  · show Value.bool _ = Value.bool _
    rw [← any_range, hb, List.size_toArray, List.length_map]
end

section
variable {X : Cx} {pins : List (Addr × Obj)} {σ : St} {H : Hp} {s : Shared}
end
section
variable {X : Cx}
end
end L2

namespace L2
open PySem PySem.Spec PyProof.Rows
noncomputable abbrev CellAt (h : Heap) (c : Addr) (v : Option Value) : Prop := h.IsCell c v
noncomputable def relS (scope sc : Scope) : Scope :=
  { scope with names := scope.names.map fun (n, k) => if (k == .free && sc.kind == .function && sc.names.lookup n == some .cell) then (n, .cell) else (n, k) }

noncomputable def cloFrom (cells : List (Str × Addr)) : List (Str × NameKind) → List (Str × Addr) → List (Str × Addr)
  | [], acc => acc
  | (n, k) :: r, acc => if k == .free then cloFrom cells r ((n, (cells.lookup n).getD 0) :: acc) else cloFrom cells r acc

theorem closure_loop (env : Env) (f : Str × NameKind → List (Str × Addr) → Sem (ForInStep (List (Str × Addr))))
    (hf : ∀ n k c, f (n, k) c = if k == .free then (do let a ← cellOf env n; pure (.yield ((n, a) :: c))) else pure (.yield c)) :
    ∀ (names : List (Str × NameKind)) (acc : List (Str × Addr)), (∀ y ∈ names, y.2 = .free → ∃ c, env.cells.lookup y.1 = some c) → forIn names acc f = pure (cloFrom env.cells names acc)
  | [], acc, _ => by rw [List.forIn_nil]; rfl
  | (n, k) :: r, acc, h => by
    rw [List.forIn_cons, hf]
    have ih := fun acc => closure_loop env f hf r acc fun y hy => h y (List.mem_cons_of_mem _ hy)
    unfold cloFrom
    by_cases hk : (k == NameKind.free) = true
    · rw [if_pos hk, if_pos hk]
      obtain ⟨c, hc⟩ := h (n, k) List.mem_cons_self (by simpa using hk)
      have e : cellOf env n = pure c := by unfold cellOf; rw [hc]
      rw [e]
      have e2 : (env.cells.lookup n).getD 0 = c := by rw [hc]; rfl
      rw [e2]
      exact ih _
    · rw [if_neg hk, if_neg hk]
      exact ih _
theorem closure_ok {scope : Scope} {env : Env} (h : ∀ y ∈ scope.names, y.2 = .free → ∃ c, env.cells.lookup y.1 = some c) : closureFor scope env = pure (cloFrom env.cells scope.names []) := by
  simp only [closureFor]
  rw [closure_loop env _ (fun n k c => rfl) scope.names [] h]
  rfl

theorem mem_lookup {α : Type} : ∀ {l : List (Str × α)} {n : Str} {c : α}, (n, c) ∈ l → ∃ c', l.lookup n = some c'
  | (k, v) :: r, n, c, h => by
    rw [List.lookup_cons]
    cases hb : n == k with
    | true => exact ⟨_, rfl⟩
    | false =>
      rcases List.mem_cons.mp h with e | h
      · cases e; simp at hb
      · exact mem_lookup h

theorem cloFrom_mem {cells : List (Str × Addr)} : ∀ {names : List (Str × NameKind)} {acc : List (Str × Addr)} {n : Str} {c : Addr}, (n, c) ∈ cloFrom cells names acc → (n, c) ∈ acc ∨ ((n, .free) ∈ names ∧ c = (cells.lookup n).getD 0)
  | [], _, _, _, h => .inl h
  | (m, k) :: r, acc, n, c, h => by
    unfold cloFrom at h
    split at h
    · rename_i hk
      have hk : k = .free := by simpa using hk
      rcases cloFrom_mem h with h | ⟨h1, h2⟩
      · rcases List.mem_cons.mp h with e | h
        · cases e; exact .inr ⟨hk ▸ List.mem_cons_self, rfl⟩
        · exact .inl h
      · exact .inr ⟨List.mem_cons_of_mem _ h1, h2⟩
    · rcases cloFrom_mem h with h | ⟨h1, h2⟩
      · exact .inl h
      · exact .inr ⟨List.mem_cons_of_mem _ h1, h2⟩
theorem cloFrom_acc {cells : List (Str × Addr)} : ∀ {names : List (Str × NameKind)} {acc : List (Str × Addr)} {p : Str × Addr}, p ∈ acc → p ∈ cloFrom cells names acc
  | [], _, _, h => h
  | (m, k) :: r, acc, p, h => by
    unfold cloFrom
    split
    · exact cloFrom_acc (List.mem_cons_of_mem _ h)
    · exact cloFrom_acc h
theorem cloFrom_has {cells : List (Str × Addr)} : ∀ {names : List (Str × NameKind)} {acc : List (Str × Addr)} {n : Str}, (n, .free) ∈ names → (n, (cells.lookup n).getD 0) ∈ cloFrom cells names acc
  | (m, k) :: r, acc, n, h => by
    unfold cloFrom
    rcases List.mem_cons.mp h with e | h
    · cases e
      exact cloFrom_acc List.mem_cons_self
    · split
      · exact cloFrom_has h
      · exact cloFrom_has h

theorem cells_mem : ∀ {names : List (Str × NameKind)} {h : Heap} {acc : List (Str × Addr)} {x : Str} {c : Addr}, (x, c) ∈ cellsFrom h.objs.size names acc →
    (x, c) ∈ acc ∨ ((x, .cell) ∈ names ∧ h.objs.size ≤ c ∧ CellAt (pushCells h names) c none)
  | [], _, _, _, _, h => .inl h
  | (n, k) :: r, h, acc, x, c, hm => by
    unfold cellsFrom at hm
    unfold pushCells
    split at hm
    · rename_i hk
      rw [if_pos hk]
      have hk : k = .cell := by simpa using hk
      rw [← Heap.size_push h { cls := .type "cell", data := .cell none }] at hm
      rcases cells_mem hm with hm | ⟨h1, h2, h3⟩
      · rcases List.mem_cons.mp hm with e | hm
        · cases e
          exact .inr ⟨hk ▸ List.mem_cons_self, Nat.le_refl _, _, pushCells_keeps r _ _ _ (Heap.get?_push_size _ rfl), rfl⟩
        · exact .inl hm
      · rw [Heap.size_push] at h2
        exact .inr ⟨List.mem_cons_of_mem _ h1, Nat.le_of_succ_le h2, h3⟩
    · rename_i hk
      rw [if_neg hk]
      rcases cells_mem hm with hm | ⟨h1, h2, h3⟩
      · exact .inl hm
      · exact .inr ⟨List.mem_cons_of_mem _ h1, h2, h3⟩
theorem cells_acc : ∀ {names : List (Str × NameKind)} {n : Nat} {acc : List (Str × Addr)} {p : Str × Addr}, p ∈ acc → p ∈ cellsFrom n names acc
  | [], _, _, _, h => h
  | (m, k) :: r, n, acc, p, h => by
    unfold cellsFrom
    split
    · exact cells_acc (List.mem_cons_of_mem _ h)
    · exact cells_acc h
theorem cells_has : ∀ {names : List (Str × NameKind)} {n : Nat} {acc : List (Str × Addr)} {x : Str}, (x, .cell) ∈ names → ∃ c, (x, c) ∈ cellsFrom n names acc
  | (m, k) :: r, n, acc, x, h => by
    unfold cellsFrom
    rcases List.mem_cons.mp h with e | h
    · cases e
      exact ⟨n, cells_acc List.mem_cons_self⟩
    · split
      · exact cells_has h
      · exact cells_has h
theorem cells_inj : ∀ {names : List (Str × NameKind)} {h : Heap} {acc : List (Str × Addr)} {x y : Str} {c : Addr}, (∀ p ∈ acc, p.2 < h.objs.size) → (∀ x y c, (x, c) ∈ acc → (y, c) ∈ acc → x = y) →
    (x, c) ∈ cellsFrom h.objs.size names acc → (y, c) ∈ cellsFrom h.objs.size names acc → x = y
  | [], _, _, _, _, _, _, hi, h1, h2 => hi _ _ _ h1 h2
  | (n, k) :: r, h, acc, x, y, c, hl, hi, h1, h2 => by
    unfold cellsFrom at h1 h2
    split at h1
    · rename_i hk
      rw [if_pos hk] at h2
      rw [← Heap.size_push h { cls := .type "cell", data := .cell none }] at h1 h2
      refine cells_inj (h := h.push _) (fun p hp => ?_) (fun x y c a b => ?_) h1 h2
      · rw [Heap.size_push]
        rcases List.mem_cons.mp hp with rfl | hp
        · exact Nat.lt_succ_self _
        · exact Nat.lt_succ_of_lt (hl p hp)
      · rcases List.mem_cons.mp a with e | a <;> rcases List.mem_cons.mp b with e' | b
        · cases e; cases e'; rfl
        · cases e; exact absurd (hl _ b) (Nat.lt_irrefl _)
        · cases e'; exact absurd (hl _ a) (Nat.lt_irrefl _)
        · exact hi _ _ _ a b
    · rename_i hk
      rw [if_neg hk] at h2
      exact cells_inj hl hi h1 h2

theorem newEnv_comp {M : Model} {A : Around} {E : Value → Shared → Prop} {s : Shared} {scope : Scope} {globals : Addr} {closure : List (Str × Addr)} {qual : Str} {func : Option Addr} {code : Value} {around : Env} {builtins : Addr} {Q : Env → Shared → Prop}
    (h : Q (newEnv scope s.heap.objs.size globals (cellsFrom (s.heap.objs.size + 1) scope.names closure) qual func code (some around) builtins)
      { s with heap := pushCells (s.heap.push { cls := .type "dict", data := .dict #[] }) scope.names }) :
    wpAny M A (newFunctionEnv scope globals closure [] qual func code (some around) builtins) Q E s := by
  simp only [newFunctionEnv, Option.isSome_some, if_true]
  refine wpAny_bind (wpAny_alloc ?_)
  refine wpAny_bind (wpAny_layCells _ (fun n k c => rfl) scope.names closure _ _ ?_)
  rw [show ({ s with heap := s.heap.push { cls := .type "dict", data := .dict #[] } } : Shared).heap.objs.size = s.heap.objs.size + 1 from Heap.size_push ..]
  rw [List.forIn_nil]
  exact wpAny_bind (wpAny_pure (wpAny_pure h))

theorem lookup_relS {sc : Scope} : ∀ {names : List (Str × NameKind)} {x : Str} {k : NameKind},
    (names.map fun (n, k) => if (k == NameKind.free && sc.kind == .function && sc.names.lookup n == some .cell) then (n, NameKind.cell) else (n, k)).lookup x = some k →
    ∃ k', names.lookup x = some k' ∧ (k = k' ∨ (k' = .free ∧ k = .cell))
  | [], _, _, h => by simp at h
  | (n, k₀) :: r, x, k, h => by
    have ih := @lookup_relS sc r x k
    have h' : List.lookup x ((if (k₀ == NameKind.free && sc.kind == .function && sc.names.lookup n == some .cell) = true then (n, NameKind.cell) else (n, k₀)) :: (r.map _)) = some k := h
    cases hx : x == n with
    | true =>
      simp only [List.lookup_cons, hx]
      by_cases hc : (k₀ == NameKind.free && sc.kind == .function && sc.names.lookup n == some .cell) = true
      · rw [if_pos hc] at h'
        simp only [List.lookup_cons, hx] at h'
        cases h'
        simp only [Bool.and_eq_true, beq_iff_eq] at hc
        exact ⟨k₀, rfl, .inr ⟨hc.1.1, rfl⟩⟩
      · rw [if_neg hc] at h'
        simp only [List.lookup_cons, hx] at h'
        cases h'
        exact ⟨_, rfl, .inl rfl⟩
    | false =>
      simp only [List.lookup_cons, hx]
      by_cases hc : (k₀ == NameKind.free && sc.kind == .function && sc.names.lookup n == some .cell) = true
      · rw [if_pos hc] at h'
        simp only [List.lookup_cons, hx] at h'
        exact ih h'
      · rw [if_neg hc] at h'
        simp only [List.lookup_cons, hx] at h'
        exact ih h'

structure BlkOk (N : List Str) (sc scope : Scope) (own : List (Str × Nat)) : Prop where
  kind : scope.kind = .function
  uniq : ∀ y ∈ scope.names, scope.names.lookup y.1 = some y.2
  ix : ∀ p ∈ own, N[p.2]? = some p.1
  free : ∀ y ∈ scope.names, y.2 = .free → sc.names.lookup y.1 = some .cell ∨ sc.names.lookup y.1 = some .free
  own : ∀ y ∈ scope.names, y.2 = .local ∨ y.2 = .cell → y.1 ∈ own.map (·.1) ∨ y.1 ∉ N
noncomputable def wipe (σ : St) : List Nat → St
  | [] => σ
  | v :: vs => (wipe σ vs).set v none
theorem wipe_length (σ : St) : ∀ vs : List Nat, (wipe σ vs).length = σ.length
  | [] => rfl
  | v :: vs => by unfold wipe; rw [List.length_set, wipe_length σ vs]
theorem wipe_some {σ : St} {i : Nat} {x : V} : ∀ {vs : List Nat}, (wipe σ vs)[i]? = some (some x) → σ[i]? = some (some x) ∧ i ∉ vs
  | [], h => ⟨h, by simp⟩
  | v :: vs, h => by
    unfold wipe at h
    by_cases hi : v = i
    · subst hi
      by_cases hv : v < (wipe σ vs).length
      · rw [List.getElem?_set_self hv] at h; cases h
      · rw [List.getElem?_eq_none (by simpa using hv)] at h; cases h
    · rw [List.getElem?_set_ne hi] at h
      obtain ⟨h1, h2⟩ := wipe_some h
      exact ⟨h1, by simp only [List.mem_cons, not_or]; exact ⟨fun e => hi e.symm, h2⟩⟩

noncomputable abbrev Cx.blk (X : Cx) (s : Shared) (H : Hp) (scope : Scope) (cenv : Env) (fp : List Addr) : Cx := { X with s_0 := s, H_0 := H, env := cenv, outer := X.stack, ex := fp, fn := fun x => scope.names.lookup x == some .cell, pn := [], xe := fun _ _ => False }
section
variable {X : Cx} {pins : List (Addr × Obj)} {σ : St} {H : Hp} {s : Shared}
theorem block_start {scope : Scope} {own : List (Str × Nat)} {fp : List Addr} (I : Inv X pins σ H s) (ok : BlkOk X.N X.env.scope scope own) (hN : X.N.Nodup) (hfp : ∀ b ∈ fp, FpOk X pins H b ∧ b < s.heap.objs.size) :
    Inv (X.blk s H scope (compEnvC scope (cellsFrom (s.heap.objs.size + 1) scope.names (cloFrom X.env.cells scope.names [])) s.heap.objs.size X.env) fp) [] (wipe σ (own.map (·.2))) H { s with heap := pushCells (s.heap.push { cls := .type "dict", data := .dict #[] }) scope.names } := by
  have hfree : ∀ y ∈ scope.names, y.2 = .free → ∃ c, X.env.cells.lookup y.1 = some c := fun y hy e => by
    rcases ok.free y hy e with k | k
    · exact I.ok.has _ (.inl k)
    · exact I.ok.has _ (.inr k)
  generalize hcenv : compEnvC scope (cellsFrom (s.heap.objs.size + 1) scope.names (cloFrom X.env.cells scope.names [])) s.heap.objs.size X.env = cenv
  have kp : ∀ b o, s.heap.get? b = some o → (pushCells (s.heap.push { cls := .type "dict", data := .dict #[] }) scope.names).get? b = some o := fun b o e => pushCells_keeps _ _ _ _ (Heap.get?_push_of_some _ e)
  have hL : cenv.locals = s.heap.objs.size := by rw [← hcenv]; rfl
  have hcl : cenv.cells = cellsFrom (s.heap.objs.size + 1) scope.names (cloFrom X.env.cells scope.names []) := by rw [← hcenv]; rfl
  have hsc : cenv.scope = relS scope X.env.scope := by rw [← hcenv]; rfl
  rw [← Heap.size_push s.heap { cls := .type "dict", data := .dict #[] }] at hcl
  have cm : ∀ {y c}, (y, c) ∈ cloFrom X.env.cells scope.names [] → X.env.cells.lookup y = some c ∧ c < s.heap.objs.size := fun {y c} hm => by
    rcases cloFrom_mem hm with hm | ⟨h1, rfl⟩
    · cases hm
    · obtain ⟨c, hc⟩ := hfree _ h1 rfl
      rw [hc]
      obtain ⟨w, z⟩ := I.cell _ _ hc
      exact ⟨rfl, z.lt⟩
  have mem : ∀ {y c}, cenv.cells.lookup y = some c → (X.env.cells.lookup y = some c ∧ c < s.heap.objs.size) ∨ (s.heap.objs.size + 1 ≤ c ∧ CellAt (pushCells (s.heap.push { cls := .type "dict", data := .dict #[] }) scope.names) c none) := fun {y c} e => by
    rw [hcl] at e
    rcases cells_mem (PySem.mem_of_lookup e) with hm | ⟨_, h2, h3⟩
    · exact .inl (cm hm)
    · rw [Heap.size_push] at h2; exact .inr ⟨h2, h3⟩
  have look : ∀ {y}, scope.names.lookup y = some .free → ∃ c, cenv.cells.lookup y = some c ∧ X.env.cells.lookup y = some c := fun {y} hl => by
    have hy : (y, NameKind.free) ∈ scope.names := PySem.mem_of_lookup hl
    obtain ⟨c', e'⟩ := mem_lookup (cells_acc (names := scope.names) (n := (s.heap.push { cls := .type "dict", data := .dict #[] }).objs.size) (cloFrom_has (cells := X.env.cells) (acc := []) hy))
    rw [← hcl] at e'
    refine ⟨c', e', ?_⟩
    rw [hcl] at e'
    rcases cells_mem (PySem.mem_of_lookup e') with hm | ⟨h1, _, _⟩
    · exact (cm hm).1
    · have := ok.uniq _ h1
      rw [hl] at this; cases this
  have okB : (X.blk s H scope cenv fp).Ok := by
    refine ⟨I.ok.mod, by show cenv.scope.kind = _; rw [hsc]; exact ok.kind, by show cenv.globals = _; rw [← hcenv]; exact I.ok.glob, by show cenv.builtins = _; rw [← hcenv]; exact I.ok.blt, by show s.heap.objs.size ≤ cenv.locals; rw [hL]; exact Nat.le_refl _,
      fun y z c e1 e2 => ?_, fun y hy => ?_, fun y c z e => ?_, I.ok.hd, I.ok.frames, .inl rfl, fun b hb => ⟨?_, fun y c e z => ?_⟩, I.bs, Nat.le_trans I.ok.bsz I.sz, fun b o e hb => ?_, fun b hb z => ?_, I.stack, I.stkFree⟩
    · have e1 : cenv.cells.lookup y = some c := e1
      have e2 : cenv.cells.lookup z = some c := e2
      rw [hcl] at e1 e2
      refine cells_inj (fun p hp => ?_) (fun y z c a b => I.ok.inj y z c (cm a).1 (cm b).1) (PySem.mem_of_lookup e1) (PySem.mem_of_lookup e2)
      rw [Heap.size_push]
      exact Nat.lt_succ_of_lt (cm (y := p.1) (c := p.2) hp).2
    · show ∃ c, cenv.cells.lookup y = some c
      have key : ∀ k, cenv.kindOf y = some k → (k = .cell ∨ k = .free) → ∃ c, cenv.cells.lookup y = some c := fun k hk hk' => by
        unfold Env.kindOf at hk
        rw [hsc] at hk
        obtain ⟨k', e, r⟩ := lookup_relS hk
        have : k' = .cell ∨ k' = .free := by
          rcases r with rfl | ⟨rfl, _⟩
          · exact hk'
          · exact .inr rfl
        rcases this with rfl | rfl
        · obtain ⟨c, hm⟩ := cells_has (n := (s.heap.push { cls := .type "dict", data := .dict #[] }).objs.size) (acc := cloFrom X.env.cells scope.names []) (PySem.mem_of_lookup e)
          obtain ⟨c', e'⟩ := mem_lookup hm
          exact ⟨c', by rw [hcl]; exact e'⟩
        · obtain ⟨c, h1, _⟩ := look e
          exact ⟨c, h1⟩
      rcases hy with hy | hy
      · exact key _ hy (.inl rfl)
      · exact key _ hy (.inr rfl)
    · have z : (scope.names.lookup y == some NameKind.cell) = true := z
      have z : scope.names.lookup y = some .cell := by simpa using z
      have e : cenv.cells.lookup y = some c := e
      rw [hcl] at e
      rcases cells_mem (PySem.mem_of_lookup e) with hm | ⟨_, h2, _⟩
      · rcases cloFrom_mem hm with hm | ⟨h1, _⟩
        · cases hm
        · have q := ok.uniq _ h1
          rw [z] at q; cases q
      · rw [Heap.size_push] at h2
        exact Nat.le_of_succ_le h2
    · show b ≠ cenv.locals
      rw [hL]; exact Nat.ne_of_lt (hfp b hb).2
    · have e : cenv.cells.lookup y = some c := e
      rcases mem e with ⟨h1, _⟩ | ⟨h1, _⟩
      · exact (hfp b hb).1.2.2.2.2.1 y c h1 z
      · have h2 : s.heap.objs.size + 1 ≤ b := by rw [← z]; exact h1
        exact absurd (Nat.lt_of_lt_of_le (hfp b hb).2 (Nat.le_of_succ_le h2)) (Nat.lt_irrefl _)
    · rcases (hfp b hb).1.2.2.2.1 with z | z
      · exact I.ok.noex b o e z
      · exact absurd (Nat.lt_of_lt_of_le (Heap.lt_size e) (Nat.le_trans I.ok.bsz z)) (Nat.lt_irrefl _)
    · rcases List.mem_cons.mp (I.stkSub b z) with z | z
      · exact (hfp b hb).1.2.1 z
      · exact (hfp b hb).1.2.2.1 z
  refine ⟨okB, rfl, I.bare, Un.kept kp, ⟨fun _ => none, ?_, fun i y av e1 e2 e3 => ?_⟩, fun y c e => ?_, ?_, fun y c e => ?_, fun p hp => ?_, I.hok.kept kp, by rw [wipe_length]; exact I.len⟩
  · show Heap.Ns _ cenv.locals _
    rw [hL]
    exact Heap.Ns.keeps (Heap.Ns.new ..) fun b o e => pushCells_keeps _ _ _ _ e
  · obtain ⟨e2, hne⟩ := wipe_some e2
    have hfr : scope.names.lookup y = some .free ∧ (cenv.kindOf y = some .cell ∨ cenv.kindOf y = some .free) := by
      have key : ∀ k, cenv.scope.names.lookup y = some k → k = .local ∨ k = .cell ∨ k = .free → scope.names.lookup y = some .free ∧ (cenv.kindOf y = some .cell ∨ cenv.kindOf y = some .free) := fun k hk hk' => by
        have hk0 := hk
        rw [hsc] at hk
        obtain ⟨k', e, r⟩ := lookup_relS hk
        have no : ¬ (k' = .local ∨ k' = .cell) := fun hh => by
          rcases ok.own _ (PySem.mem_of_lookup e) hh with e' | e'
          · obtain ⟨p, hp, hpy⟩ := List.mem_map.mp e'
            have e3 := ok.ix p hp
            have : p.1 = y := hpy
            rw [this] at e3
            exact hne (List.mem_map.mpr ⟨p, hp, nodup_ix hN e3 e1⟩)
          · exact e' (List.mem_of_getElem? e1)
        rcases r with rfl | ⟨rfl, rfl⟩
        · rcases hk' with rfl | rfl | rfl
          · exact absurd (.inl rfl) no
          · exact absurd (.inr rfl) no
          · exact ⟨e, .inr hk0⟩
        · exact ⟨e, .inl hk0⟩
      have e3 : Vis cenv.scope y := e3
      rcases e3 with e3 | e3 | e3
      · exact key _ e3 (.inl rfl)
      · exact key _ e3 (.inr (.inl rfl))
      · exact key _ e3 (.inr (.inr rfl))
    obtain ⟨m, hn, hl⟩ := I.loc
    have hvis : Vis X.env.scope y := (ok.free _ (PySem.mem_of_lookup hfr.1) rfl).elim (fun k => .inr (.inl k)) (fun k => .inr (.inr k))
    obtain ⟨w, r, q⟩ := hl i y av e1 e2 hvis
    refine ⟨w, r, .inr ⟨hfr.2, ?_⟩⟩
    obtain ⟨c, h1, h2⟩ := look hfr.1
    rcases q with ⟨k, _⟩ | ⟨_, c', e', z⟩
    · have k : X.env.scope.names.lookup y = some .local := k
      rcases ok.free _ (PySem.mem_of_lookup hfr.1) rfl with k' | k' <;> rw [show X.env.scope.names.lookup y = _ from k'] at k <;> cases k
    · rw [h2] at e'; cases e'
      exact ⟨c, h1, z.keeps kp⟩
  · have e : cenv.cells.lookup y = some c := e
    rcases mem e with ⟨h1, _⟩ | ⟨_, z⟩
    · obtain ⟨w, z⟩ := I.cell y c h1
      exact ⟨w, z.keeps kp⟩
    · exact ⟨_, z⟩
  · show H cenv.locals = none
    rw [hL]; exact I.hok.fresh (Nat.le_refl _)
  · have e : cenv.cells.lookup y = some c := e
    rcases mem e with ⟨h1, _⟩ | ⟨h1, _⟩
    · exact I.freeC y c h1
    · exact I.hok.fresh (Nat.le_of_succ_le h1)
  · exact absurd (show p ∈ ([] : List (Addr × Obj)) ++ [] from hp) (by simp)

theorem app_ok {E : Value → Shared → Prop} {D : Addr} {xs : List V} {y : V} {v : Value} {Q : Value → Shared → Prop} (I : Inv X pins σ H s) (hD : H D = some (.lst xs)) (hz : xs.length < sizeLine) (r : RelV y v)
    (h : ∀ s', Inv X pins σ (upd H D (.lst (xs ++ [y]))) s' → Q .none s') : wpAny (model X.prog X.w) X.A (call (.builtin "list.append") [.ref D, v]) Q E s := by
  obtain ⟨hz', its, n, ri, e⟩ := I.hok D _ hD
  have hl := ri.length
  refine append_at (hsz := by rw [List.size_toArray]; omega) e fun h' sb ho' => ?_
  refine h { s with heap := h' } (I.write (t' := s.toks) (by rw [hD]; trivial) (.inl rfl) (fun b u hb q => (sb.2 b hb).trans q) ⟨_, ho'⟩ ⟨by rw [List.length_append]; exact hz, its ++ [v], n + 1, ri.append (.cons r .nil), ?_⟩)
  rw [ho']
  simp

noncomputable def PTs (X : Cx) (ifs : List Expr) (t : TT) : Prop :=
  ∀ (pins : List (Addr × Obj)) (s : Shared) (σ : St) (H : Hp) (Q : Bool → Hp → Prop), Inv X pins σ H s → t σ H Q →
    wpAny (model X.prog X.w) X.A (forIn ifs true fun c r => if r = true then do let ok ← isTrue c X.env (eval c X.env); pure (ForInStep.yield ok) else pure (ForInStep.yield r)) (TP X pins σ Q) X.xe s
noncomputable def tYes : TT := fun _ H Q => Q true H
theorem pts_nil : PTs X [] tYes := fun _ _ _ H _ I h => wpAny_tests_nil ⟨H, I, h⟩
theorem pts_one {c : Expr} {t : TT} (h : PT X c t) : PTs X [c] t := fun pins s σ H Q I hw => wpAny_tests_one (h pins s σ H Q I hw)
end

theorem thnF {α : Type} {t : Sem α} {Q Q' : α → Shared → Prop} {M : Model} {A : Around} {E : Value → Shared → Prop} {s : Shared} (h : wpAny M A t Q (fun _ _ => False) s) (hQ : ∀ a s, Q a s → Q' a s) : wpAny M A t Q' E s := wpAny_mono h hQ fun _ _ z => False.elim z

theorem compLoop_any {prog : Program} {w : World} {A : Around} {R : Result → Shared → Prop} {s : Shared} {elt target iter : Expr} {ifs : List Expr} {scope : Scope} {pos : Pos} {it acc : Value} {env : Env} (I : Nat → Shared → Prop)
    (turn : ∀ n s, I n s → wpAny (model prog w) A (pyNext it) (fun r s₁ => match r with
      | none => R (.ok .next) s₁
      | some v => wpAny (model prog w) A (letOwnedTupleGo target it v) (fun _ s₁' => wpAny (model prog w) A (assign target env v) (fun _ s₂ =>
          wpAny (model prog w) A (forIn ifs true fun c r => if r = true then do let ok ← isTrue c env (eval c env); pure (ForInStep.yield ok) else pure (ForInStep.yield r)) (fun ok s₃ =>
            if ok = true then wpAny (model prog w) A (eval elt env) (fun x s₄ =>
              wpAny (model prog w) A (call (.builtin "list.append") [acc, x]) (fun _ s₅ => ∃ m, m < n ∧ I m s₅) (notedBy (model prog w) A env fun e s' => R (.error e) s') s₄) (notedBy (model prog w) A env fun e s' => R (.error e) s') s₃
            else ∃ m, m < n ∧ I m s₃) (notedBy (model prog w) A env fun e s' => R (.error e) s') s₂) (notedBy (model prog w) A env fun e s' => R (.error e) s') s₁') (notedBy (model prog w) A env fun e s' => R (.error e) s') s₁) (notedBy (model prog w) A env fun e s' => R (.error e) s') s)
    (n : Nat) (h : I n s) :
    codeAny (model prog w) A (.compLoop (.ListComp elt [⟨target, iter, ifs, 0⟩] scope pos) 0 it acc env) R s := by
  refine codeAny_loop rfl I (fun n s hI => ?_) n h
  show wpAny _ A ((compTurn (.ListComp elt [⟨target, iter, ifs, 0⟩] scope pos) 0 it acc env).onRaise (fun x => do noteFrame x env; theTreesLotGoes x)) _ _ s
  refine wpAny_noted ?_
  rw [compTurn_list]
  refine wpAny_bind (wpAny_standAt (wpAny_bind (wpAny_mono (turn n s hI) (fun r s₁ h₁ => ?_) fun _ _ h' => h')))
  cases r with
  | none => exact wpAny_pure h₁
  | some v =>
    refine wpAny_bind (wpAny_mono h₁ (fun _ s₁' h₁' => ?_) fun _ _ h' => h')
    refine wpAny_bind (wpAny_mono h₁' (fun _ s₂ h₂ => wpAny_bind (wpAny_mono h₂ (fun ok s₃ h₃ => ?_) fun _ _ h' => h')) fun _ _ h' => h')
    cases ok with
    | false => exact wpAny_pure ⟨rfl, h₃⟩
    | true =>
      exact wpAny_bind (wpAny_bind (wpAny_mono h₃ (fun x s₄ h₄ => wpAny_bind (wpAny_mono h₄ (fun _ s₅ h₅ => wpAny_pure (wpAny_pure ⟨rfl, h₅⟩)) fun _ _ h' => h')) fun _ _ h' => h'))

section
variable {X : Cx}
noncomputable def tLc (wi : TI) (g : TG) (tt : TT) (te : TE) (vs : List Nat) : TE := fun σ H Q => wi σ H fun J H1 => ∀ D, H1 D = none → ∃ W : Nat → Nat → Hp → Prop, (∃ m, W 0 m (upd H1 D (.lst []))) ∧ ∀ i m H, W i m H →
  (J.stop i H ∧ Q (.ref D) H) ∨ (J.go i H ∧ ∃ Nx : Hp → Prop, (∀ H', Nx H' → ∃ m', m' < m ∧ W (i + 1) m' H') ∧ ∀ x H', J.yld i H x H' → g x (wipe σ vs) H' fun σ2 H2 => wipe σ2 vs = wipe σ vs ∧ tt σ2 H2 fun b H3 =>
    if b = true then te σ2 H3 fun y H4 => ∃ acc, H4 D = some (.lst acc) ∧ acc.length < sizeLine ∧ Nx (upd H4 D (.lst (acc ++ [y]))) else Nx H3)
theorem lc_core {pins : List (Addr × Obj)} {s : Shared} {σ : St} {H : Hp} {Q : VK} {elt tg iter : Expr} {ifs : List Expr} {scope : Scope} {own : List (Str × Nat)} {pos pos' : Pos} {wi : TI} {g : TG} {tt : TT} {te : TE} {use : Option (Value → Sem Unit)} {Qf : Value → Shared → Prop}
    (hc : X.calm = true) (hN : X.N.Nodup) (I : Inv X pins σ H s) (hi : PI X tg iter wi) (ok : BlkOk X.N X.env.scope scope own)
    (hg : ∀ (s : Shared) (H : Hp) (C : Addr) (cl : List (Str × Addr)) (fp : List Addr), PG (X.blk s H scope (compEnvC scope cl C X.env) fp) tg g) (ht : ∀ (s : Shared) (H : Hp) (C : Addr) (cl : List (Str × Addr)) (fp : List Addr), PTs (X.blk s H scope (compEnvC scope cl C X.env) fp) ifs tt)
    (he : ∀ (s : Shared) (H : Hp) (C : Addr) (cl : List (Str × Addr)) (fp : List Addr), PE (X.blk s H scope (compEnvC scope cl C X.env) fp) elt te) (hs : ∀ x, foldedSetIterable iter X.env x = pure x)
    (h : tLc wi g tt te (own.map (·.2)) σ H Q)
    (hRR : ∀ D C s' m H', Inv X pins σ H' s' → Q (.ref D) H' → s'.heap.Ns C m → FpOk X pins H' C → compPost (model X.prog X.w) X.A X.xe use Qf (.ref D) C (.ok .next) s') :
    wpAny (model X.prog X.w) X.A (comprehension (.ListComp elt [⟨tg, iter, ifs, 0⟩] scope pos) scope X.env pos' (newList []) false (eval iter X.env) use) Qf X.xe s := by
  have hfree : ∀ y ∈ scope.names, y.2 = .free → ∃ c, X.env.cells.lookup y.1 = some c := fun y hy e => by
    rcases ok.free y hy e with k | k
    · exact I.ok.has _ (.inl k)
    · exact I.ok.has _ (.inr k)
  refine wpAny_comprehension_free (use := use) rfl hs (closure_ok hfree) ok.kind (fun y hy e => by rw [ok.uniq y hy, e])
    (thn (hi pins s σ H _ I h) fun xv s1 hx => thn hx fun itv s2 h2 => ?_)
  obtain ⟨it, fp, tn, J, H2, e, I2, T, st2, f2, q⟩ := h2
  subst e
  refine wpAny_newObj_type (newEnv_comp ?_) (by show 0 ≤ sizeLine; decide)
  generalize hD : s2.heap.objs.size = D
  have hDn : H2 D = none := I2.hok.fresh (Nat.le_of_eq hD)
  obtain ⟨W, ⟨m0, w0⟩, turn⟩ := q D hDn
  -- the new list
  generalize hs3 : ({ s2 with heap := s2.heap.push { cls := .type "list", data := .seq ([] : List Value).toArray } } : Shared) = s3
  have I3 : Inv X pins σ (upd H2 D (.lst [])) s3 := by
    rw [← hs3]
    refine I2.laid (t' := s2.toks) (fun b o e => Heap.get?_push_of_some _ e) (Nat.le_of_eq hD) ⟨Nat.zero_le _, [], 0, .nil, ?_⟩
    rw [← hD]
    exact Heap.get?_push_size _ rfl
  have h3 : s3.heap = s2.heap.push { cls := .type "list", data := .seq ([] : List Value).toArray } := by rw [← hs3]
  have sz : ∀ b ∈ fp, b < s2.heap.objs.size := fun b hb => by
    obtain ⟨o, e, _⟩ := T.obj _ _ st2 b hb
    exact Heap.lt_size e
  have f3 : ∀ b ∈ fp, FpOk X pins (upd H2 D (.lst [])) b ∧ b < s3.heap.objs.size := fun b hb => by
    have hlt := sz b hb
    refine ⟨⟨?_, (f2 b hb).2⟩, by rw [h3, Heap.size_push]; exact Nat.lt_succ_of_lt hlt⟩
    rw [upd_ne (by rw [← hD]; exact Nat.ne_of_lt hlt)]
    exact (f2 b hb).1
  have st3 : tn 0 s3.heap := T.keep _ _ _ st2 fun b _ o e => by rw [h3]; exact Heap.get?_push_of_some _ e
  have I4 := block_start I3 ok hN f3
  have pg := hg s3 (upd H2 D (.lst [])) s3.heap.objs.size (cellsFrom (s3.heap.objs.size + 1) scope.names (cloFrom X.env.cells scope.names [])) fp
  have pt := ht s3 (upd H2 D (.lst [])) s3.heap.objs.size (cellsFrom (s3.heap.objs.size + 1) scope.names (cloFrom X.env.cells scope.names [])) fp
  have pe := he s3 (upd H2 D (.lst [])) s3.heap.objs.size (cellsFrom (s3.heap.objs.size + 1) scope.names (cloFrom X.env.cells scope.names [])) fp
  show codeAny _ _ (.compStart (.ListComp elt [⟨tg, iter, ifs, 0⟩] scope pos) 0 (.ref it) (.ref D) (compEnvC scope (cellsFrom (s3.heap.objs.size + 1) scope.names (cloFrom X.env.cells scope.names [])) s3.heap.objs.size X.env)) (compPost (model X.prog X.w) X.A X.xe use Qf (.ref D) s3.heap.objs.size) { s3 with heap := pushCells (s3.heap.push { cls := .type "dict", data := .dict #[] }) scope.names }
  have nfp : ∀ b ∈ fp, (upd H2 D (.lst [])) b = none := fun b hb => (f3 b hb).1.1
  generalize hce : compEnvC scope (cellsFrom (s3.heap.objs.size + 1) scope.names (cloFrom X.env.cells scope.names [])) s3.heap.objs.size X.env = ce at I4 pg pt pe ⊢
  have cL : ce.locals = s3.heap.objs.size := by subst hce; rfl
  generalize hH3 : upd H2 D (.lst []) = H3 at I3 I4 pg pt pe w0 nfp f3
  generalize hs4 : ({ s3 with heap := pushCells (s3.heap.push { cls := .type "dict", data := .dict #[] }) scope.names } : Shared) = s4 at I4 ⊢
  have st4 : tn 0 s4.heap := T.keep _ _ _ st3 fun b _ o e => by rw [← hs4]; exact pushCells_keeps _ _ _ _ (Heap.get?_push_of_some _ e)
  have stat : ∀ {σ' : St} {H' : Hp} {s' : Shared}, Inv (X.blk s3 H3 scope ce fp) [] σ' H' s' → (∀ b ∈ fp, H' b = none) → ∀ b ∈ fp, FpOk (X.blk s3 H3 scope ce fp) [] H' b := fun {σ' H' s'} I' hn b hb =>
    ⟨hn b hb, (I'.ok.exf b hb).1, I'.ok.exfs b hb, .inl hb, fun x c e => (I'.ok.exf b hb).2 x c e, fun p hp => absurd (show p ∈ ([] : List (Addr × Obj)) ++ [] from hp) (by simp)⟩
  have loop : codeAny (model X.prog X.w) X.A (.compLoop (.ListComp elt [⟨tg, iter, ifs, 0⟩] scope pos) 0 (.ref it) (.ref D) ce) (compPost (model X.prog X.w) X.A X.xe use Qf (.ref D) s3.heap.objs.size) s4 := by
    refine compLoop_any (fun n s' => ∃ i H', Inv (X.blk s3 H3 scope ce fp) [] (wipe σ (own.map (·.2))) H' s' ∧ tn i s'.heap ∧ (∀ b ∈ fp, H' b = none) ∧ W i n H') ?_ m0 ⟨0, H3, I4, st4, nfp, w0⟩
    rintro n s5 ⟨i, H5, I5, st5, n5, w5⟩
    rcases turn i n H5 w5 with ⟨stop, qq⟩ | ⟨go, Nx, hNx, step⟩
    · have td := T.done (X.blk s3 H3 scope ce fp) rfl rfl rfl hc i [] s5 _ H5 (fun _ _ => False) I5 (stat I5 n5) st5 stop
      refine thnF td fun r s6 zz1 => ?_
      obtain ⟨hr, I6⟩ := zz1
      subst hr
      -- back in the def's context
      have I7 : Inv X pins σ H5 s6 := I3.call' (ch := fp) I6.os I6.base I6.hok I6.bare fun b hb => ⟨(f3 b hb).1.2.2.2.1, (f3 b hb).1.2.1, (f3 b hb).1.2.2.2.2.1, (f3 b hb).1.2.2.2.2.2⟩
      have nC : H5 s3.heap.objs.size = none := by
        have z : H5 ce.locals = none := I6.free
        rw [cL] at z
        exact z
      obtain ⟨m, hn, _⟩ := I6.loc
      have hn : s6.heap.Ns ce.locals m := hn
      rw [cL] at hn
      exact hRR D s3.heap.objs.size s6 m H5 I7 qq hn (I3.fpOk (Nat.le_refl _) nC)
    · have ti := T.item (X.blk s3 H3 scope ce fp) rfl rfl rfl hc i [] s5 _ H5 (fun _ _ => False) I5 (stat I5 n5) st5 go
      refine thnF ti fun r s6 zz1 => ?_
      obtain ⟨u, hr, h6⟩ := zz1
      subst hr
      refine thnF h6 fun _ s7 zz1 => ?_
      obtain ⟨x, H7, I7, r7, y7, st7, n7⟩ := zz1
      have I7' := I7.pinned (stat I7 n7) (T.obj _ _ st7)
      refine thnF (pg _ s7 _ H7 x u _ I7' r7 (step x H7 y7)) fun _ s8 zz1 => ?_
      obtain ⟨σ8, H8, I8, hw8, q8⟩ := zz1
      refine thnF (pt _ s8 σ8 H8 _ I8 q8) fun b s9 zz1 => ?_
      obtain ⟨H9, I9, q9⟩ := zz1
      -- the turn's end
      have fin : ∀ {s' : Shared} {H' : Hp}, Inv (X.blk s3 H3 scope ce fp) ([] ++ pinsAt fp s7.heap) σ8 H' s' → Nx H' → ∃ m, m < n ∧ ∃ i H', Inv (X.blk s3 H3 scope ce fp) [] (wipe σ (own.map (·.2))) H' s' ∧ tn i s'.heap ∧ (∀ b ∈ fp, H' b = none) ∧ W i m H' := fun {s' H'} I' nx => by
        obtain ⟨m', hm, w'⟩ := hNx H' nx
        have pin' : ∀ b ∈ fp, ∀ o, s7.heap.get? b = some o → s'.heap.get? b = some o ∧ H' b = none := fun b hb o e =>
          let z := I'.pin (b, o) (List.mem_append_right _ (List.mem_append_right _ (mem_pinsAt hb e)))
          ⟨z.1, z.2.1⟩
        have hl : (wipe σ (own.map (·.2))).length = σ8.length := by rw [← hw8, wipe_length]
        refine ⟨m', hm, i + 1, H', (I'.unpinned (pins := [])).weak hl (fun j v e => ?_), T.keep _ _ _ st7 fun b hb o e => (pin' b hb o e).1, fun b hb => ?_, w'⟩
        · rw [← hw8] at e
          exact (wipe_some e).1
        · obtain ⟨o, e, _⟩ := T.obj _ _ st7 b hb
          exact (pin' b hb o e).2
      cases b with
      | false =>
        simp only [Bool.false_eq_true, if_false] at q9 ⊢
        exact fin I9 q9
      | true =>
        simp only [if_true] at q9 ⊢
        refine thnF (pe _ s9 σ8 H9 _ I9 q9) fun z s10 zz1 => ?_
        obtain ⟨yv, H10, I10, r10, acc, hD10, hz10, nx⟩ := zz1
        exact app_ok (X := X.blk s3 H3 scope ce fp) I10 hD10 hz10 r10 fun s11 I11 => fin I11 nx
  exact codeAny_compStart_list loop (T.self X.A 0 _ _ _ st4 loop)
theorem pe_lc {elt tg iter : Expr} {ifs : List Expr} {scope : Scope} {own : List (Str × Nat)} {pos : Pos} {wi : TI} {g : TG} {tt : TT} {te : TE} (hc : X.calm = true) (hN : X.N.Nodup) (hi : PI X tg iter wi) (ok : BlkOk X.N X.env.scope scope own)
    (hg : ∀ (s : Shared) (H : Hp) (C : Addr) (cl : List (Str × Addr)) (fp : List Addr), PG (X.blk s H scope (compEnvC scope cl C X.env) fp) tg g) (ht : ∀ (s : Shared) (H : Hp) (C : Addr) (cl : List (Str × Addr)) (fp : List Addr), PTs (X.blk s H scope (compEnvC scope cl C X.env) fp) ifs tt)
    (he : ∀ (s : Shared) (H : Hp) (C : Addr) (cl : List (Str × Addr)) (fp : List Addr), PE (X.blk s H scope (compEnvC scope cl C X.env) fp) elt te) (hs : autoParam (∀ x, foldedSetIterable iter X.env x = pure x) L2.au_in._auto_1) :
    PE X (.ListComp elt [⟨tg, iter, ifs, 0⟩] scope pos) (tLc wi g tt te (own.map (·.2))) := by
  intro pins s σ H Q I h
  rw [eval_ListComp]
  refine lc_core hc hN I hi ok hg ht he hs h fun D C s' m H' I' q hn f => ⟨m, hn, fun h'' sb => ?_⟩
  obtain ⟨f0, f1, f2, f3, f4, f5⟩ := f
  exact ⟨.ref D, H', I'.turned (t' := s'.toks) (fun b o hb e => (sb.2 b hb).trans e) f0 f1 f3 f4 f5, rfl, q⟩
theorem ps_setLc {i : Nat} {y : Str} {py : Pos} {elt tg iter : Expr} {ifs : List Expr} {scope : Scope} {own : List (Str × Nat)} {pos spos : Pos} {wi : TI} {g : TG} {tt : TT} {te : TE} (hc : X.calm = true) (hN : X.N.Nodup) (hy : X.N[i]? = some y) (hyl : X.env.scope.names.lookup y = some .local)
    (hsw : swapsWith (.ListComp elt [⟨tg, iter, ifs, 0⟩] scope pos) (some (.Name y py)) spos.line X.env = pure true) (hi : PI X tg iter wi) (ok : BlkOk X.N X.env.scope scope own)
    (hg : ∀ (s : Shared) (H : Hp) (C : Addr) (cl : List (Str × Addr)) (fp : List Addr), PG (X.blk s H scope (compEnvC scope cl C X.env) fp) tg g) (ht : ∀ (s : Shared) (H : Hp) (C : Addr) (cl : List (Str × Addr)) (fp : List Addr), PTs (X.blk s H scope (compEnvC scope cl C X.env) fp) ifs tt)
    (he : ∀ (s : Shared) (H : Hp) (C : Addr) (cl : List (Str × Addr)) (fp : List Addr), PE (X.blk s H scope (compEnvC scope cl C X.env) fp) elt te) (hs : autoParam (∀ x, foldedSetIterable iter X.env x = pure x) L2.au_in._auto_1) :
    PS X (.Assign [.Name y py] (.ListComp elt [⟨tg, iter, ifs, 0⟩] scope pos) spos) (tAsg (tLc wi g tt te (own.map (·.2))) (gName i)) := by
  intro pins s σ H D I h
  rw [exec_Assign_Name_used _ _ _ _ hsw]
  refine wpAny_bind (wpAny_standAt (wpAny_bind ?_))
  show wpAny _ X.A (do let _ ← comprehension (.ListComp elt [⟨tg, iter, ifs, 0⟩] scope pos) scope X.env (firstIterPos [⟨tg, iter, ifs, 0⟩] pos) (newList []) false (eval iter X.env) (some (assign (.Name y py) X.env))) _ _ s
  have h : tLc wi g tt te (own.map (·.2)) σ H (fun x H1 => gName i x σ H1 D.nx) := h
  refine wpAny_bind (thn (lc_core (Qf := fun _ s' => SP X pins D .next s') hc hN I hi ok hg ht he hs h fun L C s' m H' I' q hn f => ?_) fun _ s' hq => wpAny_pure (wpAny_pure hq))
  show wpAny _ _ (assign (.Name y py) X.env (.ref L)) _ _ _
  refine wpAny_assign_Name (store_ok2 (v := V.ref L) I' hN hy (.inl hyl) rfl (fun s2 I2 zz1 => ?_) (.inr hyl))
  obtain ⟨a, sb, ha⟩ := zz1
  obtain ⟨f0, f1, f2, f3, f4, f5⟩ := f
  have haC : C ≠ a := by
    rcases ha with z | z
    · rw [z]; exact f1
    · exact fun e => f4 y a z e.symm
  refine ⟨m, hn.sameBut sb haC, fun h3 sb3 => ?_⟩
  exact ⟨_, H', I2.turned (t' := s2.toks) (fun b o hb e => (sb3.2 b hb).trans e) f0 f1 f3 f4 f5, q⟩
theorem sw_true {elt : Expr} {gs : List Comprehension} {scope : Scope} {pos py : Pos} {y : Str} {l : Nat} {env : Env} (hk : env.scope.kind = .function) (hy : env.scope.names.lookup y = some .local) (hl : (py.line == pos.line) = true)
    (ha : (scope.names.any fun (n, k) => n == y && (k == .local || k == .cell)) = false) : swapsWith (.ListComp elt gs scope pos) (some (.Name y py)) l env = pure true := by
  have ky : env.kindOf y = some .local := hy
  have hb : env.blockKind = .function := by unfold Env.blockKind; rw [hk]; rfl
  unfold swapsWith
  simp only [hb, ky, ha, show (Expr.ListComp elt gs scope pos).pos = pos from rfl, hl]
  rfl
end

theorem lc_range {lo : Int} {n : Nat} {g : TG} {tt : TT} {te : TE} {vs : List Nat} {σ : St} {H1 : Hp} {D : Addr} {Qd : Hp → Prop} (Pv : Nat → Hp → Prop) (h0 : Pv 0 (upd H1 D (.lst [])))
    (hs : ∀ i H, i < n → Pv i H → g (.int (lo + i)) (wipe σ vs) H fun σ2 H2 => wipe σ2 vs = wipe σ vs ∧ tt σ2 H2 fun b H3 =>
      if b = true then te σ2 H3 fun y H4 => ∃ acc, H4 D = some (.lst acc) ∧ acc.length < sizeLine ∧ Pv (i + 1) (upd H4 D (.lst (acc ++ [y]))) else Pv (i + 1) H3) (hd : ∀ H, Pv n H → Qd H) :
    ∃ W : Nat → Nat → Hp → Prop, (∃ m, W 0 m (upd H1 D (.lst []))) ∧ ∀ i m H, W i m H →
      ((Itr lo n).stop i H ∧ Qd H) ∨ ((Itr lo n).go i H ∧ ∃ Nx : Hp → Prop, (∀ H', Nx H' → ∃ m', m' < m ∧ W (i + 1) m' H') ∧ ∀ x H', (Itr lo n).yld i H x H' → g x (wipe σ vs) H' fun σ2 H2 => wipe σ2 vs = wipe σ vs ∧ tt σ2 H2 fun b H3 =>
        if b = true then te σ2 H3 fun y H4 => ∃ acc, H4 D = some (.lst acc) ∧ acc.length < sizeLine ∧ Nx (upd H4 D (.lst (acc ++ [y]))) else Nx H3) := by
  refine ⟨fun i m H => m = n - i ∧ i ≤ n ∧ Pv i H, ⟨n, by simp, Nat.zero_le _, h0⟩, ?_⟩
  rintro i m H ⟨rfl, hi, p⟩
  by_cases hlt : i < n
  · refine .inr ⟨hlt, Pv (i + 1), fun H' p' => ⟨n - (i + 1), by omega, rfl, hlt, p'⟩, fun x H' y => ?_⟩
    obtain ⟨e, y⟩ := y
    subst e y
    exact hs i _ hlt p
  · have e : i = n := by omega
    subst e
    exact .inl ⟨Nat.le_refl _, hd H p⟩
theorem lc_list {K : PySem.W.Frag} {a : Addr} {xs : List V} {g : TG} {tt : TT} {te : TE} {vs : List Nat} {σ : St} {H1 : Hp} {D : Addr} {Qd : Hp → Prop} (Pv : Nat → Hp → Prop) (h0 : Pv 0 (upd H1 D (.lst []))) (hl : ∀ i H, i ≤ xs.length → Pv i H → SqL K H a xs)
    (hs : ∀ i x H, xs[i]? = some x → Pv i H → g x (wipe σ vs) H fun σ2 H2 => wipe σ2 vs = wipe σ vs ∧ tt σ2 H2 fun b H3 =>
      if b = true then te σ2 H3 fun y H4 => ∃ acc, H4 D = some (.lst acc) ∧ acc.length < sizeLine ∧ Pv (i + 1) (upd H4 D (.lst (acc ++ [y]))) else Pv (i + 1) H3) (hd : ∀ H, Pv xs.length H → Qd H) :
    ∃ W : Nat → Nat → Hp → Prop, (∃ m, W 0 m (upd H1 D (.lst []))) ∧ ∀ i m H, W i m H →
      ((Itl K a).stop i H ∧ Qd H) ∨ ((Itl K a).go i H ∧ ∃ Nx : Hp → Prop, (∀ H', Nx H' → ∃ m', m' < m ∧ W (i + 1) m' H') ∧ ∀ x H', (Itl K a).yld i H x H' → g x (wipe σ vs) H' fun σ2 H2 => wipe σ2 vs = wipe σ vs ∧ tt σ2 H2 fun b H3 =>
        if b = true then te σ2 H3 fun y H4 => ∃ acc, H4 D = some (.lst acc) ∧ acc.length < sizeLine ∧ Nx (upd H4 D (.lst (acc ++ [y]))) else Nx H3) := by
  refine ⟨fun i m H => m = xs.length - i ∧ i ≤ xs.length ∧ Pv i H, ⟨xs.length, by simp, Nat.zero_le _, h0⟩, ?_⟩
  rintro i m H ⟨rfl, hi, p⟩
  have q := hl i H hi p
  by_cases hlt : i < xs.length
  · refine .inr ⟨⟨xs, xs[i], q, by simp [hlt]⟩, Pv (i + 1), fun H' p' => ⟨xs.length - (i + 1), by omega, rfl, hlt, p'⟩, fun x H' y => ?_⟩
    obtain ⟨e, y⟩ := y
    subst e
    exact hs i x _ (y xs q) p
  · have e : i = xs.length := by omega
    subst e
    exact .inl ⟨⟨xs, q, Nat.le_refl _⟩, hd H p⟩
noncomputable def blkC (N : List Str) (sc scope : Scope) (own : List (Str × Nat)) : Bool :=
  (match scope.kind with | .function => true | _ => false) && (scope.names.all fun y => decide (scope.names.lookup y.1 = some y.2)) && (own.all fun p => decide (N[p.2]? = some p.1)) &&
    (scope.names.all fun y => match y.2 with
      | .free => (match sc.names.lookup y.1 with | some .cell => true | some .free => true | _ => false)
      | .local => decide (y.1 ∈ own.map (·.1)) || decide (y.1 ∉ N)
      | .cell => decide (y.1 ∈ own.map (·.1)) || decide (y.1 ∉ N)
      | _ => true)
theorem blkOk_by {N : List Str} {sc scope : Scope} {own : List (Str × Nat)} (h : blkC N sc scope own = true) : BlkOk N sc scope own := by
  unfold blkC at h
  simp only [Bool.and_eq_true, List.all_eq_true, decide_eq_true_eq] at h
  obtain ⟨⟨⟨h1, h2⟩, h3⟩, h4⟩ := h
  refine ⟨?_, h2, h3, fun y hy e => ?_, fun y hy e => ?_⟩
  · split at h1
    · assumption
    · cases h1
  · have q := h4 y hy
    simp only [e] at q
    split at q <;> first | exact .inl (by assumption) | exact .inr (by assumption) | cases q
  · have q := h4 y hy
    rcases e with e | e <;> (simp only [e, Bool.or_eq_true, decide_eq_true_eq] at q; exact q)
end L2

namespace L2
open PySem PySem.Spec PyProof.Rows

section
variable {prog : Program} {w : World} {A : Around} {R : Result → Shared → Prop} {s : Shared} {elt t0 i0 t1 i1 : Expr} {ifs0 ifs1 : List Expr} {scope : Scope} {pos : Pos} {it acc : Value} {env : Env}
end

section
variable {X : Cx}
end
end L2

namespace L2
open PySem PySem.Spec PyProof.Rows

section
variable {κ : Type} [DecidableEq κ]
noncomputable def valV (kvs : List (κ × V)) (k : κ) : Option V := (kvs.find? fun kv => decide (kv.1 = k)).map (·.2)
noncomputable def putK (kvs : List (κ × V)) (k : κ) (v : V) : List (κ × V) :=
  if (kvs.any fun kv => decide (kv.1 = k)) = true then kvs.map (fun kv => if kv.1 = k then (kv.1, v) else kv) else kvs ++ [(k, v)]

theorem valV_pos {p : κ × V} {r : List (κ × V)} {k : κ} (e : p.1 = k) : valV (p :: r) k = some p.2 := by simp [valV, List.find?_cons, e]
theorem valV_neg {p : κ × V} {r : List (κ × V)} {k : κ} (e : ¬ p.1 = k) : valV (p :: r) k = valV r k := by simp [valV, List.find?_cons, e]
theorem valV_any (k : κ) : ∀ kvs : List (κ × V), (kvs.any fun kv => decide (kv.1 = k)) = (valV kvs k).isSome
  | [] => rfl
  | p :: r => by
    rw [List.any_cons]
    by_cases e : p.1 = k
    · simp only [valV_pos e, decide_eq_true e, Bool.true_or, Option.isSome_some]
    · rw [valV_neg e, decide_eq_false e, Bool.false_or]; exact valV_any k r
theorem valV_map (k j : κ) (y : V) : ∀ kvs : List (κ × V), valV (kvs.map fun kv => if kv.1 = k then (kv.1, y) else kv) j = (valV kvs j).map fun x => if j = k then y else x
  | [] => rfl
  | p :: r => by
    have ih := valV_map k j y r
    rw [List.map_cons]
    by_cases h : p.1 = k
    · rw [if_pos h]
      by_cases e : p.1 = j
      · rw [valV_pos (p := (p.1, y)) e, valV_pos e, Option.map_some, if_pos (e.symm.trans h)]
      · rw [valV_neg (p := (p.1, y)) e, valV_neg e, ih]
    · rw [if_neg h]
      by_cases e : p.1 = j
      · rw [valV_pos (p := p) e, valV_pos e, Option.map_some, if_neg (fun z => h (e.trans z))]
      · rw [valV_neg (p := p) e, valV_neg e, ih]
theorem valV_snoc (k j : κ) (y : V) : ∀ kvs : List (κ × V), valV kvs k = none → valV (kvs ++ [(k, y)]) j = if j = k then some y else valV kvs j
  | [], _ => by
    by_cases e : k = j
    · rw [if_pos e.symm]; exact valV_pos (p := (k, y)) e
    · rw [if_neg (fun z => e z.symm)]; exact valV_neg (p := (k, y)) e
  | p :: r, hn => by
    rw [List.cons_append]
    have hk : ¬ p.1 = k := fun z => by rw [valV_pos z] at hn; cases hn
    rw [valV_neg hk] at hn
    have ih := valV_snoc k j y r hn
    by_cases e : p.1 = j
    · rw [valV_pos e, valV_pos e, if_neg (fun z => hk (e.trans z))]
    · rw [valV_neg e, valV_neg e, ih]
theorem valV_put (kvs : List (κ × V)) (k j : κ) (y : V) : valV (putK kvs k y) j = if j = k then some y else valV kvs j := by
  unfold putK
  by_cases a : (kvs.any fun kv => decide (kv.1 = k)) = true
  · rw [if_pos a, valV_map]
    rw [valV_any] at a
    by_cases e : j = k
    · obtain ⟨x, hx⟩ := Option.isSome_iff_exists.mp a
      rw [if_pos e, e, hx, Option.map_some, if_pos rfl]
    · rw [if_neg e]
      cases valV kvs j with
      | none => rfl
      | some x => rw [Option.map_some, if_neg e]
  · rw [if_neg a]
    refine valV_snoc k j y kvs ?_
    rw [valV_any] at a
    cases q : valV kvs k with
    | none => rfl
    | some x => rw [q] at a; exact (a rfl).elim
theorem length_putK (kvs : List (κ × V)) (k : κ) (v : V) : (putK kvs k v).length ≤ kvs.length + 1 := by
  unfold putK
  split
  · rw [List.length_map]; omega
  · rw [List.length_append, List.length_cons, List.length_nil]; omega
theorem putK_new {kvs : List (κ × V)} {k : κ} (v : V) (h : valV kvs k = none) : putK kvs k v = kvs ++ [(k, v)] := by
  unfold putK
  rw [valV_any, h]
  exact if_neg (by decide)

theorem RelO.isSome_eq {o : Option V} {u : Option Value} (r : RelO o u) : o.isSome = u.isSome := by
  cases o with
  | none => cases u with
    | none => rfl
    | some _ => exact (show False from r).elim
  | some _ => cases u with
    | none => exact (show False from r).elim
    | some _ => rfl

end

section
variable {P : Program} {w : World} {H : Hp} {h : Heap} {a : Addr}
end

section
variable {X : Cx} {pins : List (Addr × Obj)} {σ : St} {H : Hp} {s : Shared} {a : Addr} {y v : V} {u r : Value} {o : Option V} {A : Around} {E : Value → Shared → Prop}

theorem Inv.big (I : Inv X pins σ H s) : sysModules < s.heap.objs.size := by
  have h : mainGlobals < s.heap.objs.size := (I.mod.glob.keeps I.bk).lt
  exact Nat.lt_trans (by decide) h

theorem d_write {h' : Heap} {t' : Nat} {ob : HO} (I : Inv X pins σ H s) (mu : Mut (H a)) (hs : Heap.SameBut a s.heap h') (he : ∃ q, h'.get? a = some q) (new : ObjOk X.prog X.w (upd H a ob) h' a ob) :
    Inv X pins σ (upd H a ob) { s with heap := h', toks := t' } :=
  I.write (x := a) (e := a) mu (.inl rfl) (fun b q hb z => (hs.2 b hb).trans z) he new
end

section
variable {X : Cx} {pins : List (Addr × Obj)} {σ : St} {H : Hp} {s : Shared} {a : Addr} {kvs : List (Key × V)} {k : Key} {u : Value} {A : Around} {E : Value → Shared → Prop}
end

noncomputable def NoSl (i : Expr) : Prop := ∀ ov iv, subscripted i false ov iv = operate [ov, iv] (getItem ov iv)
theorem subD_of {prog : Program} {w : World} {A : Around} {E : Value → Shared → Prop} {s : Shared} {env : Env} {value slice : Expr} {pos : Pos} {T id : String} {Q : Value → Shared → Prop}
    (hl : typeLookup (.type T) "__getitem__" = pure (some (.builtin id))) (hs : NoSl slice)
    (h : wpAny (model prog w) A (eval value env) (fun o s₁ => wpAny (model prog w) A (eval slice env) (fun i s₂ => s₂.TypeIs o T ∧ wpAny (model prog w) A (getItem o i) Q E s₂) E s₁) E s) :
    wpAny (model prog w) A (eval (.Subscript value slice pos) env) Q E s := by
  refine Subscript_ (wpAny_mono h (fun o s₁ h₁ => wpAny_mono h₁ (fun i s₂ h₂ => ?_) fun _ _ x => x) fun _ _ x => x)
  obtain ⟨hT, h₂⟩ := h₂
  unfold subscriptTail
  refine wpAny_bind ?_
  rw [getitemInPython_of_ne hT.not_modules]
  refine wpAny_bind (wpAny_specialOf hT hl ?_)
  have fin : wpAny (model prog w) A (subscripted slice false o i) (fun r s₃ => wpAny (model prog w) A (letTemporaryGo value o r >>= fun _ => pure r) Q E s₃) E s₂ := by
    rw [hs o i]
    exact wpAny_operating (wpAny_mono h₂ (fun r s₃ h₃ => wpAny_bind (wpAny_letTemporaryGo (wpAny_pure h₃))) fun _ _ x => x)
  first
    | exact wpAny_pure (wpAny_bind fin)
    | exact wpAny_bind (wpAny_pure (wpAny_bind fin))
    | exact wpAny_bind fin

section
variable {X : Cx} {o i e value : Expr} {pos pos' tpos : Pos} {td ty tv : TE}
end

section
variable {X : Cx} {pos : Pos}
end

section
variable {X : Cx} {pins : List (Addr × Obj)} {σ : St} {H : Hp} {s : Shared} {a : Addr} {y d : V} {u r : Value} {o : Option V} {A : Around} {E : Value → Shared → Prop}
end

section
variable {X : Cx} {o e f : Expr} {apos cpos : Pos} {td ty tx : TE}
end

section
variable {X : Cx} {pins : List (Addr × Obj)} {σ : St} {H : Hp} {s : Shared} {a : Addr} {kvs : List (Key × V)} {A : Around} {E : Value → Shared → Prop}
end

section
variable {X : Cx} {pins : List (Addr × Obj)} {σ : St} {H : Hp} {s : Shared} {a : Addr} {y : V} {u : Value} {A : Around} {E : Value → Shared → Prop}
end
end L2

namespace L2
open PySem PySem.Spec PyProof.Rows

section
variable {prog : Program} {w : World} {A : Around} {E : Value → Shared → Prop}

end

section
variable {X : Cx}
end
end L2

namespace L2
open PySem PySem.Spec PyProof.Rows

section
variable {X : Cx} {pins : List (Addr × Obj)} {σ : St} {H : Hp} {s : Shared} {h' : Heap}
theorem Inv.turnedNew {t' : Nat} {ch : List Addr} {T : Addr} {ob : HO} (I : Inv X pins σ H s) (k : ∀ b o, b ∉ ch → s.heap.get? b = some o → h'.get? b = some o) (hf : ∀ b ∈ ch, FpOk X pins H b) (hT : s.heap.objs.size ≤ T)
    (new : ObjOk X.prog X.w (upd H T ob) h' T ob) : Inv X pins σ (upd H T ob) { s with heap := h', toks := t' } := by
  have hn : H T = none := I.hok.fresh hT
  have nit : ∀ b u, H b = some u → b ∉ ch := fun b u e z => by
    have q := (hf b z).1
    rw [q] at e; cases e
  refine I.step (g' := s.gens) (d' := s.drawn) (ch := ch) (fun b hb => ⟨(hf b hb).2.2.2.1, (hf b hb).2.1, (hf b hb).2.2.2.2.1, (hf b hb).2.2.2.2.2⟩) (fun b o _ _ hc e _ => k b o hc e) (fun b o _ _ hc e _ => ⟨o.slots, k b o hc e⟩)
    (fun b o _ e n => ?_) (fun b o hc e => ⟨o, k b o hc e⟩) (fun b xs e => ?_) (fun b o u e => ?_) (fun b ps e => ⟨#[], ?_⟩) (fun m hm => ?_) (fun b u e => ?_) I.bare
  · rw [upd_ne (Nat.ne_of_lt (Nat.lt_of_lt_of_le (Heap.lt_size e) hT))]; exact n
  · rw [upd_ne (ne_of_none e hn)]; exact e
  · rw [upd_ne (ne_of_none e hn)]; exact e
  · rw [upd_ne (ne_of_none e hn), e]; simp
  · obtain ⟨o, es, ep, ho, r⟩ := hm
    exact ⟨o, es, ep, k _ o (fun z => (hf _ z).2.1 rfl) ho, r⟩
  · by_cases hb : b = T
    · subst hb
      rw [upd_same] at e
      cases e
      exact new
    · rw [upd_ne hb] at e
      refine (I.hok b u e).stay (fun c v hc q => k c v ?_ q) (fun c q => by rw [upd_ne (ne_of_none q hn)]; exact q) fun c xs q => by rw [upd_ne (ne_of_none q hn)]; exact q
      rcases hc with z | z
      · rw [z]; exact nit b u e
      · exact nit c _ z

end
section
variable {X : Cx}

end

section
variable {X : Cx} {tg : Expr}
end

section
variable {X : Cx} {tg : Expr}
end

section
variable {prog : Program} {w : World} {A : Around} {E : Value → Shared → Prop} {s : Shared}
end

section
variable {X : Cx} {pins : List (Addr × Obj)} {σ : St} {H : Hp} {s : Shared} {d : Addr} {o : Obj}
end

section
variable {P : Program} {w : World} {K : PySem.W.Frag} {tg : Expr} {d : Addr} {o : Obj} {es : Array DictEntry} {ep : Nat}
end

section
variable {X : Cx} {tg e : Expr} {td : TE} {apos cpos : Pos}
end

noncomputable def Ite (K : PySem.W.Frag) (a : Addr) : It :=
  ⟨fun i H => ∃ (xs : List V) (x : V), SqL K H a xs ∧ xs[i]? = some x, fun i H v H' => ∃ T x, v = .ref T ∧ H T = none ∧ H' = upd H T (.tup [.int (i : Nat), x]) ∧ ∀ xs, SqL K H a xs → xs[i]? = some x, fun i H => ∃ xs : List V, SqL K H a xs ∧ xs.length ≤ i⟩
theorem turn_enum {P : Program} {w : World} {K : PySem.W.Frag} {elts : List Expr} {kk : Nat} {tpos : Pos} (a e it : Addr) :
    Turn P w K (.Tuple elts kk tpos) (Ite K a) [e, it] e (fun i h => (∃ old, IsEnum h e it ((i : Nat) : Int) old) ∧ h.IsListIter it a i ∧ e ≠ it) where
  mem := by simp
  obj := fun i h st b hb => by
    obtain ⟨⟨old, he⟩, ⟨o, ho, hc, hd⟩, _⟩ := st
    have e' : b = e ∨ b = it := by simpa using hb
    rcases e' with z | z
    · rw [z]; exact ⟨_, he, fun v q => nomatch q⟩
    · rw [z]; exact ⟨o, ho, fun v q => by rw [hd] at q; cases q⟩
  keep := fun i h h' st k => let ⟨⟨old, he⟩, hi, hne⟩ := st; ⟨⟨old, k e (by simp) _ he⟩, hi.at fun o q => k it (by simp) o q, hne⟩
  item := by
    intro X hP hw hK hc i pins s σ H E I hf st hg
    subst hP hw hK
    obtain ⟨⟨old, he⟩, hit, hne⟩ := st
    obtain ⟨xs, x, hq, hx⟩ := hg
    obtain ⟨its, rv, p, hz⟩ := I.list hq
    obtain ⟨u, hu, ru⟩ := rv.get hx
    have hel : e < s.heap.objs.size := Heap.lt_size he
    have hil : it < s.heap.objs.size := by obtain ⟨_, q, _⟩ := hit; exact Heap.lt_size q
    refine wpAny_pyNext_enum_item he hit p.isList (x := u) (by simpa using hu) hne fun h' ho hit' hT hsz hk => ?_
    refine ⟨_, rfl, wpAny_letOwnedTupleGo_enum (s := { s with heap := h', toks := s.toks + 1 }) ho fun h'' he' sb => ?_⟩
    have hT2 : h''.get? s.heap.objs.size = some { cls := .type "tuple", data := .seq #[.int i s.toks, u] } := (sb.2 _ (Nat.ne_of_gt hel)).trans hT
    have new : ObjOk X.prog X.w (upd H s.heap.objs.size (.tup [.int (i : Nat), x])) h'' s.heap.objs.size (.tup [.int (i : Nat), x]) :=
      ⟨by show 2 ≤ sizeLine; decide, [.int i s.toks, u], .cons ⟨_, rfl⟩ (.cons ru .nil), ⟨_, hT2, rfl, _, rfl⟩⟩
    have I1 : Inv X pins σ (upd H s.heap.objs.size (.tup [.int (i : Nat), x])) { s with heap := h'', toks := s.toks + 1 } :=
      I.turnedNew (ch := [e, it]) (fun b ob hb q => (sb.2 b (fun z => hb (by simp [z]))).trans (hk b ob (fun z => hb (by simp [z])) (fun z => hb (by simp [z])) q)) hf (Nat.le_refl _) new
    refine ⟨.ref s.heap.objs.size, _, I1, rfl, ⟨_, x, rfl, I.hok.fresh (Nat.le_refl _), rfl, fun ys hy => by rw [I.list_inj hy hq]; exact hx⟩, ⟨⟨u, ?_⟩, hit'.at fun o q => (sb.2 it (Ne.symm hne)).trans q, hne⟩, fun b hb => ?_⟩
    · have e1 : ((i + 1 : Nat) : Int) = (i : Int) + 1 := by omega
      rw [e1]; exact he'
    · have hb' : b < s.heap.objs.size := by
        have e' : b = e ∨ b = it := by simpa using hb
        rcases e' with z | z
        · rw [z]; exact hel
        · rw [z]; exact hil
      rw [upd_ne (Nat.ne_of_lt hb')]
      exact (hf b hb).1
  done := by
    intro X hP hw hK hc i pins s σ H E I hf st hg
    subst hP hw hK
    obtain ⟨⟨old, he⟩, hit, hne⟩ := st
    obtain ⟨xs, hq, hx⟩ := hg
    obtain ⟨its, rv, p, hz⟩ := I.list hq
    obtain ⟨f0, f1, f2, f3, f4, f5⟩ := hf it (by simp)
    have hl := rv.length
    exact wpAny_pyNext_enum_end (I.ok.hd hc) he hit p.isList (by simp; omega) fun h' eb => ⟨rfl, I.turned (t' := s.toks) (fun b o hb q => eb b o hb q) f0 f1 f3 f4 f5⟩
  self := fun A i s Q E st h => let ⟨⟨_, he⟩, _⟩ := st; wpAny_pyIter_enum he h
noncomputable def iEnum (K : PySem.W.Frag) (ta : TA) : TI := fun σ H R => ta σ H fun vs H1 => ∃ a xs, vs = [.ref a] ∧ SqL K H1 a xs ∧ R (Ite K a) H1
theorem pi_enum {X : Cx} {e : Expr} {ta : TA} {p pos tpos : Pos} {elts : List Expr} {kk : Nat} (hg : Gl X "enumerate") (hm : X.mg "enumerate" = none) (ha : PA X [e] ta) (hs : autoParam (starEach [e] X.env = [(false, eval e X.env)]) L2.au_rfl._auto_1) :
    PI X (.Tuple elts kk tpos) (.Call (.Name "enumerate" p) [e] [] pos) (iEnum X.K ta) := by
  intro pins s σ H R I h
  refine Call_ (ld_blt I hg hm boot_enumerate (PyProof.Rows.callWith_type1 (thn (ha pos pins s σ H _ I h) fun us s1 zz1 => ?_) hs rfl))
  obtain ⟨vs, H1, I1, r1, q1⟩ := zz1
  obtain ⟨a, xs, ex, hq, q⟩ := q1
  subst ex
  cases r1 with
  | cons r rr =>
    cases rr
    cases r
    obtain ⟨its, rv, p', hz⟩ := I1.list hq
    refine call_enumerate_list p'.isList fun h' he hit hsz hk => wpAny_pyIter_enum he ?_
    have I2 : Inv X pins σ H1 { s1 with heap := h' } := I1.kept (t' := s1.toks) hk
    refine ⟨s1.heap.objs.size + 1, [s1.heap.objs.size + 1, s1.heap.objs.size], _, _, H1, rfl, I2, turn_enum a (s1.heap.objs.size + 1) s1.heap.objs.size, ⟨⟨.none, he⟩, hit, Nat.succ_ne_self _⟩, fun b hb => ?_, q⟩
    have e' : b = s1.heap.objs.size + 1 ∨ b = s1.heap.objs.size := by simpa using hb
    have hle : s1.heap.objs.size ≤ b := by
      rcases e' with z | z
      · rw [z]; exact Nat.le_add_right _ _
      · rw [z]; exact Nat.le_refl _
    exact I1.fpOk hle (I1.hok.fresh hle)
end L2

section 
namespace Bits
open PySem PyProof.Rows

end Bits
end 

section 
namespace TL
open PySem PySem.Builtin PySem.Builtin.Str PySem.StrLaws

end TL
end 

namespace L2
open PySem PySem.Spec PyProof.Rows

section
variable {X : Cx} {pins : List (Addr × Obj)} {σ : St} {H : Hp} {s : Shared} {Q : VK}
end

section
variable {X : Cx}

end

section
variable {X : Cx} {o e : Expr} {to te : TE}

end
end L2

namespace L2
open PySem PySem.Spec PyProof.Rows

section
variable {X : Cx}
end

end L2

namespace Att
open PySem PySem.W PySem.Calls PyProof.Rows

section
variable {prog : Program} {w : World} {A : Around} {E : Value → Shared → Prop} {s : Shared} {K : Frag}

end
end Att

namespace L2
open PySem PySem.Spec PyProof.Rows

end L2

namespace L2
open PySem PySem.Spec PyProof.Rows

end L2

/- THE LAST THEOREM (shape; LID, My.* are yours):
   My.Adr: a structure of the addresses that your layer names (classes, functions); My.Txt K t: a structure (Prop) of the equations over K;
   My.txt_mk : {K} {implicit addresses ..} (e1 : nsIn K mainGlobals "law" = some (some (.ref f))) (e2 : K.lookup f = some ⟨oc, od, .func (fnOf "law" "law" params body scope dV kV doc pm an cdv ct), sl⟩) (e3 : codeIn K cdv "law" = true) .. : ∃ t, My.Txt K t

set_option maxRecDepth 100000 in
set_option maxHeartbeats 0 in
theorem PySem.Challenge.cw_LID_holds : PySem.Challenge.rw_LID.Holds := by
  w_on; o_law; k_head; (case hw => w_witness2)
  k_fill
  refine L2.walk_of (l := PySem.Challenge.rw_LID) (n := 63) (k := 40) (x := "script") (CX := fun w => ..) (sp := fun _ => My.sp_law) rfl (by decide) rfl ⟨rfl, by decide, by decide⟩ (fun w h Y => PySem.W.kIn_of Y) ?F ?S ?C
  case F =>
    intro w mg fa h KX G hmg
    have T : ∃ t, My.Txt (L2.KOf KX) t := by
      dsimp only [L2.KOf]                          -- K must stand as «<heap const> w.params» for k_is
      refine' My.txt_mk ?e1 ?e2 ?e3 ..
      (case e1 => PySem.W.k_is)                    -- in the order: a name -> its address -> its object -> its parts
      (case e2 => PySem.W.k_is)
      ..
    obtain ⟨t, T⟩ := T
    have e0 := hmg.symm.trans (PySem.W.mg_of KX G T.law)
    cases e0                                       -- fa is the law's own address
    exact ⟨_, fun s u => .of_eq rfl, fun base kb nb => My.law_fn T kb nb⟩     -- if «.of_eq rfl» comes too early: refine' ⟨_, ?b, fun base kb nb => My.law_fn T kb nb⟩; exact fun s u => .of_eq rfl
  case S => exact fun w H a ns hl hO hS => ..
  case C => exact ..
(the tactic k_is has no namespace: write k_is) -/

namespace L2
open PySem PySem.Spec PyProof.Rows

noncomputable def inClass (s : Stmt) (j : Nat) : Stmt := match s with
  | .ClassDef _ _ _ body _ _ _ _ _ _ _ => body.getD j (.Pass ⟨0, 0, 0, 0⟩)
  | _ => .Pass ⟨0, 0, 0, 0⟩
noncomputable def defArgs (s : Stmt) : Arguments := match s with
  | .FunctionDef _ a _ _ _ _ _ _ _ _ => a
  | _ => { posonlyargs := [], args := [], vararg := none, kwonlyargs := [], kw_defaults := [], kwarg := none, defaults := [] }
noncomputable def defBody (s : Stmt) : List Stmt := match s with
  | .FunctionDef _ _ b _ _ _ _ _ _ _ => b
  | _ => []
noncomputable def defScope (s : Stmt) : Scope := match s with
  | .FunctionDef _ _ _ _ _ _ sc _ _ _ => sc
  | _ => { kind := .function, names := [], isGenerator := false, isCoroutine := false }

noncomputable abbrev CX0 : CXT := fun _ _ _ _ _ _ => False
noncomputable abbrev E0 : XK := fun _ _ _ => False
theorem pass0 {X : Cx} : Passes CX0 X E0 := fun _ _ _ _ _ _ _ h => h.elim

structure Fun (K : PySem.W.Frag) (x qual : Str) (st : Stmt) (f : Addr) (fd : FuncData) : Prop where
  ex : ∃ (oc : Value) (od : Option Addr) (kV doc pm : Value) (an : Option Addr) (cdv ct : Value) (osl : Array (Option Value)),
    fd = PySem.W.fnOf x qual (defArgs st) (defBody st) (defScope st) .none kV doc pm an cdv ct ∧ K.lookup f = some ⟨oc, od, .func fd, osl⟩ ∧ PySem.W.codeIn K cdv qual = true
  kp : PySem.W.keepIn K (.ref f) = true
section
variable {P : Program} {w : World} {K : PySem.W.Frag} {mg : Str → Option Value} {base : Heap}
theorem Fun.ok {x qual : Str} {st : Stmt} {f : Addr} {fd : FuncData} {N ps : List Str} {k : Nat} {sp : Sp} (F : Fun K x qual st f fd) (S : FnScope N ps (defScope st)) (len : ∀ vs H Q E, sp vs H Q E → vs.length = ps.length)
    (hbody : ∀ (cdv : Value) (A : Around) (outer : List Env) (s : Shared) (H : Hp) (vs : List V) (Q : VK) (E : XK), Room k (A.deeper (envOfC qual (defScope st) s.heap.objs.size f cdv)) → sp vs H Q E →
      ∃ t, PSs (cxOf CX0 P w K mg base N qual (defScope st) f cdv A outer s H E).nox (defBody st) t ∧ t { nx := fun _ H' => Q .non H', rt := Q } (start N vs) H) : FnOk P w K mg base CX0 (k + 1) f fd ps sp := by
  obtain ⟨oc, od, kV, doc, pm, an, cdv, ct, osl, rfl, lk, hcd⟩ := F.ex
  refine fn_of lk hcd S len fun A outer s H vs Q E hr hsp => ?_
  obtain ⟨t, h, q⟩ := hbody cdv A outer s H vs Q E hr hsp
  exact ⟨t, h.nox, q⟩
theorem Fun.binds {x qual : Str} {st : Stmt} {f : Addr} {fd : FuncData} {ps : List Str} (F : Fun K x qual st f fd)
    (h : ∀ (kV doc pm : Value) (an : Option Addr) (cdv ct : Value) (us : List Value), us.length = ps.length → bindArgs (PySem.W.fnOf x qual (defArgs st) (defBody st) (defScope st) .none kV doc pm an cdv ct) ⟨us, []⟩ = pure (ps.zip us)) : Binds K fd ps [] := by
  obtain ⟨oc, od, kV, doc, pm, an, cdv, ct, osl, rfl, lk, hcd⟩ := F.ex
  exact .all (h kV doc pm an cdv ct)
theorem fun_mk {x qual : Str} {st : Stmt} {f : Addr} {oc : Value} {od an : Option Addr} {osl : Array (Option Value)} {kV doc pm cdv ct : Value} (l : K.lookup f = some ⟨oc, od, .func (PySem.W.fnOf x qual (defArgs st) (defBody st) (defScope st) .none kV doc pm an cdv ct), osl⟩)
    (c : PySem.W.codeIn K cdv qual = true) (k : PySem.W.keepIn K (.ref f) = true) : Fun K x qual st f (PySem.W.fnOf x qual (defArgs st) (defBody st) (defScope st) .none kV doc pm an cdv ct) := ⟨⟨oc, od, kV, doc, pm, an, cdv, ct, osl, rfl, l, c⟩, k⟩
end

section
variable {X : Cx}
theorem pv (i : Nat) {x : Str} {pos : Pos} (hN : autoParam (X.N[i]? = some x) L2.au_rfl._auto_1) (hv : Vis X.env.scope x := by first | exact Or.inl rfl | exact Or.inr (Or.inl rfl) | exact Or.inr (Or.inr rfl)) (hd : autoParam ((x == ("__debug__" : Str)) = false) L2.au_dec._auto_1)
    (hcd : autoParam ((x == ("__classdict__" : Str)) = false) L2.au_dec._auto_1) : PE X (.Name x pos) (tVar i) := pe_var hN hv hd hcd
end

theorem iteT {A B : Prop} (h : A) : if true = true then A else B := by
  rw [if_pos rfl]
  exact h

noncomputable def Same (H H' : Hp) : Prop := ∀ b o, H b = some o → H' b = some o
theorem Same.refl (H : Hp) : Same H H := fun _ _ h => h
theorem Same.trans {H H1 H2 : Hp} (a : Same H H1) (b : Same H1 H2) : Same H H2 := fun c o h => b c o (a c o h)
theorem Same.free {H H' : Hp} (e : Same H H') {l : Addr} (h : H' l = Option.none) : H l = Option.none := by
  cases q : H l with
  | none => rfl
  | some o =>
    rw [e l o q] at h
    cases h
theorem Same.seq {K : PySem.W.Frag} {H H' : Hp} {a : Addr} {xs : List V} (e : Same H H') (h : SqL K H a xs) : SqL K H' a xs := by
  rcases h with (h | ⟨o, h⟩) | h
  · exact .inl (.inl (e _ _ h))
  · exact .inl (.inr ⟨o, e _ _ h⟩)
  · exact .inr h

section
variable {κ : Type} [DecidableEq κ]
end
end L2
section
set_option Elab.async false
set_option linter.all false
set_option maxRecDepth 100000
set_option maxHeartbeats 2000000
namespace L2
open PySem PySem.Spec PyProof.Rows
open PySem.W (WData Codec OpenSpec Well WellAll ReadsW ReadsAllW)
mutual
inductive Dw (K : PySem.W.Frag) (H : Hp) : V → WData → Prop
  | non : Dw K H .non .none
  | bl (b : Bool) : Dw K H (.bl b) (.bool b)
  | int (i : Int) : Dw K H (.int i) (.int i)
  | str (x : Str) : Dw K H (.str x) (.str x)
  | byt (b : Array UInt8) : Dw K H (.byt b) (.bytes b.toList)
  | lst {a : Addr} {xs : List V} {ds : List WData} : SqL K H a xs → DwAll K H xs ds → Dw K H (.ref a) (.list ds)
  | tup {a : Addr} {xs : List V} {ds : List WData} : SqT K H a xs → DwAll K H xs ds → Dw K H (.ref a) (.tuple ds)
inductive DwAll (K : PySem.W.Frag) (H : Hp) : List V → List WData → Prop
  | nil : DwAll K H [] []
  | cons {v : V} {vs : List V} {d : WData} {ds : List WData} : Dw K H v d → DwAll K H vs ds → DwAll K H (v :: vs) (d :: ds)
end
theorem dw_ints {K : PySem.W.Frag} {H : Hp} : ∀ ns : List Int, DwAll K H (ns.map V.int) (ns.map WData.int)
  | [] => .nil
  | n :: r => .cons (.int n) (dw_ints r)
theorem ints_dw {K : PySem.W.Frag} {H : Hp} : ∀ (ns : List Int) (xs : List V), DwAll K H xs (ns.map WData.int) → xs = ns.map V.int
  | [], xs, h => by
    cases h
    rfl
  | n :: r, xs, h => by
    cases h with
    | cons h1 h2 =>
      cases h1
      rw [ints_dw r _ h2] <;> rfl
section
variable {P : Program} {w : World} {K : PySem.W.Frag} {H : Hp} {h : Heap} {R : PySem.W.WRecords} {cl : Str → Option Addr}
theorem sqL_at {a : Addr} {xs : List V} (hok : HOk P w H h) (KX : K.In h) (q : SqL K H a xs) : ∃ (its : List Value) (o : Obj) (n : Nat), Vals xs its ∧ h.get? a = some o ∧ o.cls = .type "list" ∧ o.data = .seq its.toArray n := by
  rcases q with q | ⟨o, its, n, e, hc, _, hd, _, hv⟩
  · obtain ⟨_, its, n, hv, e⟩ := (show ObjOk P w H h a (.lst xs) from q.ok hok)
    exact ⟨its, _, n, hv, e, rfl, rfl⟩
  · exact ⟨its.toList, o, n, hv, KX _ _ e, hc, by simp [hd]⟩
theorem sqT_at {a : Addr} {xs : List V} (hok : HOk P w H h) (KX : K.In h) (q : SqT K H a xs) : ∃ (its : List Value) (o : Obj) (n : Nat), Vals xs its ∧ h.get? a = some o ∧ o.cls = .type "tuple" ∧ o.data = .seq its.toArray n := by
  rcases q with q | ⟨o, its, n, e, hc, hd, _, hv⟩
  · obtain ⟨_, its, hv, o, e, hc, n, hd⟩ := (show ObjOk P w H h a (.tup xs) from q.ok hok)
    exact ⟨its, o, n, hv, e, hc, hd⟩
  · exact ⟨its.toList, o, n, hv, KX _ _ e, hc, by simp [hd]⟩
mutual
theorem Dw.reads (hok : HOk P w H h) (KX : K.In h) : ∀ (d : WData) (v : V) (u : Value), Dw K H v d → RelV v u → ∃ as, ReadsW R cl h u d as
  | .none, _, _, x, r => by
    cases x
    cases r
    exact ⟨_, ReadsW.none⟩
  | .bool b, _, _, x, r => by
    cases x
    cases r
    exact ⟨_, ReadsW.bool b⟩
  | .int i, _, _, x, r => by
    cases x
    obtain ⟨t, rfl⟩ := r
    exact ⟨_, ReadsW.int i t⟩
  | .str s, _, _, x, r => by
    cases x
    obtain ⟨t, rfl⟩ := r
    exact ⟨_, ReadsW.str s t⟩
  | .bytes b, _, _, x, r => by
    cases x
    obtain ⟨t, rfl⟩ := r
    exact ⟨_, ReadsW.bytes _ t⟩
  | .list ds, _, _, x, r => by
    cases x with
    | lst hs ha =>
      cases r
      obtain ⟨its, o, n, rv, ho, hc, hd⟩ := sqL_at hok KX hs
      obtain ⟨as, hr⟩ := Dw.readsAll hok KX ds _ its ha rv
      exact ⟨_, ReadsW.list ho hc hd hr⟩
  | .tuple ds, _, _, x, r => by
    cases x with
    | tup hs ha =>
      cases r
      obtain ⟨its, o, n, rv, ho, hc, hd⟩ := sqT_at hok KX hs
      obtain ⟨as, hr⟩ := Dw.readsAll hok KX ds _ its ha rv
      exact ⟨_, ReadsW.tuple ho hc hd hr⟩
  | .float _, _, _, x, _ => by cases x
  | .dict _, _, _, x, _ => by cases x
  | .bytearray _, _, _, x, _ => by cases x
  | .set _, _, _, x, _ => by cases x
  | .frozenset _, _, _, x, _ => by cases x
  | .obj _ _, _, _, x, _ => by cases x
theorem Dw.readsAll (hok : HOk P w H h) (KX : K.In h) : ∀ (ds : List WData) (vs : List V) (us : List Value), DwAll K H vs ds → Vals vs us → ∃ as, ReadsAllW R cl h us ds as
  | [], _, _, x, r => by
    cases x
    cases r
    exact ⟨_, ReadsAllW.nil⟩
  | d :: ds, _, _, x, r => by
    cases x with
    | cons h1 h2 =>
      cases r with
      | cons r1 r2 =>
        obtain ⟨as, q1⟩ := Dw.reads hok KX d _ _ h1 r1
        obtain ⟨bs, q2⟩ := Dw.readsAll hok KX ds _ _ h2 r2
        exact ⟨_, ReadsAllW.cons q1 q2⟩
end
end
mutual
noncomputable def plW : WData → Bool
  | .none => true
  | .bool _ => true
  | .int _ => true
  | .str _ => true
  | .bytes _ => true
  | .list xs => plWs xs
  | .tuple xs => plWs xs
  | _ => false
noncomputable def plWs : List WData → Bool
  | [] => true
  | x :: r => plW x && plWs r
end
theorem plWs_map {α : Type} {f : α → WData} (h : ∀ a, plW (f a) = true) : ∀ l : List α, plWs (l.map f) = true
  | [] => rfl
  | x :: r => by
    show (plW (f x) && plWs (r.map f)) = true
    rw [h x, plWs_map h r] <;> rfl
theorem pl_enc : ∀ (c : Codec) (a : c.denote), plW (c.enc a) = true
  | .unit, _ => rfl
  | .bool, _ => rfl
  | .int _ _, _ => rfl
  | .nat _ _, _ => rfl
  | .u8, _ => rfl
  | .bytes _ _, _ => rfl
  | .text _ _ _ _, _ => rfl
  | .list _ _ c, a => plWs_map (fun x => pl_enc c x) a
  | .pair c d, a => by
    show (plW (c.enc a.1) && (plW (d.enc a.2) && true)) = true
    rw [pl_enc c a.1, pl_enc d a.2] <;> rfl
  | .triple c d e, a => by
    show (plW (c.enc a.1) && (plW (d.enc a.2.1) && (plW (e.enc a.2.2) && true))) = true
    rw [pl_enc c a.1, pl_enc d a.2.1, pl_enc e a.2.2] <;> rfl
  | .option c, none => rfl
  | .option c, some x => pl_enc c x
theorem pl_encAll : ∀ (cs : List Codec) (a : Codec.denoteAll cs), plWs (Codec.encAll cs a) = true
  | [], _ => rfl
  | c :: cs, a => by
    show (plW (c.enc a.1) && plWs (Codec.encAll cs a.2)) = true
    rw [pl_enc c a.1, pl_encAll cs a.2] <;> rfl
theorem weight_mem : ∀ {xs : List WData} {d : WData}, d ∈ xs → d.weight ≤ WData.weightAll xs
  | [], d, h => absurd h (by simp)
  | x :: r, d, h => by
    show d.weight ≤ x.weight + 1 + WData.weightAll r
    rcases List.mem_cons.mp h with e | m
    · rw [e]
      omega
    · have z := weight_mem m
      omega
noncomputable def toV : Value → V
  | .none => .non
  | .bool b => .bl b
  | .int i _ => .int i
  | .str x _ => .str x
  | .bytes b _ => .byt b
  | .ref a => .ref a
  | _ => .non
noncomputable def OkU (A : List Addr) : Value → Prop
  | .none => True
  | .bool _ => True
  | .int _ _ => True
  | .str _ _ => True
  | .bytes _ _ => True
  | .ref a => a ∈ A
  | _ => False
theorem OkU.mono {A B : List Addr} (h : ∀ a ∈ A, a ∈ B) : ∀ {u : Value}, OkU A u → OkU B u := fun {u} x => by
  cases u with
  | ref a => exact h a x
  | none => trivial
  | bool b => trivial
  | int i t => trivial
  | str s t => trivial
  | bytes b t => trivial
  | _ => exact False.elim x
theorem relV_toV {A : List Addr} {u : Value} (x : OkU A u) : RelV (toV u) u := by
  cases u with
  | ref a => rfl
  | none => rfl
  | bool b => rfl
  | int i t => exact ⟨t, rfl⟩
  | str s t => exact ⟨t, rfl⟩
  | bytes b t => exact ⟨t, rfl⟩
  | _ => exact False.elim x
theorem vals_toV {A : List Addr} : ∀ {vs : List Value}, (∀ u ∈ vs, OkU A u) → Vals (vs.map toV) vs
  | [], _ => .nil
  | u :: r, h => .cons (relV_toV (h u (List.mem_cons_self ..))) (vals_toV fun x hx => h x (List.mem_cons_of_mem _ hx))
noncomputable def ArgOb (h : Heap) (A : List Addr) (a : Addr) : Prop := ∃ vs : List Value, vs.length ≤ sizeLine ∧ (∀ u ∈ vs, OkU A u) ∧
  (h.get? a = some { cls := .type "list", data := .seq vs.toArray } ∨ h.get? a = some { cls := .type "tuple", data := .seq vs.toArray })
theorem ArgOb.mono {h : Heap} {A B : List Addr} {a : Addr} (k : ∀ a ∈ A, a ∈ B) (x : ArgOb h A a) : ArgOb h B a := by
  obtain ⟨vs, h1, h2, h3⟩ := x
  exact ⟨vs, h1, fun u hu => (h2 u hu).mono k, h3⟩
theorem wellAll_len {P : Params} {h : Heap} : ∀ {vs : List Value} {ds : List WData}, WellAll P h vs ds → vs.length = ds.length
  | _, _, .nil => rfl
  | _, _, .cons _ b => by
    show _ + 1 = _ + 1
    rw [wellAll_len b]
theorem well_list {P : Params} {h : Heap} {v : Value} {ds : List WData} (x : Well P h v (.list ds)) : ∃ (a : Addr) (vs : List Value), v = .ref a ∧ h.get? a = some { cls := .type "list", data := .seq vs.toArray } ∧ WellAll P h vs ds := by
  cases x with
  | list ho hall => exact ⟨_, _, rfl, ho, hall⟩
theorem well_tuple {P : Params} {h : Heap} {v : Value} {ds : List WData} (x : Well P h v (.tuple ds)) : ∃ (a : Addr) (vs : List Value), v = .ref a ∧ h.get? a = some { cls := .type "tuple", data := .seq vs.toArray } ∧ WellAll P h vs ds := by
  cases x with
  | tuple ho hall => exact ⟨_, _, rfl, ho, hall⟩
theorem well_cons {P : Params} {h : Heap} {us : List Value} {d : WData} {ds : List WData} (x : WellAll P h us (d :: ds)) : ∃ (v : Value) (vs : List Value), us = v :: vs ∧ Well P h v d ∧ WellAll P h vs ds := by
  cases x with
  | cons a b => exact ⟨_, _, rfl, a, b⟩
theorem line_of {n : Nat} (h : n ≤ 1048576) : n ≤ sizeLine := Nat.le_trans h (by decide)
section
variable {P : Params} {h : Heap}
mutual
theorem area_one : ∀ (d : WData) (v : Value), Well P h v d → plW d = true → d.weight ≤ 1048576 → ∃ A : List Addr, OkU A v ∧ ∀ a ∈ A, ArgOb h A a
  | .none, _, x, _, _ => by
    cases x
    exact ⟨[], trivial, fun a m => absurd m (by simp)⟩
  | .bool b, _, x, _, _ => by
    cases x
    exact ⟨[], trivial, fun a m => absurd m (by simp)⟩
  | .int i, _, x, _, _ => by
    cases x
    exact ⟨[], trivial, fun a m => absurd m (by simp)⟩
  | .str s, _, x, _, _ => by
    cases x
    exact ⟨[], trivial, fun a m => absurd m (by simp)⟩
  | .bytes b, _, x, _, _ => by
    cases x
    exact ⟨[], trivial, fun a m => absurd m (by simp)⟩
  | .list ds, _, x, p, z => by
    obtain ⟨a, vs, rfl, ho, hall⟩ := well_list x
    have z2 : WData.weightAll ds ≤ 1048576 := z
    obtain ⟨A, h1, h2⟩ := area_all ds _ hall p fun d hd => Nat.le_trans (weight_mem hd) z2
    have k : ∀ b ∈ A, b ∈ a :: A := fun b hb => List.mem_cons_of_mem _ hb
    refine ⟨a :: A, List.mem_cons_self .., fun b hb => ?_⟩
    rcases List.mem_cons.mp hb with e | m
    · rw [e]
      exact ⟨vs, line_of (by rw [wellAll_len hall]; exact Nat.le_trans (PySem.W.length_le_weightAllW ds) z2), fun u hu => (h1 u hu).mono k, .inl ho⟩
    · exact (h2 b m).mono k
  | .tuple ds, _, x, p, z => by
    obtain ⟨a, vs, rfl, ho, hall⟩ := well_tuple x
    have z2 : WData.weightAll ds ≤ 1048576 := z
    obtain ⟨A, h1, h2⟩ := area_all ds _ hall p fun d hd => Nat.le_trans (weight_mem hd) z2
    have k : ∀ b ∈ A, b ∈ a :: A := fun b hb => List.mem_cons_of_mem _ hb
    refine ⟨a :: A, List.mem_cons_self .., fun b hb => ?_⟩
    rcases List.mem_cons.mp hb with e | m
    · rw [e]
      exact ⟨vs, line_of (by rw [wellAll_len hall]; exact Nat.le_trans (PySem.W.length_le_weightAllW ds) z2), fun u hu => (h1 u hu).mono k, .inr ho⟩
    · exact (h2 b m).mono k
  | .float _, _, _, p, _ => Bool.noConfusion (show false = true from p)
  | .dict _, _, _, p, _ => Bool.noConfusion (show false = true from p)
  | .bytearray _, _, _, p, _ => Bool.noConfusion (show false = true from p)
  | .set _, _, _, p, _ => Bool.noConfusion (show false = true from p)
  | .frozenset _, _, _, p, _ => Bool.noConfusion (show false = true from p)
  | .obj _ _, _, _, p, _ => Bool.noConfusion (show false = true from p)
theorem area_all : ∀ (ds : List WData) (vs : List Value), WellAll P h vs ds → plWs ds = true → (∀ d ∈ ds, d.weight ≤ 1048576) → ∃ A : List Addr, (∀ u ∈ vs, OkU A u) ∧ ∀ a ∈ A, ArgOb h A a
  | [], _, x, _, _ => by
    cases x
    exact ⟨[], fun u m => absurd m (by simp), fun a m => absurd m (by simp)⟩
  | d :: ds, _, x, p, z => by
    obtain ⟨v, vs, rfl, x1, x2⟩ := well_cons x
    have q : plW d = true ∧ plWs ds = true := Bool.and_eq_true_iff.mp p
    obtain ⟨A, a1, a2⟩ := area_one d v x1 q.1 (z d (List.mem_cons_self ..))
    obtain ⟨B, b1, b2⟩ := area_all ds vs x2 q.2 fun e he => z e (List.mem_cons_of_mem _ he)
    have kA : ∀ b ∈ A, b ∈ A ++ B := fun b hb => List.mem_append.mpr (.inl hb)
    have kB : ∀ b ∈ B, b ∈ A ++ B := fun b hb => List.mem_append.mpr (.inr hb)
    refine ⟨A ++ B, fun u hu => ?_, fun b hb => ?_⟩
    · rcases List.mem_cons.mp hu with e | m
      · rw [e]
        exact a1.mono kA
      · exact (b1 u m).mono kB
    · rcases List.mem_append.mp hb with m | m
      · exact (a2 b m).mono kA
      · exact (b2 b m).mono kB
end
end
noncomputable def hoOf (o : Obj) : Option HO := match o.data with
  | .seq vs _ => if (o.cls == Value.type "list") = true then some (.frz o (.lst (vs.toList.map toV))) else some (.frz o (.tup (vs.toList.map toV)))
  | _ => none
noncomputable def argH (K : PySem.W.Frag) (h : Heap) (A : List Addr) : Hp := fun b => if b ∈ A then (if (K.lookup b).isNone = true then (h.get? b).bind hoOf else none) else none
noncomputable def OnlyF (H : Hp) : Prop := ∀ b, H b = none ∨ ∃ o u, H b = some (.frz o u)
theorem hoOf_lst (vs : List Value) : hoOf { cls := .type "list", data := .seq vs.toArray } = some (.frz { cls := .type "list", data := .seq vs.toArray } (.lst (vs.map toV))) := by
  show (if (Value.type "list" == Value.type "list") = true then some (HO.frz { cls := .type "list", data := .seq vs.toArray } (.lst (vs.toArray.toList.map toV))) else some (HO.frz { cls := .type "list", data := .seq vs.toArray } (.tup (vs.toArray.toList.map toV)))) = _
  rw [if_pos (beq_self_eq_true _)]
theorem hoOf_tup (vs : List Value) : hoOf { cls := .type "tuple", data := .seq vs.toArray } = some (.frz { cls := .type "tuple", data := .seq vs.toArray } (.tup (vs.map toV))) := by
  show (if (Value.type "tuple" == Value.type "list") = true then some (HO.frz { cls := .type "tuple", data := .seq vs.toArray } (.lst (vs.toArray.toList.map toV))) else some (HO.frz { cls := .type "tuple", data := .seq vs.toArray } (.tup (vs.toArray.toList.map toV)))) = _
  rw [if_neg (by decide)]
section
variable {P : Program} {w : World} {K : PySem.W.Frag} {h : Heap} {A : List Addr}
theorem argH_at {b : Addr} {o : Obj} (hb : b ∈ A) (hk : K.lookup b = none) (e : h.get? b = some o) : argH K h A b = hoOf o := by
  unfold argH
  rw [if_pos hb, hk, if_pos (show (none : Option Obj).isNone = true from rfl), e] <;> rfl
theorem of_argH {b : Addr} {u : HO} (q : argH K h A b = some u) : b ∈ A ∧ K.lookup b = none := by
  unfold argH at q
  by_cases hb : b ∈ A
  · rw [if_pos hb] at q
    cases hk : K.lookup b with
    | none => exact ⟨hb, rfl⟩
    | some o =>
      rw [hk, if_neg (by simp)] at q
      cases q
  · rw [if_neg hb] at q
    cases q
theorem argH_is (ar : ∀ a ∈ A, ArgOb h A a) {b : Addr} {u : HO} (q : argH K h A b = some u) : K.lookup b = none ∧ ∃ vs : List Value, vs.length ≤ sizeLine ∧ (∀ u ∈ vs, OkU A u) ∧
    ((h.get? b = some { cls := .type "list", data := .seq vs.toArray } ∧ u = .frz { cls := .type "list", data := .seq vs.toArray } (.lst (vs.map toV))) ∨
     (h.get? b = some { cls := .type "tuple", data := .seq vs.toArray } ∧ u = .frz { cls := .type "tuple", data := .seq vs.toArray } (.tup (vs.map toV)))) := by
  obtain ⟨hb, hk⟩ := of_argH q
  obtain ⟨vs, h1, h2, h3⟩ := ar b hb
  refine ⟨hk, vs, h1, h2, ?_⟩
  rcases h3 with e | e
  · rw [argH_at hb hk e, hoOf_lst] at q
    exact .inl ⟨e, (Option.some.inj q).symm⟩
  · rw [argH_at hb hk e, hoOf_tup] at q
    exact .inr ⟨e, (Option.some.inj q).symm⟩
theorem argH_only (ar : ∀ a ∈ A, ArgOb h A a) : OnlyF (argH K h A) := fun b => by
  cases q : argH K h A b with
  | none => exact .inl rfl
  | some u =>
    obtain ⟨_, vs, _, _, ⟨_, e⟩ | ⟨_, e⟩⟩ := argH_is ar q
    · exact .inr ⟨_, _, by rw [e]⟩
    · exact .inr ⟨_, _, by rw [e]⟩
theorem argH_ok (ar : ∀ a ∈ A, ArgOb h A a) : HOk P w (argH K h A) h := fun b u q => by
  obtain ⟨_, vs, h1, h2, ⟨e, rfl⟩ | ⟨e, rfl⟩⟩ := argH_is ar q
  · exact ⟨e, by rw [List.length_map]; exact h1, vs, _, vals_toV h2, e⟩
  · exact ⟨e, by rw [List.length_map]; exact h1, vs, vals_toV h2, _, e, rfl, _, rfl⟩
theorem seq_inj {c c' : Value} {vs us : List Value} (e : (some { cls := c, data := .seq vs.toArray } : Option Obj) = some { cls := c', data := .seq us.toArray }) : c = c' ∧ vs = us := by
  have e1 := Option.some.inj e
  have e2 : c = c' := congrArg Obj.cls e1
  have e3 : Data.seq vs.toArray = Data.seq us.toArray := congrArg Obj.data e1
  injection e3 with e4
  refine ⟨e2, ?_⟩
  have e5 := congrArg Array.toList e4
  simpa using e5
theorem argL (KX : K.In h) (ar : ∀ a ∈ A, ArgOb h A a) {a : Addr} {vs : List Value} (ha : a ∈ A) (e : h.get? a = some { cls := .type "list", data := .seq vs.toArray }) : (∀ u ∈ vs, OkU A u) ∧ SqL K (argH K h A) a (vs.map toV) := by
  obtain ⟨us, h1, h2, h3⟩ := ar a ha
  have hu : us = vs := by
    rcases h3 with q | q
    · rw [e] at q
      exact (seq_inj q).2.symm
    · rw [e] at q
      exact absurd (Value.type.inj (seq_inj q).1) (by decide)
  subst hu
  refine ⟨h2, ?_⟩
  cases hk : K.lookup a with
  | none => exact .inl (.inr ⟨_, by rw [argH_at ha hk e, hoOf_lst]⟩)
  | some o =>
    have e2 := KX a o hk
    rw [e] at e2
    obtain rfl := Option.some.inj e2
    exact .inr ⟨_, us.toArray, _, hk, rfl, rfl, rfl, by rw [List.size_toArray]; exact h1, by simpa using vals_toV h2⟩
theorem argT (KX : K.In h) (ar : ∀ a ∈ A, ArgOb h A a) {a : Addr} {vs : List Value} (ha : a ∈ A) (e : h.get? a = some { cls := .type "tuple", data := .seq vs.toArray }) : (∀ u ∈ vs, OkU A u) ∧ SqT K (argH K h A) a (vs.map toV) := by
  obtain ⟨us, h1, h2, h3⟩ := ar a ha
  have hu : us = vs := by
    rcases h3 with q | q
    · rw [e] at q
      exact absurd (Value.type.inj (seq_inj q).1) (by decide)
    · rw [e] at q
      exact (seq_inj q).2.symm
  subst hu
  refine ⟨h2, ?_⟩
  cases hk : K.lookup a with
  | none => exact .inl (.inr ⟨_, by rw [argH_at ha hk e, hoOf_tup]⟩)
  | some o =>
    have e2 := KX a o hk
    rw [e] at e2
    obtain rfl := Option.some.inj e2
    exact .inr ⟨_, us.toArray, _, hk, rfl, rfl, by rw [List.size_toArray]; exact h1, by simpa using vals_toV h2⟩
mutual
theorem dw_one {Pm : Params} (KX : K.In h) (ar : ∀ a ∈ A, ArgOb h A a) : ∀ (d : WData) (v : Value), Well Pm h v d → plW d = true → OkU A v → Dw K (argH K h A) (toV v) d
  | .none, _, x, _, _ => by
    cases x
    exact .non
  | .bool b, _, x, _, _ => by
    cases x
    exact .bl b
  | .int i, _, x, _, _ => by
    cases x
    exact .int i
  | .str s, _, x, _, _ => by
    cases x
    exact .str s
  | .bytes b, _, x, _, _ => by
    cases x
    have z := Dw.byt (K := K) (H := argH K h A) b.toArray
    exact z
  | .list ds, _, x, p, hu => by
    obtain ⟨a, vs, rfl, ho, hall⟩ := well_list x
    obtain ⟨h2, hs⟩ := argL KX ar hu ho
    exact .lst hs (dw_all KX ar ds _ hall p h2)
  | .tuple ds, _, x, p, hu => by
    obtain ⟨a, vs, rfl, ho, hall⟩ := well_tuple x
    obtain ⟨h2, hs⟩ := argT KX ar hu ho
    exact .tup hs (dw_all KX ar ds _ hall p h2)
  | .float _, _, _, p, _ => Bool.noConfusion (show false = true from p)
  | .dict _, _, _, p, _ => Bool.noConfusion (show false = true from p)
  | .bytearray _, _, _, p, _ => Bool.noConfusion (show false = true from p)
  | .set _, _, _, p, _ => Bool.noConfusion (show false = true from p)
  | .frozenset _, _, _, p, _ => Bool.noConfusion (show false = true from p)
  | .obj _ _, _, _, p, _ => Bool.noConfusion (show false = true from p)
theorem dw_all {Pm : Params} (KX : K.In h) (ar : ∀ a ∈ A, ArgOb h A a) : ∀ (ds : List WData) (vs : List Value), WellAll Pm h vs ds → plWs ds = true → (∀ u ∈ vs, OkU A u) → DwAll K (argH K h A) (vs.map toV) ds
  | [], _, x, _, _ => by
    cases x
    exact .nil
  | d :: ds, _, x, p, hu => by
    obtain ⟨v, vs, rfl, x1, x2⟩ := well_cons x
    have q : plW d = true ∧ plWs ds = true := Bool.and_eq_true_iff.mp p
    exact .cons (dw_one KX ar d v x1 q.1 (hu _ (List.mem_cons_self ..))) (dw_all KX ar ds vs x2 q.2 fun u m => hu u (List.mem_cons_of_mem _ m))
end
end
theorem spec_call {P : Program} {w : World} {K : PySem.W.Frag} {mg mb : Str → Option Value} {CX : CXT} {k : Nat} {fa : Addr} {fd : FuncData} {ps : List Str} {sp : Sp} {s₁ : Shared} {vals : List Value} {ds : List WData} {R : PySem.W.WRecords} {cl : Str → Option Addr} {d0 : WData}
    (KX : K.In s₁.heap) (hns : s₁.heap.Ns mainGlobals mg) (hb : s₁.heap.Ns builtinsNs mb) (hbb : ∀ x : Str, x ≠ "__name__" → mb x = bootBuiltins x) (hlim : s₁.heap.NoLimit) (hg : s₁.gens = #[])
    (hwl : WellAll w.params s₁.heap vals ds) (hpl : plWs ds = true) (hwt : ∀ d ∈ ds, d.weight ≤ 1048576) (hr : Room k callerA)
    (F : ∀ base : Heap, K.In base → base.Ns mainGlobals mg → FnOk P w K mg base CX k fa fd ps sp) (hbind : ∀ (s : Shared) (us : List Value), us.length = ps.length → BindsTo s fd ⟨us, []⟩ (ps.zip us)) (hlen : ds.length = ps.length)
    (hsp : ∀ (H : Hp) (xs : List V), OnlyF H → DwAll K H xs ds → sp xs H (fun v H' => Dw K H' v d0) fun _ _ _ => False)
    (hCX : ∀ H e s', CX [] H s₁ (fun _ _ _ => False) e s' → False) :
    codeAny (model P w) callerA (.call (.ref fa) ⟨vals, []⟩) (fun r s' => ∃ u as, r = .ok (.ret u) ∧ ReadsW R cl s'.heap u d0 as ∧ OldK s₁.heap s'.heap ∧ s'.os = s₁.os ∧ AllBare s'.gens) s₁ := by
  obtain ⟨A, ho, ar⟩ := area_all ds vals hwl hpl hwt
  have hO : OnlyF (argH K s₁.heap A) := argH_only ar
  have hok : HOk P w (argH K s₁.heap A) s₁.heap := argH_ok ar
  have hS := dw_all KX ar ds vals hwl hpl ho
  have hV := vals_toV ho
  have hK : ∀ b u, argH K s₁.heap A b = some u → K.lookup b = none := fun b u q => (argH_is ar q).1
  have noA : ∀ {b : Addr} {o : Obj} {es : Array DictEntry} {ep : Nat}, s₁.heap.get? b = some o → o.data = .dict es ep → argH K s₁.heap A b = none := fun {b o es ep} e d => by
    cases q : argH K s₁.heap A b with
    | none => rfl
    | some u =>
      obtain ⟨_, vs, _, _, ⟨e2, _⟩ | ⟨e2, _⟩⟩ := argH_is ar q
      · rw [e2] at e
        cases e
        have d' : Data.seq vs.toArray _ = Data.dict es ep := d
        cases d'
      · rw [e2] at e
        cases e
        have d' : Data.seq vs.toArray _ = Data.dict es ep := d
        cases d'
  generalize argH K s₁.heap A = H at hO hok hS hK noA
  have base_of : ∀ {b : Addr} {o : Obj}, s₁.heap.get? b = some o → H b = none → (hidT s₁.heap H).get? b = some o := fun e n => hidT_get e n
  have nsK : ∀ {b : Addr} {m : Str → Option Value}, s₁.heap.Ns b m → (hidT s₁.heap H).Ns b m := fun {b m} ⟨o, es, ep, e, d, r⟩ => ⟨o, es, ep, base_of e (noA e d), d, r⟩
  have nK : ∀ b o, K.lookup b = some o → H b = none := fun b o e => by
    cases q : H b with
    | none => rfl
    | some u =>
      rw [hK b u q] at e
      cases e
  have hKb : K.In (hidT s₁.heap H) := fun b o e => base_of (KX b o e) (nK b o e)
  have hM : Mod K mg (hidT s₁.heap H) := ⟨hKb, nsK hns, ⟨mb, nsK hb, hbb⟩, let ⟨mc, h1, h2⟩ := hlim; ⟨mc, nsK h1, h2⟩⟩
  have e0 : Env0 P w K mg (hidT s₁.heap H) callerA [] s₁ H := ⟨rfl, hM, fun b o e => of_hidT e, Nat.le_of_eq (hidT_size _ _), trivial, fun b hb => absurd (show b ∈ ([] : List Addr) from hb) (by simp), hok, .of_eq hg⟩
  have hl : vals.length = ps.length := by rw [wellAll_len hwl]; exact hlen
  refine codeAny_mono ((F _ hKb (nsK hns)).run callerA [] s₁ H ⟨vals, []⟩ vals (vals.map toV) _ _ hr e0 (hbind s₁ vals hl) hV (hsp H _ hO hS)) fun r s' x => ?_
  cases r with
  | error e => exact (hCX H e s' x).elim
  | ok fl =>
    cases fl with
    | next => exact False.elim x
    | brk => exact False.elim x
    | cont => exact False.elim x
    | ret u =>
      obtain ⟨v, H', os, bare, un, hok', r', q⟩ := x
      have kept : ∀ b o, s₁.heap.get? b = some o → s'.heap.get? b = some o := fun b o e => by
        cases q2 : H b with
        | none => exact un.keep b o e q2 (by intro z; exact absurd (show b ∈ ([] : List Addr) from z) (by simp)) (by simp)
        | some u2 =>
          rcases hO b with z | ⟨ob, u3, z⟩
          · rw [q2] at z
            cases z
          · have z2 := un.frzs b ob _ z
            obtain ⟨e1, _⟩ := hok b _ z
            obtain ⟨e2, _⟩ := hok' b _ z2
            rw [e] at e1
            cases e1
            exact e2
      have KX' : K.In s'.heap := fun b o e => kept b o (KX b o e)
      obtain ⟨as, hrd⟩ := Dw.reads (R := R) (cl := cl) hok' KX' d0 v u q r'
      exact ⟨u, as, rfl, hrd, OldK.of_keep kept, os, bare⟩
theorem layable_weight {ds : List WData} (h : WData.layableAll ds = true) : ∀ d ∈ ds, d.weight ≤ 1048576 := fun d hd =>
  (PySem.W.layableW_iff.mp (List.all_eq_true.mp h d hd)).2.2
theorem encAll_len : ∀ (cs : List Codec) (a : Codec.denoteAll cs), (Codec.encAll cs a).length = cs.length
  | [], _ => rfl
  | c :: cs, a => by
    show (Codec.encAll cs a.2).length + 1 = cs.length + 1
    rw [encAll_len cs a.2]
theorem walk_spec {r : OpenSpec} {k : Nat} {q : Program} {loose : List Str} {XP : (Str → Option Value) → Heap → Prop} {YP : World → Heap → Prop} {d : DefRec} {K : Params → PySem.W.Frag} {CX : World → CXT} {ps : List Str} {sp : World → Sp}
    (hwell : r.wellSaid = true) (hdf : d.params.defaults = []) (hlen : r.args.length = ps.length) (hr : Room k callerA)
    (hY : ∀ (w : World) (h : Heap), YP w h → (K w.params).In h)
    (F : ∀ (w : World) (mg : Str → Option Value) (fa : Addr) (h : Heap), YP w h → (K w.params).In h → h.Ns mainGlobals mg → mg d.name = some (.ref fa) →
      ∃ fd : FuncData, (∀ (s : Shared) (us : List Value), us.length = ps.length → BindsTo s fd ⟨us, []⟩ (ps.zip us)) ∧
        ∀ base : Heap, (K w.params).In base → base.Ns mainGlobals mg → FnOk r.prog w (K w.params) mg base (CX w) k fa fd ps (sp w))
    (hsp : ∀ (w : World) (H : Hp) (xs : List V) (a : Codec.denoteAll r.args), OnlyF H → Codec.withinAll r.args a = true → Codec.app r.args r.asked a = true → DwAll (K w.params) H xs (Codec.encAll r.args a) →
      sp w xs H (fun v H' => Dw (K w.params) H' v (r.ret.enc (Codec.app r.args r.f a))) fun _ _ _ => False)
    (hCX : ∀ (w : World) (H : Hp) (s : Shared) (e : Value) (s' : Shared), CX w [] H s (fun _ _ _ => False) e s' → False) :
    PySem.W.WalkOS q loose XP YP r d [] (fun f vs => PySem.call f vs) := by
  intro w s_0 s₁ mg mb G Y fa o pm cd doc dV kV ho hd hcd hD hmg hg args vals as hpre hlay hrd hwl hlo
  obtain ⟨a, e1, e2⟩ := PySem.W.os_pre_some hpre
  obtain ⟨e3, hwi⟩ := Codec.encAll_of_decAll r.args args a e1
  subst e3
  have KX := hY w _ Y
  obtain ⟨fd, hb, hF⟩ := F w mg fa _ Y KX G.T.g hmg
  refine PySem.W.enter_call (codeAny_mono (spec_call (R := []) (cl := classAt s_0.heap) (d0 := r.ret.enc (Codec.app r.args r.f a)) KX G.T.g G.T.b G.T.builtins G.T.nolimit hg hwl (pl_encAll _ _) (layable_weight hlay) hr hF hb (by rw [encAll_len]; exact hlen)
    (fun H xs hO hS => hsp w H xs a hO hwi e2 hS) fun H e s' => hCX w H s₁ e s') fun r' s' hq => ?_)
  obtain ⟨u, as', rfl, h1, h2, h3, h4⟩ := hq
  exact ⟨.inl ⟨u, _, as', rfl, fun _ => rfl, h1, (OpenSpec.post_iff hwell hwi _ _).mpr rfl, fun z => Bool.noConfusion (show false = true from z)⟩, h2, h3, h4⟩
theorem walk_specK {r : OpenSpec} {k : Nat} {q : Program} {loose : List Str} {XP : (Str → Option Value) → Heap → Prop} {YP : World → Heap → Prop} {d : DefRec} {K : Params → PySem.W.Frag} {CX : CXT} {ps : List Str} {sp : PySem.W.Frag → Sp}
    (hwell : r.wellSaid = true) (hdf : d.params.defaults = []) (hlen : r.args.length = ps.length) (hr : Room k callerA)
    (hY : ∀ (w : World) (h : Heap), YP w h → (K w.params).In h)
    (F : ∀ (w : World) (mg : Str → Option Value) (fa : Addr) (h : Heap), YP w h → (K w.params).In h → h.Ns mainGlobals mg → mg d.name = some (.ref fa) →
      ∃ fd : FuncData, (∀ (s : Shared) (us : List Value), us.length = ps.length → BindsTo s fd ⟨us, []⟩ (ps.zip us)) ∧
        ∀ base : Heap, (K w.params).In base → base.Ns mainGlobals mg → FnOk r.prog w (K w.params) mg base CX k fa fd ps (sp (K w.params)))
    (hsp : ∀ (K : PySem.W.Frag) (H : Hp) (xs : List V) (a : Codec.denoteAll r.args), OnlyF H → Codec.withinAll r.args a = true → Codec.app r.args r.asked a = true → DwAll K H xs (Codec.encAll r.args a) →
      sp K xs H (fun v H' => Dw K H' v (r.ret.enc (Codec.app r.args r.f a))) fun _ _ _ => False)
    (hCX : ∀ (H : Hp) (s : Shared) (e : Value) (s' : Shared), CX [] H s (fun _ _ _ => False) e s' → False) :
    PySem.W.WalkOS q loose XP YP r d [] (fun f vs => PySem.call f vs) :=
  walk_spec (K := K) (CX := fun _ => CX) (sp := fun w => sp (K w.params)) hwell hdf hlen hr hY F (fun w H xs a h1 h2 h3 h4 => hsp (K w.params) H xs a h1 h2 h3 h4) fun _ H s e s' => hCX H s e s'
end L2
-- rests on (row put in by the clerk, for the bench that shows a file only what it spells): KE.SpHead KE.OsShapes
end

namespace L2
open PySem PySem.Spec PyProof.Rows
noncomputable def GA (H : Hp) : GK → V → Prop
  | .non, y => y = V.non
  | .tup l, y => ∃ a, y = V.ref a ∧ H a = some (.tup (l.map V.int))
  | .two p q, y => ∃ a b c, y = V.ref a ∧ H a = some (.tup [.ref b, .ref c]) ∧ H b = some (.tup (p.map V.int)) ∧ H c = some (.tup (q.map V.int))
theorem GA.gv {H : Hp} {k : GK} {y : V} {u : Value} (g : GA H k y) (r : RelV y u) : GV H k u := by
  cases k with
  | non =>
    cases (show y = V.non from g)
    exact r
  | tup l =>
    obtain ⟨a, e, h⟩ := g
    subst e
    exact ⟨a, r, h⟩
  | two p q =>
    obtain ⟨a, b, c, e, h⟩ := g
    subst e
    exact ⟨a, b, c, r, h⟩
theorem GA.none {H : Hp} : GA H .non .non := rfl
theorem GA.tup {H : Hp} {a : Addr} {l : List Int} (h : H a = some (.tup (l.map V.int))) : GA H (.tup l) (.ref a) := ⟨a, rfl, h⟩
theorem GA.two {H : Hp} {a b c : Addr} {p q : List Int} (h : H a = some (.tup [.ref b, .ref c])) (h1 : H b = some (.tup (p.map V.int))) (h2 : H c = some (.tup (q.map V.int))) : GA H (.two p q) (.ref a) := ⟨a, b, c, rfl, h, h1, h2⟩
theorem KG.val {H : Hp} {kvs : List (GK × V)} {xs : List GX} (r : KG H kvs xs) (k : GK) : RelO (valV kvs k) (atG xs k) := by
  induction r with
  | nil => exact True.intro
  | @cons p q ps qs h t ih =>
    obtain ⟨h1, _, h2⟩ := h
    by_cases e : p.1 = k
    · have b : atG (q :: qs) k = some q.2.2 := by simp [atG, List.find?_cons, h1.symm.trans e]
      rw [valV_pos e, b]; exact h2
    · have b : atG (q :: qs) k = atG qs k := by simp [atG, List.find?_cons, show ¬ q.1 = k from fun z => e (h1.trans z)]
      rw [valV_neg e, b]; exact ih
theorem KG.repl {H : Hp} {kvs : List (GK × V)} {xs : List GX} (r : KG H kvs xs) (k : GK) {y : V} {u : Value} (ry : RelV y u) :
    KG H (kvs.map fun kv => if kv.1 = k then (kv.1, y) else kv) (xs.map (putG k u)) := by
  induction r with
  | nil => exact .nil
  | @cons p q ps qs h t ih =>
    rw [List.map_cons, List.map_cons]
    refine .cons ?_ ih
    obtain ⟨h1, h2, h3⟩ := h
    unfold putG
    by_cases e : p.1 = k
    · rw [if_pos e, if_pos (h1.symm.trans e)]; exact ⟨h1, h2, ry⟩
    · rw [if_neg e, if_neg (fun z => e (h1.trans z))]; exact ⟨h1, h2, h3⟩
theorem KG.snoc {H : Hp} {kvs : List (GK × V)} {xs : List GX} (r : KG H kvs xs) {k : GK} {v u : Value} {y : V} (g : GV H k v) (ry : RelV y u) : KG H (kvs ++ [(k, y)]) (xs ++ [(k, v, u)]) := Paired.snoc r ⟨rfl, g, ry⟩
theorem KG.put {H : Hp} {kvs : List (GK × V)} {xs : List GX} (r : KG H kvs xs) (k : GK) {v u : Value} {y : V} (g : GV H k v) (ry : RelV y u) : KG H (putK kvs k y) (storeG xs k v u) := by
  have e : (kvs.any fun kv => decide (kv.1 = k)) = (atG xs k).isSome := by rw [valV_any, (r.val k).isSome_eq]
  unfold putK storeG
  rw [e]
  by_cases q : (atG xs k).isSome = true
  · rw [if_pos q, if_pos q]; exact r.repl k ry
  · rw [if_neg q, if_neg q]; exact r.snoc g ry
theorem KG.keeps {H H' : Hp} {kvs : List (GK × V)} {xs : List GX} (r : KG H kvs xs) (ht : ∀ b ys, H b = some (.tup ys) → H' b = some (.tup ys)) : KG H' kvs xs := Paired.mapP r fun _ _ z => ⟨z.1, z.2.1.keeps ht, z.2.2⟩
section
variable {P : Program} {w : World} {H : Hp} {h : Heap} {a : Addr}
theorem items_int : ∀ {l : List Int} {us : List Value}, Vals (l.map V.int) us → ItemsAre (intKind P w) l us
  | [], _, r => by rw [List.map_nil] at r; cases r; exact .nil
  | k :: ks, _, r => by
    rw [List.map_cons] at r
    cases r with
    | cons q t =>
      obtain ⟨tk, e⟩ := (show ∃ t, _ = Value.int k t from q)
      subst e
      exact .cons (intKind_is _ _ _ _) (items_int t)
theorem tkey_of {l : List Int} (ok : HOk P w H h) (e : H a = some (.tup (l.map V.int))) : IsTupleKey (intKind P w) h l a := by
  obtain ⟨_, its, r, o, h1, h2, n, h3⟩ := (show ObjOk P w H h a (.tup (l.map V.int)) from ok a _ e)
  exact ⟨o, its.toArray, n, h1, h2, h3, by simpa using items_int r⟩
theorem gkey_of {k : GK} {u : Value} (ok : HOk P w H h) (g : GV H k u) : gIs P w h k u := by
  cases k with
  | non => exact g
  | tup l => obtain ⟨b, e, q⟩ := g; exact ⟨b, e, tkey_of ok q⟩
  | two x y =>
    obtain ⟨b, c, d, e, q, q1, q2⟩ := g
    obtain ⟨_, its, r, o, h1, h2, n, h3⟩ := (show ObjOk P w H h b (.tup [.ref c, .ref d]) from ok b _ q)
    obtain ⟨u1, u2, ei, r1, r2⟩ := vals2 r
    cases (show u1 = Value.ref c from r1)
    cases (show u2 = Value.ref d from r2)
    subst ei
    exact ⟨b, c, d, o, n, e, h1, h2, h3, tkey_of ok q1, tkey_of ok q2⟩
theorem dg_of {kvs : List (GK × V)} (ok : HOk P w H h) (e : H a = some (.dG kvs)) : kvs.length ≤ sizeLine ∧ (a == sysModules) = false ∧ ∃ xs, KG H kvs xs ∧ DictG P w h a xs := by
  obtain ⟨z, y, xs, r, o, es, ep, h1, h2, h3, h4, h5⟩ := (show ObjOk P w H h a (.dG kvs) from ok a _ e)
  refine ⟨z, y, xs, r, o, es, ep, h1, h2, h3, h4, fun x hx => ?_, h5⟩
  have all : ∀ {l : List (GK × V)} {m : List GX}, KG H l m → ∀ x ∈ m, gIs P w h x.1 x.2.1 := by
    intro l m q
    induction q with
    | nil => intro x hx; exact nomatch hx
    | @cons p q ps qs hq t ih =>
      intro x hx
      rcases List.mem_cons.mp hx with e | hx
      · subst e
        exact gkey_of ok (by rw [← hq.1]; exact hq.2.1)
      · exact ih x hx
  exact all r x hx
theorem dg_obj {P : Program} {w : World} {H' : Hp} {h' : Heap} {kvs : List (GK × V)} {xs : List GX} (z : kvs.length ≤ sizeLine) (hd : (a == sysModules) = false) (r : KG H' kvs xs) (m : DictG P w h' a xs) : ObjOk P w H' h' a (.dG kvs) := by
  obtain ⟨o, es, ep, h1, h2, h3, h4, _, h5⟩ := m
  exact ⟨z, hd, xs, r, o, es, ep, h1, h2, h3, h4, h5⟩
end
section
variable {X : Cx} {pins : List (Addr × Obj)} {σ : St} {H : Hp} {s : Shared} {a : Addr} {kvs kvs' : List (GK × V)} {xs xs' : List GX} {h' : Heap} {t : Nat}
theorem Inv.dgWrite (I : Inv X pins σ H s) (e : H a = some (.dG kvs)) (z : kvs'.length ≤ sizeLine) (hd : (a == sysModules) = false) (r : KG H kvs' xs') (m : DictG X.prog X.w h' a xs') (hs : Heap.SameBut a s.heap h') :
    Inv X pins σ (upd H a (.dG kvs')) { s with heap := h', toks := t } := by
  refine d_write I (by rw [e]; exact True.intro) hs (let ⟨q, _, _, hq, _⟩ := m; ⟨q, hq⟩) (dg_obj z hd (r.keeps fun c ys ec => ?_) m)
  rw [upd_ne (ne_of ec e (fun z => nomatch z))]
  exact ec
end
noncomputable def tGGet (td ty : TE) : TE := fun σ H Q => td σ H fun x H1 => ty σ H1 fun y H2 => ∃ a kvs k v, x = .ref a ∧ H2 a = some (.dG kvs) ∧ GA H2 k y ∧ valV kvs k = some v ∧ Q v H2
noncomputable def tGIn (ty td : TE) : TE := fun σ H Q => ty σ H fun y H1 => td σ H1 fun x H2 => ∃ a kvs k, x = .ref a ∧ H2 a = some (.dG kvs) ∧ GA H2 k y ∧ Q (.bl (valV kvs k).isSome) H2
noncomputable def tGNotIn (ty td : TE) : TE := fun σ H Q => ty σ H fun y H1 => td σ H1 fun x H2 => ∃ a kvs k, x = .ref a ∧ H2 a = some (.dG kvs) ∧ GA H2 k y ∧ Q (.bl (!(valV kvs k).isSome)) H2
noncomputable def sGPut (td ty tv : TE) : TS := fun D σ H => tv σ H fun v H1 => td σ H1 fun x H2 => ty σ H2 fun y H3 => ∃ a kvs k, x = .ref a ∧ H3 a = some (.dG kvs) ∧ GA H3 k y ∧ kvs.length < sizeLine ∧ D.nx σ (upd H3 a (.dG (putK kvs k v)))
noncomputable def tGNew : TE := fun _ H Q => ∀ p, H p = none → Q (.ref p) (upd H p (.dG []))
noncomputable def tGDisp (ty tv : TE) : TE := fun σ H Q => ∀ p, H p = none → ty σ (upd H p (.dG [])) fun y H1 => tv σ H1 fun v H2 => ∃ k, GA H2 k y ∧ H2 p = some (.dG []) ∧ Q (.ref p) (upd H2 p (.dG [(k, v)]))
section
variable {X : Cx} {o i e value : Expr} {pos pos' : Pos} {td ty tv : TE}
theorem pe_gget (hu : X.A.units + 4 < cLine) (ho : PE X o td) (hi : PE X i ty) (hs : NoSl i) : PE X (.Subscript o i pos) (tGGet td ty) := by
  intro pins s σ H Q I h
  refine subD_of PySem.F.slot_dict_getitem.lookup hs (thn (ho pins s σ H _ I h) fun u s1 zz1 => ?_)
  obtain ⟨x, H1, I1, rx, q1⟩ := zz1
  refine thn (hi pins s1 σ H1 _ I1 q1) fun iv s2 zz1 => ?_
  obtain ⟨y, H2, I2, ry, a, kvs, k, v, ex, hd, g, l, q2⟩ := zz1
  subst ex
  obtain rfl : u = Value.ref a := rx
  obtain ⟨z, hm, xs, r, m⟩ := dg_of I2.hok hd
  obtain ⟨w', hw, rw'⟩ := RelO.some_of (v := v) (o := atG xs k) (by rw [← l]; exact r.val k)
  exact ⟨m.typeIs, g_getItem hu (gkey_of I2.hok (g.gv ry)) m hw fun t => ⟨v, H2, I2.tok _, rw', q2⟩⟩
theorem pc_gin (hu : X.A.units + 4 < cLine) (hi : PE X i ty) (ho : PE X o td) : PC X .In i o (tGIn ty td) := by
  intro pins s σ H Q I h
  refine thn (hi pins s σ H _ I h) fun iv s1 zz1 => ?_
  obtain ⟨y, H1, I1, ry, q1⟩ := zz1
  refine thn (ho pins s1 σ H1 _ I1 q1) fun u s2 zz1 => ?_
  obtain ⟨x, H2, I2, rx, a, kvs, k, ex, hd, g, q2⟩ := zz1
  subst ex
  obtain rfl : u = Value.ref a := rx
  obtain ⟨z, hm, xs, r, m⟩ := dg_of I2.hok hd
  refine g_in hu (gkey_of I2.hok (g.gv ry)) hm m fun t => ?_
  rw [← (r.val k).isSome_eq]
  exact ⟨.bl (valV kvs k).isSome, H2, I2.tok _, rfl, q2⟩
theorem pc_gnotin (hu : X.A.units + 4 < cLine) (hi : PE X i ty) (ho : PE X o td) : PC X .NotIn i o (tGNotIn ty td) := by
  intro pins s σ H Q I h
  refine thn (hi pins s σ H _ I h) fun iv s1 zz1 => ?_
  obtain ⟨y, H1, I1, ry, q1⟩ := zz1
  refine thn (ho pins s1 σ H1 _ I1 q1) fun u s2 zz1 => ?_
  obtain ⟨x, H2, I2, rx, a, kvs, k, ex, hd, g, q2⟩ := zz1
  subst ex
  obtain rfl : u = Value.ref a := rx
  obtain ⟨z, hm, xs, r, m⟩ := dg_of I2.hok hd
  refine g_notIn hu (gkey_of I2.hok (g.gv ry)) hm m fun t => ?_
  rw [← (r.val k).isSome_eq]
  exact ⟨.bl (!(valV kvs k).isSome), H2, I2.tok _, rfl, q2⟩
theorem ps_gput (hu : X.A.units + 4 < cLine) (ho : PE X o td) (hi : PE X i ty) (hv : PE X value tv) (hs : swapsWith value (some (.Subscript o i pos')) pos.line X.env = pure false) :
    PS X (.Assign [.Subscript o i pos'] value pos) (sGPut td ty tv) := by
  intro pins s σ H D I h
  refine wpAny_Assign_Subscript (thn (hv pins s σ H _ I h) fun r s1 zz1 => ?_) hs
  obtain ⟨v, H1, I1, rv, q1⟩ := zz1
  refine thn (ho pins s1 σ H1 _ I1 q1) fun u s2 zz1 => ?_
  obtain ⟨x, H2, I2, rx, q2⟩ := zz1
  refine thn (hi pins s2 σ H2 _ I2 q2) fun iv s3 zz1 => ?_
  obtain ⟨y, H3, I3, ry, a, kvs, k, ex, hd, g, hl, q3⟩ := zz1
  subst ex
  obtain rfl : u = Value.ref a := rx
  obtain ⟨z, hm, xs, rel, m⟩ := dg_of I3.hok hd
  have hz : xs.length ≤ sizeLine := by rw [← Paired.length rel]; exact z
  have hl' : (putK kvs k v).length ≤ sizeLine := by have := length_putK kvs k v; omega
  refine g_setItem hu (gkey_of I3.hok (g.gv ry)) m hz fun h' t m' hs' => ⟨σ, _, ?_, q3⟩
  exact I3.dgWrite hd hl' hm (rel.put k (g.gv ry) rv) m' hs'
theorem dg_empty {P : Program} {w : World} {H : Hp} (h : Heap) (hb : sysModules < h.objs.size) : ObjOk P w H (h.push { cls := .type "dict", data := .dict #[] }) h.objs.size (.dG []) :=
  ⟨Nat.zero_le _, beq_eq_false_iff_ne.mpr (Ne.symm (Nat.ne_of_lt hb)), [], .nil, _, #[], 0, Heap.get?_push_size _ rfl, ⟨rfl, rfl, rfl⟩, rfl, rfl, List.nodup_nil⟩
theorem pe_gnew : PE X (.Dict [] [] pos) tGNew := fun pins s σ H Q I h =>
  wpAny_Dict_empty ⟨.ref s.heap.objs.size, _, I.laid (a := s.heap.objs.size) (o := .dG []) (t' := s.toks) (fun _ _ q => Heap.get?_push_of_some _ q) (Nat.le_refl _) (dg_empty s.heap I.big), rfl, h _ (I.hok.fresh (Nat.le_refl _))⟩
theorem pe_gdisp (hu : X.A.units + 4 < cLine) (hk : PE X i ty) (hv : PE X value tv) : PE X (.Dict [some i] [value] pos) (tGDisp ty tv) := by
  intro pins s σ H Q I q
  have hn := I.hok.fresh (Nat.le_refl s.heap.objs.size)
  have I1 := I.laid (a := s.heap.objs.size) (o := .dG []) (h' := s.heap.push { cls := .type "dict", data := .dict #[] }) (t' := s.toks) (fun _ _ q => Heap.get?_push_of_some _ q) (Nat.le_refl _) (dg_empty s.heap I.big)
  refine g_display1 (by omega) (thn (hk pins _ σ _ _ I1 (q _ hn)) fun kv s1 ⟨y, H1, J1, ry, q1⟩ => thn (hv pins s1 σ H1 _ J1 q1) fun u s2 ⟨v, H2, J2, rv, k, g, e, q2⟩ => ?_)
  obtain ⟨z, hm, xs, r, m⟩ := dg_of J2.hok e
  cases r
  refine ⟨k, gkey_of J2.hok (g.gv ry), m, fun h' t m' hs' => ⟨.ref s.heap.objs.size, _, ?_, rfl, q2⟩⟩
  exact J2.dgWrite e (by show 1 ≤ sizeLine; decide) hm (.cons ⟨rfl, g.gv ry, rv⟩ .nil) m' hs'
end
section
variable {X : Cx}
noncomputable def rSetD : V → List V → Hp → VK → Prop := fun x vs H Q => ∃ a kvs k y v, x = .ref a ∧ vs = [y, v] ∧ H a = some (.dG kvs) ∧ GA H k y ∧ kvs.length < sizeLine ∧ (∀ r, valV kvs k = some r → Q r H) ∧ (valV kvs k = none → Q v (upd H a (.dG (kvs ++ [(k, v)]))))
theorem mt_setdefault (hu : X.A.units + 4 < cLine) : MtR X "dict.setdefault" rSetD := by
  intro pins s σ H x xs v us Q I rx rs h
  obtain ⟨a, kvs, k, y, d, ex, exs, hd, g, hl, q1, q2⟩ := h
  subst ex exs
  obtain rfl : v = Value.ref a := rx
  obtain ⟨u1, u2, e, r1, r2⟩ := vals2 rs
  subst e
  obtain ⟨z, hm, ys, rel, m⟩ := dg_of I.hok hd
  have hz : ys.length ≤ sizeLine := by rw [← Paired.length rel]; exact z
  refine g_setdefault hu (gkey_of I.hok (g.gv r1)) hm m hz (fun r t e => ?_) fun e h' t m' hs' => ?_
  · cases e2 : valV kvs k with
    | none =>
      have q := rel.val k
      rw [e2, e] at q
      exact q.elim
    | some v' =>
      have q := rel.val k
      rw [e2, e] at q
      exact ⟨v', H, I.tok _, q, q1 v' e2⟩
  · have e2 : valV kvs k = none := by
      cases e2 : valV kvs k with
      | none => rfl
      | some v' =>
        have q := rel.val k
        rw [e2, e] at q
        exact q.elim
    exact ⟨d, _, I.dgWrite hd (by rw [List.length_append]; exact hl) hm (rel.snoc (g.gv r1) r2) m' hs', r2, q2 e2⟩
noncomputable def ValO (p d : Addr) : HO := .ext fun h => h.IsValuesView p d
noncomputable def rVals : V → List V → Hp → VK → Prop := fun x vs H Q => ∃ a kvs, x = .ref a ∧ vs = [] ∧ H a = some (.dG kvs) ∧ ∀ p, H p = none → Q (.ref p) (upd H p (ValO p a))
theorem mt_values : MtR X "dict.values" rVals := by
  intro pins s σ H x xs v us Q I rx rs h
  obtain ⟨a, kvs, ex, exs, hd, q⟩ := h
  subst ex exs
  obtain rfl : v = Value.ref a := rx
  cases rs
  obtain ⟨z, hm, ys, rel, o, es, ep, h1, h2, _⟩ := dg_of I.hok hd
  refine call_values hm h1 h2 ⟨.ref s.heap.objs.size, _, I.laid (a := s.heap.objs.size) (o := ValO s.heap.objs.size a) (t' := s.toks) (fun _ _ q => Heap.get?_push_of_some _ q) (Nat.le_refl _) ?_, rfl, q _ (I.hok.fresh (Nat.le_refl _))⟩
  have vw : (s.heap.push { cls := .type "dict_values", data := .fields #[.ref a] }).IsValuesView s.heap.objs.size a := ⟨_, Heap.get?_push_size _ rfl, rfl, rfl⟩
  exact ⟨vw, let ⟨ob, e, _⟩ := vw; ⟨ob, e⟩, fun g1 g2 x k => let ⟨ob, e, y⟩ := x; ⟨ob, k ob e, y⟩⟩
theorem vals_of_kg {H : Hp} : ∀ {kvs : List (GK × V)} {xs : List GX}, KG H kvs xs → Vals (kvs.map (·.2)) (xs.map (·.2.2))
  | _, _, .nil => .nil
  | _, _, .cons h t => .cons h.2.2 (vals_of_kg t)
theorem call_listVals (hc : X.calm = true) : CallR X (.type "list") (fun vs H Q => ∃ p a kvs, vs = [.ref p] ∧ H p = some (ValO p a) ∧ H a = some (.dG kvs) ∧ ∀ l, H l = none → Q (.ref l) (upd H l (.lst (kvs.map (·.2))))) := by
  intro pins s σ H xs us Q I r h
  obtain ⟨p, a, kvs, ex, hp, hd, q⟩ := h
  subst ex
  obtain ⟨u, eu, rx⟩ := vals1 r
  subst eu
  cases rx
  obtain ⟨vw, _, _⟩ := (show ObjOk X.prog X.w H s.heap p (ValO p a) from I.hok p _ hp)
  obtain ⟨z, hm, ys, rel, o, es, ep, h1, h2, h3, h4, _⟩ := dg_of I.hok hd
  have hl : ys.length = kvs.length := (Paired.length rel).symm
  have hsz : es.size ≤ sizeLine := by rw [entG_size h4, hl]; exact z
  refine list_values (es := es) (ep := ep) (I.ok.hd hc) vw ⟨o, h1, h3⟩ hsz fun h' tk c' kp e => ?_
  have ev : es.map (·.val) = (ys.map (·.2.2)).toArray := by
    apply Array.ext'
    rw [Array.toList_map, h4, List.map_map]
    rfl
  rw [ev] at e
  exact ⟨.ref s.heap.objs.size, _, I.laid (a := s.heap.objs.size) (t' := tk) kp (Nat.le_refl _) (show ObjOk X.prog X.w _ h' _ (.lst (kvs.map (·.2))) from ⟨by rw [List.length_map]; exact z, _, c', vals_of_kg rel, e⟩), rfl, q _ (I.hok.fresh (Nat.le_refl _))⟩
end
end L2

namespace L2
open PySem PySem.Spec PyProof.Rows
section
variable {es : List Expr} {env : Env} {p : Pos}
theorem st_name {x : Str} : starEach (.Name x p :: es) env = (false, eval (.Name x p) env) :: starEach es env := rfl
theorem st_const {c : Const} {k : Nat} : starEach (.Constant c k p :: es) env = (false, eval (.Constant c k p) env) :: starEach es env := rfl
theorem st_attr {a : Expr} {x : Str} : starEach (.Attribute a x p :: es) env = (false, eval (.Attribute a x p) env) :: starEach es env := rfl
theorem st_sub {a b : Expr} : starEach (.Subscript a b p :: es) env = (false, eval (.Subscript a b p) env) :: starEach es env := rfl
theorem st_call {a : Expr} {l : List Expr} {k : List Keyword} : starEach (.Call a l k p :: es) env = (false, eval (.Call a l k p) env) :: starEach es env := rfl
theorem st_bin {a b : Expr} {o : Operator} : starEach (.BinOp a o b p :: es) env = (false, eval (.BinOp a o b p) env) :: starEach es env := rfl
theorem st_tup {l : List Expr} {k : Nat} : starEach (.Tuple l k p :: es) env = (false, eval (.Tuple l k p) env) :: starEach es env := rfl
theorem st_lc {a : Expr} {g : List Comprehension} {s : Scope} : starEach (.ListComp a g s p :: es) env = (false, eval (.ListComp a g s p) env) :: starEach es env := rfl
end
theorem boot_any_ : bootBuiltins "any" = some (.builtin "any") := by decide +kernel
theorem boot_list_ : bootBuiltins "list" = some (.type "list") := by decide +kernel
theorem boot_tuple_ : bootBuiltins "tuple" = some (.type "tuple") := by decide +kernel
theorem lk_eq {f : Str} {v : V} {fs : List (Str × V)} : List.lookup f ((f, v) :: fs) = some v := by
  have hb : (f == f) = true := beq_iff_eq.mpr rfl
  simp only [List.lookup, hb]
theorem lk_ne {f g : Str} {v : V} {fs : List (Str × V)} (h : f ≠ g) : List.lookup f ((g, v) :: fs) = List.lookup f fs := by
  have hb : (f == g) = false := beq_eq_false_iff_ne.mpr h
  simp only [List.lookup, hb]
theorem pf_nil {f : Str} {v : V} : putF f v [] = [(f, v)] := rfl
theorem pf_eq {f : Str} {v u : V} {fs : List (Str × V)} : putF f v ((f, u) :: fs) = (f, v) :: fs := by
  show (if f = f then _ else _) = _
  rw [if_pos rfl]
theorem pf_ne {f g : Str} {v u : V} {fs : List (Str × V)} (h : ¬ g = f) : putF f v ((g, u) :: fs) = (g, u) :: putF f v fs := by
  show (if g = f then _ else _) = _
  rw [if_neg h]
noncomputable def Kept (F : List Addr) (H H' : Hp) : Prop := ∀ b o, H b = some o → b ∉ F → H' b = some o
theorem Kept.refl (F : List Addr) (H : Hp) : Kept F H H := fun _ _ h _ => h
theorem Kept.trans {F : List Addr} {H H1 H2 : Hp} (a : Kept F H H1) (b : Kept F H1 H2) : Kept F H H2 := fun c o h n => b c o (a c o h n) n
theorem Kept.same {F : List Addr} {H H1 : Hp} (a : Same H H1) : Kept F H H1 := fun c o h _ => a c o h
theorem Kept.upd {F : List Addr} {H H1 : Hp} {p : Addr} {o : HO} (a : Kept F H H1) (h : p ∈ F) : Kept F H (upd H1 p o) := fun c u e n => by
  rw [upd_ne (fun (z : c = p) => n (by rw [z]; exact h))]
  exact a c u e n
theorem Kept.new {F : List Addr} {H H1 : Hp} {p : Addr} {o : HO} (a : Kept F H H1) (h : H1 p = none) : Kept F H (L2.upd H1 p o) := fun c u e n => by
  have q := a c u e n
  rw [upd_ne (ne_of_none q h)]
  exact q
theorem Same.new {H H1 : Hp} {p : Addr} {o : HO} (a : Same H H1) (h : H1 p = none) : Same H (upd H1 p o) := fun c u e => by
  have q := a c u e
  rw [upd_ne (ne_of_none q h)]
  exact q
theorem hu4 {A : Around} {k : Nat} (hr : Room k A) : A.units + 4 < cLine := by have := hr.units; omega
theorem boot_max_ : bootBuiltins "max" = some (.builtin "max") := by decide +kernel
theorem Same.at {H0 H : Hp} {p : Addr} {o : HO} (s : Same H0 H) (h : H0 p = none) : Same H0 (upd H p o) := fun b u e => by
  rw [upd_ne (fun z => by rw [z, h] at e; cases e)]
  exact s b u e
theorem Kept.at {F : List Addr} {H0 H : Hp} {p : Addr} {o : HO} (s : Kept F H0 H) (h : H0 p = none) : Kept F H0 (L2.upd H p o) := fun b u e n => by
  rw [upd_ne (fun z => by rw [z, h] at e; cases e)]
  exact s b u e n
theorem Kept.free {F : List Addr} {H0 H : Hp} (s : Kept F H0 H) {l : Addr} (h : H l = none) (n : l ∉ F) : H0 l = none := by
  cases e : H0 l with
  | none => rfl
  | some o => rw [s l o e n] at h; cases h
section
variable {X : Cx}
theorem pe_fldK (K : PySem.W.Frag) {e : Expr} {f : Str} {pos : Pos} {ta : TE} (hK : X.K = K) (he : PE X e ta) (hb : attributeBase e f X.env (eval e X.env) = eval e X.env) : PE X (.Attribute e f pos) (tFld K ta f) := by
  subst hK
  exact pe_fld he hb
theorem ix_listK (K : PySem.W.Frag) (hK : X.K = K) : IxR X (rIxL K) := by
  subst hK
  exact ix_list
theorem op_in_seqK (K : PySem.W.Frag) (hK : X.K = K) : OpR X (compareOp .In) (rIn K false) := by
  subst hK
  exact op_in_seq
theorem pg_tupK (K : PySem.W.Frag) {es : List Expr} {k : Nat} {t : TGs} {n : Nat} (hK : X.K = K) (h : ∀ {tpos : Pos}, PG X (.Tuple es k tpos) (gTup X.K n t)) {tpos : Pos} : PG X (.Tuple es k tpos) (gTup K n t) := by
  subst hK
  exact h
end
noncomputable def tJoin (t u : TS) : TS := fun D σ H => ∃ J : St → Hp → Prop, t { D with nx := J } σ H ∧ ∀ σ' H', J σ' H' → u D σ' H'
theorem pss_join {X : Cx} {st : Stmt} {rest : List Stmt} {t u : TS} (h1 : PS X st t) (h2 : PSs X rest u) : PSs X (st :: rest) (tJoin t u) := by
  intro pins s σ H D I h
  obtain ⟨J, h, hJ⟩ := h
  refine wpAny_execs_cons (thn (h1 pins s σ H { D with nx := J } I h) fun f s1 q => ?_)
  cases f with
  | next =>
    obtain ⟨σ', H', I', q⟩ := q
    exact h2 pins s1 σ' H' D I' (hJ _ _ q)
  | ret v => exact q
  | brk => exact q
  | cont => exact q
theorem for_enum {K : PySem.W.Frag} {a : Addr} {xs : List V} {g : TG} {tb : TS} {D : Ends} {σ : St} {H : Hp} (Pv : Nat → St → Hp → Prop) (h0 : Pv 0 σ H) (hl : ∀ i σ H, i ≤ xs.length → Pv i σ H → SqL K H a xs)
    (hs : ∀ i x σ H T, xs[i]? = some x → Pv i σ H → H T = none → g (.ref T) σ (upd H T (.tup [.int (i : Nat), x])) fun σ2 H2 => tb { D with nx := Pv (i + 1), ct := Pv (i + 1), bk := D.nx } σ2 H2) (hd : ∀ σ H, Pv xs.length σ H → D.nx σ H) :
    ∃ W : Nat → Nat → St → Hp → Prop, (∃ m, W 0 m σ H) ∧ ∀ i m σ H, W i m σ H →
      ((Ite K a).stop i H ∧ D.nx σ H) ∨ ((Ite K a).go i H ∧ ∃ N : St → Hp → Prop, (∀ σ' H', N σ' H' → ∃ m', m' < m ∧ W (i + 1) m' σ' H') ∧ ∀ x H', (Ite K a).yld i H x H' → g x σ H' fun σ2 H2 => tb { D with nx := N, ct := N, bk := D.nx } σ2 H2) := by
  refine ⟨fun i m σ H => m = xs.length - i ∧ i ≤ xs.length ∧ Pv i σ H, ⟨xs.length, by simp, Nat.zero_le _, h0⟩, ?_⟩
  rintro i m σ H ⟨rfl, hi, p⟩
  have q := hl i σ H hi p
  by_cases hlt : i < xs.length
  · refine .inr ⟨⟨xs, xs[i], q, by simp [hlt]⟩, Pv (i + 1), fun σ' H' p' => ⟨xs.length - (i + 1), by omega, rfl, hlt, p'⟩, fun x H' y => ?_⟩
    obtain ⟨T, z, rfl, hT, rfl, y⟩ := y
    exact hs i z σ H T (y xs q) p hT
  · have e : i = xs.length := by omega
    subst e
    exact .inl ⟨⟨xs, q, Nat.le_refl _⟩, hd σ H p⟩
theorem lc_enum {K : PySem.W.Frag} {a : Addr} {xs : List V} {g : TG} {tt : TT} {te : TE} {vs : List Nat} {σ : St} {H1 : Hp} {D : Addr} {Qd : Hp → Prop} (Pv : Nat → Hp → Prop) (h0 : Pv 0 (upd H1 D (.lst []))) (hl : ∀ i H, i ≤ xs.length → Pv i H → SqL K H a xs)
    (hs : ∀ i x H T, xs[i]? = some x → Pv i H → H T = none → g (.ref T) (wipe σ vs) (upd H T (.tup [.int (i : Nat), x])) fun σ2 H2 => wipe σ2 vs = wipe σ vs ∧ tt σ2 H2 fun b H3 =>
      if b = true then te σ2 H3 fun y H4 => ∃ acc, H4 D = some (.lst acc) ∧ acc.length < sizeLine ∧ Pv (i + 1) (upd H4 D (.lst (acc ++ [y]))) else Pv (i + 1) H3) (hd : ∀ H, Pv xs.length H → Qd H) :
    ∃ W : Nat → Nat → Hp → Prop, (∃ m, W 0 m (upd H1 D (.lst []))) ∧ ∀ i m H, W i m H →
      ((Ite K a).stop i H ∧ Qd H) ∨ ((Ite K a).go i H ∧ ∃ Nx : Hp → Prop, (∀ H', Nx H' → ∃ m', m' < m ∧ W (i + 1) m' H') ∧ ∀ x H', (Ite K a).yld i H x H' → g x (wipe σ vs) H' fun σ2 H2 => wipe σ2 vs = wipe σ vs ∧ tt σ2 H2 fun b H3 =>
        if b = true then te σ2 H3 fun y H4 => ∃ acc, H4 D = some (.lst acc) ∧ acc.length < sizeLine ∧ Nx (upd H4 D (.lst (acc ++ [y]))) else Nx H3) := by
  refine ⟨fun i m H => m = xs.length - i ∧ i ≤ xs.length ∧ Pv i H, ⟨xs.length, by simp, Nat.zero_le _, h0⟩, ?_⟩
  rintro i m H ⟨rfl, hi, p⟩
  have q := hl i H hi p
  by_cases hlt : i < xs.length
  · refine .inr ⟨⟨xs, xs[i], q, by simp [hlt]⟩, Pv (i + 1), fun H' p' => ⟨xs.length - (i + 1), by omega, rfl, hlt, p'⟩, fun x H' y => ?_⟩
    obtain ⟨T, z, rfl, hT, rfl, y⟩ := y
    exact hs i z H T (y xs q) p hT
  · have e : i = xs.length := by omega
    subst e
    exact .inl ⟨⟨xs, q, Nat.le_refl _⟩, hd H p⟩
end L2

namespace KM
open Kp195
noncomputable instance : DecidableEq Place := fun a b => by
  cases a with | mk la ta => cases b with | mk lb tb =>
  exact if h : la = lb ∧ ta = tb then isTrue (by rw [h.1, h.2]) else isFalse (fun e => h (by cases e; exact ⟨rfl, rfl⟩))

theorem zip_all_eq : ∀ (a b : List Nat), a.length = b.length → ((a.zip b).all fun x => x.1 == x.2) = true → a = b
  | [], [], _, _ => rfl
  | [], _ :: _, h, _ => by simp at h
  | _ :: _, [], h, _ => by simp at h
  | x :: xs, y :: ys, h, e => by
    simp only [List.zip_cons_cons, List.all_cons, Bool.and_eq_true, beq_iff_eq] at e
    rw [e.1, zip_all_eq xs ys (by simpa using h) e.2]
theorem zip_all_self : ∀ (a : List Nat), ((a.zip a).all fun x => x.1 == x.2) = true
  | [] => rfl
  | x :: xs => by simp only [List.zip_cons_cons, List.all_cons, Bool.and_eq_true, beq_self_eq_true, true_and]; exact zip_all_self xs
theorem same_iff (a b : Place) : same a b = true ↔ a = b := by
  cases a with | mk la ta => cases b with | mk lb tb =>
  unfold same
  simp only [Bool.and_eq_true, beq_iff_eq]
  constructor
  · rintro ⟨h1, h2, h3⟩
    rw [h1, zip_all_eq la lb h2 h3]
  · intro e
    cases e
    exact ⟨rfl, rfl, zip_all_self la⟩
theorem find_some {l : List Place} {p : Place} {k : Nat} (h : find l p = some k) : l[k]? = some p := by
  unfold find at h
  rw [List.findIdx?_eq_some_iff_getElem] at h
  obtain ⟨hk, he, _⟩ := h
  rw [same_iff] at he
  rw [List.getElem?_eq_getElem hk, ← he]
theorem find_none {l : List Place} {p : Place} : find l p = none ↔ p ∉ l := by
  unfold find
  rw [List.findIdx?_eq_none_iff]
  constructor
  · intro h hm
    have := h p hm
    rw [(same_iff p p).mpr rfl] at this
    cases this
  · intro h x hx
    cases e : same p x with
    | false => rfl
    | true => exact absurd ((same_iff p x).mp e ▸ hx) h
theorem find_mem {l : List Place} {p : Place} (h : p ∈ l) : ∃ k, find l p = some k := by
  cases e : find l p with
  | none => exact absurd h (find_none.mp e)
  | some k => exact ⟨k, rfl⟩

inductive Reach (d : Deal) (p : Place) : Place → Prop
  | here : Reach d p p
  | next {q : Place} {m : Nat} : Reach d p q → m ∈ moves d q → Reach d p (move d q m).1
noncomputable def TooMany (d : Deal) (p : Place) : Prop := ∃ l : List Place, l.Nodup ∧ 300 < l.length ∧ ∀ q ∈ l, Reach d p q
noncomputable def ClosedL (d : Deal) (l : List Place) : Prop := ∀ q ∈ l, ∀ m ∈ moves d q, (move d q m).1 ∈ l
theorem reach_in {d : Deal} {p q : Place} {l : List Place} (hc : ClosedL d l) (hp : p ∈ l) (h : Reach d p q) : q ∈ l := by
  induction h with
  | here => exact hp
  | next _ hm ih => exact hc _ ih _ hm

theorem nodup_le {α : Type} [DecidableEq α] : ∀ {l r : List α}, l.Nodup → (∀ x ∈ l, x ∈ r) → l.length ≤ r.length
  | [], _, _, _ => Nat.zero_le _
  | x :: l, r, h, hs => by
    rw [List.nodup_cons] at h
    have hx := hs x (by simp)
    have := nodup_le (l := l) (r := r.erase x) h.2 (fun y hy => by
      have hne : y ≠ x := fun e => h.1 (e ▸ hy)
      exact (List.mem_erase_of_ne hne).mpr (hs y (by simp [hy])))
    rw [List.length_erase_of_mem hx] at this
    have hpos : 0 < r.length := List.length_pos_of_mem hx
    simp only [List.length_cons]; omega

noncomputable def add1 (d : Deal) (p : Place) (a : List Place) (m : Nat) : List Place :=
  let q := (move d p m).1
  match find a q with
    | some _ => a
    | none => a ++ [q]
theorem add1_sub {d : Deal} {p : Place} {a : List Place} {m : Nat} : ∃ e, add1 d p a m = a ++ e := by
  unfold add1
  dsimp only
  split
  · exact ⟨[], by simp⟩
  · exact ⟨_, rfl⟩
theorem add1_has {d : Deal} {p : Place} {a : List Place} {m : Nat} : (move d p m).1 ∈ add1 d p a m := by
  unfold add1
  dsimp only
  split
  · rename_i h
    exact List.mem_of_getElem? (find_some h)
  · simp
theorem add1_nodup {d : Deal} {p : Place} {a : List Place} {m : Nat} (h : a.Nodup) : (add1 d p a m).Nodup := by
  unfold add1
  dsimp only
  split
  · exact h
  · rename_i e
    have e := find_none.mp e
    rw [List.nodup_append]
    refine ⟨h, by simp, fun x hx y hy => ?_⟩
    simp at hy
    subst hy
    exact fun q => e (q ▸ hx)
theorem add1_from {d : Deal} {p : Place} {a : List Place} {m : Nat} {q : Place} (h : q ∈ add1 d p a m) : q ∈ a ∨ q = (move d p m).1 := by
  unfold add1 at h
  dsimp only at h
  split at h
  · exact .inl h
  · simpa using h
theorem fold_sub {d : Deal} {p : Place} : ∀ {ms : List Nat} {a : List Place}, ∃ e, ms.foldl (add1 d p) a = a ++ e
  | [], a => ⟨[], by simp⟩
  | m :: ms, a => by
    obtain ⟨e1, h1⟩ := add1_sub (d := d) (p := p) (a := a) (m := m)
    obtain ⟨e2, h2⟩ := fold_sub (d := d) (p := p) (ms := ms) (a := add1 d p a m)
    exact ⟨e1 ++ e2, by rw [List.foldl_cons, h2, h1, List.append_assoc]⟩
theorem fold_has {d : Deal} {p : Place} : ∀ {ms : List Nat} {a : List Place} {m : Nat}, m ∈ ms → (move d p m).1 ∈ ms.foldl (add1 d p) a
  | x :: ms, a, m, h => by
    rw [List.foldl_cons]
    rcases List.mem_cons.mp h with e | e
    · subst e
      obtain ⟨e2, h2⟩ := fold_sub (d := d) (p := p) (ms := ms) (a := add1 d p a m)
      rw [h2]
      exact List.mem_append_left _ add1_has
    · exact fold_has e
theorem fold_nodup {d : Deal} {p : Place} : ∀ {ms : List Nat} {a : List Place}, a.Nodup → (ms.foldl (add1 d p) a).Nodup
  | [], _, h => h
  | _ :: ms, _, h => by rw [List.foldl_cons]; exact fold_nodup (ms := ms) (add1_nodup h)
theorem fold_from {d : Deal} {p : Place} {q : Place} : ∀ {ms : List Nat} {a : List Place}, q ∈ ms.foldl (add1 d p) a → q ∈ a ∨ ∃ m ∈ ms, q = (move d p m).1
  | [], _, h => .inl h
  | x :: ms, a, h => by
    rw [List.foldl_cons] at h
    rcases fold_from h with h | ⟨m, hm, e⟩
    · rcases add1_from h with h | h
      · exact .inl h
      · exact .inr ⟨x, by simp, h⟩
    · exact .inr ⟨m, by simp [hm], e⟩
theorem reach_succ (d : Deal) (f k : Nat) (l : List Place) : reach d (f + 1) k l = match l[k]? with
    | none => some l
    | some p => if 300 < ((moves d p).foldl (add1 d p) l).length then none else reach d f (k + 1) ((moves d p).foldl (add1 d p) l) := rfl

structure Seen (d : Deal) (p : Place) (k : Nat) (l : List Place) : Prop where
  start : p ∈ l
  nodup : l.Nodup
  from_ : ∀ q ∈ l, Reach d p q
  done : ∀ i q, i < k → l[i]? = some q → ∀ m ∈ moves d q, (move d q m).1 ∈ l
theorem Seen.turn {d : Deal} {p : Place} {k : Nat} {l : List Place} {q : Place} (h : Seen d p k l) (e : l[k]? = some q) : Seen d p (k + 1) ((moves d q).foldl (add1 d q) l) := by
  obtain ⟨ex, hex⟩ := fold_sub (d := d) (p := q) (ms := moves d q) (a := l)
  have hk : k < l.length := by
    rw [List.getElem?_eq_some_iff] at e
    exact e.1
  refine ⟨?_, fold_nodup h.nodup, ?_, ?_⟩
  · rw [hex]; exact List.mem_append_left _ h.start
  · intro r hr
    rcases fold_from hr with hr | ⟨m, hm, rfl⟩
    · exact h.from_ r hr
    · exact .next (h.from_ q (List.mem_of_getElem? e)) hm
  · intro i r hi hr m hm
    have hil : i < l.length := Nat.lt_of_le_of_lt (Nat.le_of_lt_succ hi) hk
    have hr' : l[i]? = some r := by rw [hex, List.getElem?_append_left hil] at hr; exact hr
    by_cases c : i = k
    · subst c
      rw [e] at hr'
      cases hr'
      exact fold_has hm
    · rw [hex]
      exact List.mem_append_left _ (h.done i r (Nat.lt_of_le_of_ne (Nat.le_of_lt_succ hi) c) hr' m hm)
theorem reach_some {d : Deal} {p : Place} : ∀ {f k : Nat} {l r : List Place}, Seen d p k l → l.length ≤ 300 → reach d f k l = some r → p ∈ r ∧ r.Nodup ∧ (∀ q ∈ r, Reach d p q) ∧ ClosedL d r ∧ r.length ≤ 300
  | 0, _, _, _, _, _, h => by cases h
  | f + 1, k, l, r, hs, hl, h => by
    rw [reach_succ] at h
    split at h
    · rename_i e
      cases h
      refine ⟨hs.start, hs.nodup, hs.from_, ?_, hl⟩
      intro q hq m hm
      obtain ⟨i, hi⟩ := List.getElem?_of_mem hq
      have h1 : l.length ≤ k := List.getElem?_eq_none_iff.mp e
      have h2 : i < l.length := by rw [List.getElem?_eq_some_iff] at hi; exact hi.1
      exact hs.done i q (Nat.lt_of_lt_of_le h2 h1) hi m hm
    · rename_i q e
      split at h
      · cases h
      · rename_i c
        exact reach_some (hs.turn e) (Nat.not_lt.mp c) h
theorem reach_none {d : Deal} {p : Place} : ∀ {f k : Nat} {l : List Place}, Seen d p k l → k ≤ l.length → l.length ≤ 300 → 302 ≤ f + k → reach d f k l = none → TooMany d p
  | 0, _, _, _, _, _, _, _ => by omega
  | f + 1, k, l, hs, hk, hl, hf, h => by
    rw [reach_succ] at h
    split at h
    · cases h
    · rename_i q e
      have hk' : k < l.length := by
        rw [List.getElem?_eq_some_iff] at e
        exact e.1
      have ht := hs.turn e
      split at h
      · rename_i c
        exact ⟨_, ht.nodup, c, ht.from_⟩
      · rename_i c
        obtain ⟨ex, hex⟩ := fold_sub (d := d) (p := q) (ms := moves d q) (a := l)
        refine reach_none ht ?_ (by omega) (by omega) h
        rw [hex, List.length_append]; omega
theorem seen0 (d : Deal) (p : Place) : Seen d p 0 [p] := ⟨by simp, by simp, fun q hq => by simp at hq; subst hq; exact .here, fun i _ hi => by omega⟩

theorem reach_few {d : Deal} {p : Place} {L : List Place} (hc : ClosedL d L) (hp : p ∈ L) (hn : L.length ≤ 300) : ∃ r, reach d (PLACES + 2) 0 [p] = some r ∧ p ∈ r ∧ r.Nodup ∧ (∀ q ∈ r, Reach d p q) ∧ ClosedL d r ∧ r.length ≤ 300 := by
  cases e : reach d (PLACES + 2) 0 [p] with
  | some r => exact ⟨r, rfl, reach_some (seen0 d p) (by simp) e⟩
  | none =>
    obtain ⟨l, h1, h2, h3⟩ := reach_none (seen0 d p) (by simp) (by simp) (by show 302 ≤ 302 + 0; omega) e
    have := nodup_le h1 (fun x hx => reach_in hc hp (h3 x hx))
    omega
theorem reach_many {d : Deal} {p : Place} (h : TooMany d p) : reach d (PLACES + 2) 0 [p] = none := by
  cases e : reach d (PLACES + 2) 0 [p] with
  | none => rfl
  | some r =>
    obtain ⟨h1, h2, h3, h4, h5⟩ := reach_some (seen0 d p) (by simp) e
    obtain ⟨l, g1, g2, g3⟩ := h
    have := nodup_le g1 (fun x hx => reach_in h4 h1 (g3 x hx))
    omega

noncomputable def Ok (d : Deal) (x : Nat) (S : Place → Prop) (q : Place) : Prop :=
  if q.turn = x then ∃ m ∈ moves d q, x ∉ (move d q m).2 ∧ S (move d q m).1
  else ∀ m ∈ moves d q, x ∉ (move d q m).2 ∧ S (move d q m).1
noncomputable def CanKeep (d : Deal) (x : Nat) (q : Place) : Prop := ∃ S : Place → Prop, S q ∧ ∀ r, S r → Ok d x S r
theorem Ok.mono {d : Deal} {x : Nat} {S T : Place → Prop} {q : Place} (h : ∀ m ∈ moves d q, S (move d q m).1 → T (move d q m).1) (o : Ok d x S q) : Ok d x T q := by
  unfold Ok at *
  split
  · rename_i e
    rw [if_pos e] at o
    obtain ⟨m, hm, h1, h2⟩ := o
    exact ⟨m, hm, h1, h m hm h2⟩
  · rename_i e
    rw [if_neg e] at o
    exact fun m hm => ⟨(o m hm).1, h m hm (o m hm).2⟩
theorem CanKeep.ok {d : Deal} {x : Nat} {q : Place} (h : CanKeep d x q) : Ok d x (CanKeep d x) q := by
  obtain ⟨S, hq, hS⟩ := h
  exact (hS q hq).mono fun _ _ h => ⟨S, h, hS⟩
theorem CanKeep.of_ok {d : Deal} {x : Nat} {q : Place} (h : Ok d x (CanKeep d x) q) : CanKeep d x q :=
  ⟨fun r => CanKeep d x r ∨ r = q, .inr rfl, fun r hr => by
    rcases hr with hr | rfl
    · exact hr.ok.mono fun _ _ h => .inl h
    · exact h.mono fun _ _ h => .inl h⟩

noncomputable def SafeAt (l : List Place) (s : List Bool) (q : Place) : Prop := ∃ i : Nat, l[i]? = some q ∧ s[i]? = some true
noncomputable abbrev turnsOf (l : List Place) : List Nat := l.map fun q => q.turn
noncomputable abbrev waysOf (d : Deal) (l : List Place) : List (List Way) := l.map (ways d l)
theorem good_iff {d : Deal} {l : List Place} (hn : l.Nodup) (hc : ClosedL d l) {s : List Bool} (hs : s.length = l.length) {x : Nat} {q : Place} (hq : q ∈ l) {m : Nat} (hm : m ∈ moves d q) :
    good x s ⟨(move d q m).2, match find l (move d q m).1 with
    | some k => k
    | none => 0⟩ = true ↔ x ∉ (move d q m).2 ∧ SafeAt l s (move d q m).1 := by
  obtain ⟨k, hk⟩ := find_mem (hc q hq m hm)
  have hl := find_some hk
  rw [hk]
  unfold good
  simp only [Bool.and_eq_true, Bool.not_eq_true', List.contains_eq_mem, decide_eq_false_iff_not]
  refine and_congr Iff.rfl ?_
  have hkl : k < l.length := by rw [List.getElem?_eq_some_iff] at hl; exact hl.1
  constructor
  · intro h
    refine ⟨k, hl, ?_⟩
    rw [List.getD_eq_getElem?_getD, List.getElem?_eq_getElem (by omega)] at h
    rw [List.getElem?_eq_getElem (by omega)]
    simpa using h
  · rintro ⟨i, hi, hsi⟩
    have e : i = k := by
      rw [List.getElem?_eq_some_iff] at hi hl
      obtain ⟨h1, e1⟩ := hi
      obtain ⟨h2, e2⟩ := hl
      exact (List.getElem_inj hn).mp (e1.trans e2.symm)
    subst e
    rw [List.getD_eq_getElem?_getD, hsi]; rfl
theorem keep_length (x : Nat) (t : List Nat) (ws : List (List Way)) (s : List Bool) : (keep x t ws s).length = s.length := by
  unfold keep; simp
theorem keep_at {d : Deal} {l : List Place} (hn : l.Nodup) (hc : ClosedL d l) {s : List Bool} (hs : s.length = l.length) {x : Nat} {i : Nat} {q : Place} (hi : l[i]? = some q) :
    (keep x (turnsOf l) (waysOf d l) s)[i]? = some true ↔ s[i]? = some true ∧ Ok d x (SafeAt l s) q := by
  have hil : i < l.length := by rw [List.getElem?_eq_some_iff] at hi; exact hi.1
  have hq : q ∈ l := List.mem_of_getElem? hi
  unfold keep
  rw [List.getElem?_map, List.getElem?_range (by omega)]
  have e1 : (turnsOf l).getD i 0 = q.turn := by rw [List.getD_eq_getElem?_getD, List.getElem?_map, hi]; rfl
  have e2 : (waysOf d l).getD i [] = ways d l q := by rw [List.getD_eq_getElem?_getD, List.getElem?_map, hi]; rfl
  simp only [Option.map_some, Option.some.injEq, Bool.and_eq_true]
  rw [e1, e2]
  have e3 : s.getD i false = true ↔ s[i]? = some true := by
    rw [List.getD_eq_getElem?_getD, List.getElem?_eq_getElem (by omega)]; simp
  rw [e3]
  refine and_congr Iff.rfl ?_
  unfold Ok ways
  split
  · rw [List.any_map, List.any_eq_true]
    constructor
    · rintro ⟨m, hm, h⟩
      exact ⟨m, hm, (good_iff hn hc hs hq hm).mp h⟩
    · rintro ⟨m, hm, h⟩
      exact ⟨m, hm, (good_iff hn hc hs hq hm).mpr h⟩
  · rw [List.all_map, List.all_eq_true]
    constructor
    · intro h m hm
      exact (good_iff hn hc hs hq hm).mp (h m hm)
    · intro h m hm
      exact (good_iff hn hc hs hq hm).mpr (h m hm)

noncomputable def Less (a b : List Bool) : Prop := a.length = b.length ∧ ∀ i : Nat, a[i]? = some true → b[i]? = some true
theorem Less.tail {x y : Bool} {a b : List Bool} (h : Less (x :: a) (y :: b)) : Less a b := ⟨by simpa using h.1, fun i hi => by simpa using h.2 (i + 1) (by simpa using hi)⟩
theorem count_cons (x : Bool) (a : List Bool) : count (x :: a) = (if x = true then 1 else 0) + count a := by
  unfold count
  cases x <;> simp; omega
theorem count_le : ∀ {a b : List Bool}, Less a b → count a ≤ count b
  | [], [], _ => Nat.le_refl _
  | [], _ :: _, h => by have := h.1; simp at this
  | _ :: _, [], h => by have := h.1; simp at this
  | x :: a, y :: b, h => by
    have t := count_le h.tail
    have h0 := h.2 0
    rw [count_cons, count_cons]
    cases x
    · simp; omega
    · have : y = true := by simpa using h0 rfl
      subst this; simp; omega
theorem count_eq : ∀ {a b : List Bool}, Less a b → count a = count b → a = b
  | [], [], _, _ => rfl
  | [], _ :: _, h, _ => by have := h.1; simp at this
  | _ :: _, [], h, _ => by have := h.1; simp at this
  | x :: a, y :: b, h, e => by
    have t := count_le h.tail
    have h0 := h.2 0
    rw [count_cons, count_cons] at e
    cases x
    · cases y
      · rw [count_eq h.tail (by simpa using e)]
      · simp at e; omega
    · have : y = true := by simpa using h0 rfl
      subst this
      rw [count_eq h.tail (by simp at e; omega)]
theorem count_len (a : List Bool) : count a ≤ a.length := List.length_filter_le _ _
theorem keep_less {d : Deal} {l : List Place} (hn : l.Nodup) (hc : ClosedL d l) {s : List Bool} (hs : s.length = l.length) {x : Nat} : Less (keep x (turnsOf l) (waysOf d l) s) s := by
  refine ⟨keep_length .., fun i hi => ?_⟩
  have hil : i < l.length := by
    rw [List.getElem?_eq_some_iff] at hi
    have := hi.1
    rw [keep_length] at this; omega
  exact ((keep_at hn hc hs (List.getElem?_eq_getElem hil)).mp hi).1
theorem settle_is {d : Deal} {l : List Place} (hn : l.Nodup) (hc : ClosedL d l) {x : Nat} : ∀ (f : Nat) (s : List Bool), s.length = l.length → count s < f → (∀ (i : Nat) q, l[i]? = some q → CanKeep d x q → s[i]? = some true) →
    ∃ t, settle x (turnsOf l) (waysOf d l) f s = t ∧ t.length = l.length ∧ (∀ (i : Nat) q, l[i]? = some q → (t[i]? = some true ↔ CanKeep d x q))
  | 0, _, _, h, _ => by omega
  | f + 1, s, hs, hf, hk => by
    have hless := keep_less hn hc hs (x := x)
    have stay : ∀ (i : Nat) q, l[i]? = some q → CanKeep d x q → (keep x (turnsOf l) (waysOf d l) s)[i]? = some true := fun i q hi hq => by
      rw [keep_at hn hc hs hi]
      refine ⟨hk i q hi hq, hq.ok.mono fun m hm h => ?_⟩
      obtain ⟨j, hj⟩ := List.getElem?_of_mem (hc q (List.mem_of_getElem? hi) m hm)
      exact ⟨j, hj, hk j _ hj h⟩
    unfold settle
    dsimp only
    split
    · rename_i e
      have e := count_eq hless e
      refine ⟨s, rfl, hs, fun i q hi => ⟨fun h => ?_, hk i q hi⟩⟩
      refine ⟨SafeAt l s, ⟨i, hi, h⟩, ?_⟩
      rintro r ⟨j, hj, hsj⟩
      rw [← e] at hsj
      exact ((keep_at hn hc hs hj).mp hsj).2
    · rename_i e
      have := count_le hless
      exact settle_is hn hc f _ ((keep_length ..).trans hs) (by omega) stay
theorem isSafe_is {l : List Place} {s : List Bool} {q : Place} (hq : q ∈ l) {C : Place → Prop} (h : ∀ (i : Nat) q, l[i]? = some q → (s[i]? = some true ↔ C q)) : isSafe (l, s) q = true ↔ C q := by
  obtain ⟨k, hk⟩ := find_mem hq
  unfold isSafe
  rw [hk]
  dsimp only
  have hl := find_some hk
  rw [← h k q hl, List.getD_eq_getElem?_getD]
  cases e : s[k]? with
  | none => simp
  | some b => simp

theorem safe_many {d : Deal} {x : Nat} {p : Place} (h : TooMany d p) : safePlaces d x p = none := by
  unfold safePlaces
  rw [reach_many h]; rfl
theorem safe_few {d : Deal} {x : Nat} {p : Place} {L : List Place} (hc : ClosedL d L) (hp : p ∈ L) (hn : L.length ≤ 300) :
    ∃ t, safePlaces d x p = some t ∧ ∀ q, Reach d p q → (isSafe t q = true ↔ CanKeep d x q) := by
  obtain ⟨r, h1, h2, h3, h4, h5, h6⟩ := reach_few hc hp hn
  unfold safePlaces
  rw [h1]
  refine ⟨_, rfl, fun q hq => ?_⟩
  obtain ⟨t, e1, e2, e3⟩ := settle_is h3 h5 (x := x) (r.length + 1) (r.map fun _ => true) (by simp) (by have := count_len (r.map fun _ => true); simp at this; omega) (fun i q hi _ => by rw [List.getElem?_map, hi]; rfl)
  have := isSafe_is (reach_in h5 h2 hq) e3
  rw [← e1] at this
  exact this
end KM

namespace KS
open Kp195
structure GoodClause (d : Deal) (c : Clause) : Prop where
  w : c.when_ ≤ 3
  w0 : c.when_ = 0 → c.what = 0
  wb : c.what < 16
  who : c.who < d.parties
  act : c.act < 16
  own : d.owners[c.act]? = some c.who
  d1 : 1 ≤ c.days
  d7 : c.days ≤ 7
structure GoodDeal (d : Deal) : Prop where
  p1 : 1 ≤ d.parties
  p4 : d.parties ≤ 4
  ol : d.owners.length = 16
  ob : ∀ (i o : Nat), d.owners[i]? = some o → o < d.parties
  cl : d.clauses.length ≤ 8
  cg : ∀ c ∈ d.clauses, GoodClause d c
structure GoodPlace (d : Deal) (x : Place) : Prop where
  len : x.left.length = d.clauses.length
  turn : x.turn < d.parties
  days : ∀ n ∈ x.left, n ≤ 7
noncomputable def GoodState : State → Prop
  | none => True
  | some h => GoodDeal h.deal ∧ ∀ x, h.place = some x → GoodPlace h.deal x

theorem clause_mem {d : Deal} {k : Nat} (h : k < d.clauses.length) : clause d k ∈ d.clauses := by
  unfold clause
  rw [List.getD_eq_getElem?_getD, List.getElem?_eq_getElem h]
  exact List.getElem_mem h
theorem getD_le {l : List Nat} {k b : Nat} (h : ∀ n ∈ l, n ≤ b) : l.getD k 0 ≤ b := by
  rw [List.getD_eq_getElem?_getD]
  cases e : l[k]? with
  | none => exact Nat.zero_le _
  | some n => exact h n (List.mem_of_getElem? e)
theorem callUp_len (d : Deal) (l : List Nat) (a : Nat) (k b : List Nat) : (callUp d l a k b).length = d.clauses.length := by
  unfold callUp numbers
  rw [List.length_map, List.length_range]
theorem callUp_days {d : Deal} (g : GoodDeal d) {l : List Nat} (hl : ∀ n ∈ l, n ≤ 7) (a : Nat) (k b : List Nat) : ∀ n ∈ callUp d l a k b, n ≤ 7 := by
  intro n hn
  unfold callUp numbers at hn
  obtain ⟨i, hi, rfl⟩ := List.mem_map.mp hn
  split
  · exact (g.cg _ (clause_mem (List.mem_range.mp hi))).d7
  · exact getD_le hl
theorem without_days {d : Deal} {l gone : List Nat} (hl : ∀ n ∈ l, n ≤ 7) : ∀ n ∈ without d l gone, n ≤ 7 := by
  intro n hn
  unfold without at hn
  obtain ⟨i, hi, rfl⟩ := List.mem_map.mp hn
  split
  · exact Nat.zero_le _
  · exact getD_le hl
theorem doAct_len (d : Deal) (l : List Nat) (a : Nat) : (doAct d l a).left.length = d.clauses.length := callUp_len ..
theorem doAct_days {d : Deal} (g : GoodDeal d) {l : List Nat} (hl : ∀ n ∈ l, n ≤ 7) (a : Nat) : ∀ n ∈ (doAct d l a).left, n ≤ 7 := callUp_days g (without_days hl) _ _ _
theorem dayOver_len (d : Deal) (l : List Nat) : (dayOver d l).left.length = d.clauses.length := callUp_len ..
theorem dayOver_days {d : Deal} (g : GoodDeal d) {l : List Nat} (hl : ∀ n ∈ l, n ≤ 7) : ∀ n ∈ (dayOver d l).left, n ≤ 7 := callUp_days g (fun n hn => by
  obtain ⟨m, hm, rfl⟩ := List.mem_map.mp hn
  have := hl m hm
  omega) _ _ _
theorem move_good {d : Deal} (g : GoodDeal d) {p : Place} (hp : GoodPlace d p) (a : Nat) : GoodPlace d (move d p a).1 := by
  have hx : (if a = NONE then (⟨p.left, []⟩ : Came) else doAct d p.left a).left.length = d.clauses.length ∧ ∀ n ∈ (if a = NONE then (⟨p.left, []⟩ : Came) else doAct d p.left a).left, n ≤ 7 := by
    split
    · exact ⟨hp.len, hp.days⟩
    · exact ⟨doAct_len .., doAct_days g hp.days _⟩
  unfold move
  dsimp only
  generalize (if a = NONE then (⟨p.left, []⟩ : Came) else doAct d p.left a) = x at hx ⊢
  split
  · rename_i h
    exact ⟨hx.1, h, hx.2⟩
  · exact ⟨dayOver_len .., by show 0 < d.parties; have := g.p1; omega, dayOver_days g hx.2⟩
theorem first_good {d : Deal} (g : GoodDeal d) : GoodPlace d (first d) := by
  refine ⟨?_, g.p1, ?_⟩
  · show ((numbers d).map _).length = _
    unfold numbers
    rw [List.length_map, List.length_range]
  · intro n hn
    have hn : n ∈ (numbers d).map (fun k => if (clause d k).when_ = 0 then (clause d k).days else 0) := hn
    unfold numbers at hn
    obtain ⟨i, hi, rfl⟩ := List.mem_map.mp hn
    split
    · exact (g.cg _ (clause_mem (List.mem_range.mp hi))).d7
    · exact Nat.zero_le _
theorem goodClause_iff {d : Deal} (g : GoodDeal d) {c : Clause} : goodClause d c = true ↔ c.when_ ≤ 3 ∧ c.what < (if c.when_ = 0 then 1 else if c.when_ = 1 then 16 else 8) ∧ c.who < d.parties ∧ c.act < 16 ∧ d.owners[c.act]? = some c.who ∧ 1 ≤ c.days ∧ c.days ≤ 7 := by
  have ho : c.who < d.parties → (d.owners.getD c.act 99 = c.who ↔ d.owners[c.act]? = some c.who) := by
    intro h1
    rw [List.getD_eq_getElem?_getD]
    have := g.p4
    cases e : d.owners[c.act]? with
    | none => simp; omega
    | some o => simp
  have hw : ((match c.when_ with
      | 0 => c.what == 0
      | 1 => decide (c.what < ACTS)
      | _ => decide (c.what < CLAUSES)) = true) ↔ c.what < (if c.when_ = 0 then 1 else if c.when_ = 1 then 16 else 8) := by
    split
    · rename_i e
      rw [e, if_pos rfl, beq_iff_eq]; omega
    · rename_i e
      rw [e, if_neg (by decide), if_pos rfl, decide_eq_true_eq]; exact Iff.rfl
    · rename_i h1 h2
      rw [if_neg h1, if_neg h2, decide_eq_true_eq]; exact Iff.rfl
  unfold goodClause
  simp only [Bool.and_eq_true, decide_eq_true_eq, beq_iff_eq]
  constructor
  · rintro ⟨h1, h2, h3, h4, h5, h6, h7⟩
    exact ⟨h1, hw.mp h2, h3, h4, (ho h3).mp h5, h6, h7⟩
  · rintro ⟨h1, h2, h3, h4, h5, h6, h7⟩
    exact ⟨h1, hw.mpr h2, h3, h4, (ho h3).mpr h5, h6, h7⟩
theorem good_of {d : Deal} (g : GoodDeal d) {c : Clause} (h : goodClause d c = true) : GoodClause d c := by
  obtain ⟨h1, h2, h3, h4, h5, h6, h7⟩ := (goodClause_iff g).mp h
  refine ⟨h1, fun e => ?_, ?_, h3, h4, h5, h6, h7⟩
  · rw [e] at h2; simp at h2; exact h2
  · split at h2
    · omega
    · split at h2 <;> omega
theorem rising_len (n : Nat) (l : List Nat) : (rising n l).length ≤ n := by
  unfold rising
  have := List.length_filter_le l.contains (List.range n)
  rw [List.length_range] at this
  exact this
theorem step_begin (s : State) (n : Nat) : step s (.begin_ n) = if n < 1 ∨ 4 < n then (s, say (-22)) else (some ⟨⟨n, List.replicate ACTS 0, []⟩, none⟩, say 0) := rfl
theorem begin_good {n : Nat} (h : ¬ (n < 1 ∨ 4 < n)) : GoodDeal ⟨n, List.replicate ACTS 0, []⟩ := by
  refine ⟨by show 1 ≤ n; omega, by show n ≤ 4; omega, rfl, fun i o e => ?_, Nat.zero_le _, fun c hc => by cases hc⟩
  have e : (List.replicate 16 0)[i]? = some o := e
  rw [List.getElem?_replicate] at e
  split at e
  · cases e; show 0 < n; omega
  · cases e
theorem step_good {s : State} (hs : GoodState s) {c : Call} : GoodState (step s c).1 ∧ (step s c).2.nums.length ≤ 8 := by
  cases c with
  | begin_ n =>
    rw [step_begin]
    split
    · exact ⟨hs, by simp [say]⟩
    · rename_i h
      exact ⟨⟨begin_good h, fun x e => by cases e⟩, by simp [say]⟩
  | act a p =>
    cases s with
    | none => exact ⟨trivial, by simp [step, say]⟩
    | some h =>
      obtain ⟨g, gp⟩ := hs
      show GoodState (if h.place.isSome then (some h, say (-16)) else if ACTS ≤ a ∨ h.deal.parties ≤ p then (some h, say (-22)) else if h.deal.clauses.any (fun c => c.act == a) then (some h, say (-17)) else (some { h with deal := { h.deal with owners := h.deal.owners.set a p } }, say 0) : State × Ans).1 ∧
        (if h.place.isSome then (some h, say (-16)) else if ACTS ≤ a ∨ h.deal.parties ≤ p then (some h, say (-22)) else if h.deal.clauses.any (fun c => c.act == a) then (some h, say (-17)) else (some { h with deal := { h.deal with owners := h.deal.owners.set a p } }, say 0) : State × Ans).2.nums.length ≤ 8
      split
      · exact ⟨⟨g, gp⟩, by simp [say]⟩
      · rename_i h0
        split
        · exact ⟨⟨g, gp⟩, by simp [say]⟩
        · rename_i h1
          split
          · exact ⟨⟨g, gp⟩, by simp [say]⟩
          · rename_i h2
            have ha : a < 16 := by have : ¬ (16 ≤ a) := fun z => h1 (.inl z); omega
            have hp : p < h.deal.parties := by have : ¬ (h.deal.parties ≤ p) := fun z => h1 (.inr z); omega
            refine ⟨⟨⟨g.p1, g.p4, by show (h.deal.owners.set a p).length = 16; rw [List.length_set]; exact g.ol, fun i o e => ?_, g.cl, fun c hc => ?_⟩, fun x e => ?_⟩, by simp [say]⟩
            · have e : (h.deal.owners.set a p)[i]? = some o := e
              rw [List.getElem?_set] at e
              split at e
              · split at e
                · cases e; exact hp
                · cases e
              · exact g.ob i o e
            · have q := g.cg c hc
              refine ⟨q.w, q.w0, q.wb, q.who, q.act, ?_, q.d1, q.d7⟩
              show (h.deal.owners.set a p)[c.act]? = some c.who
              have ne : a ≠ c.act := fun e => h2 (List.any_eq_true.mpr ⟨c, hc, by rw [e]; exact beq_self_eq_true _⟩)
              rw [List.getElem?_set_ne ne]
              exact q.own
            · rw [e] at h0; exact absurd rfl h0
  | clause c =>
    cases s with
    | none => exact ⟨trivial, by simp [step, say]⟩
    | some h =>
      obtain ⟨g, gp⟩ := hs
      show GoodState (if h.place.isSome then (some h, say (-16)) else if goodClause h.deal c = false then (some h, say (-22)) else if CLAUSES ≤ h.deal.clauses.length then (some h, say (-28)) else (some { h with deal := { h.deal with clauses := h.deal.clauses ++ [c] } }, say (h.deal.clauses.length : Int)) : State × Ans).1 ∧
        (if h.place.isSome then (some h, say (-16)) else if goodClause h.deal c = false then (some h, say (-22)) else if CLAUSES ≤ h.deal.clauses.length then (some h, say (-28)) else (some { h with deal := { h.deal with clauses := h.deal.clauses ++ [c] } }, say (h.deal.clauses.length : Int)) : State × Ans).2.nums.length ≤ 8
      split
      · exact ⟨⟨g, gp⟩, by simp [say]⟩
      · rename_i h0
        split
        · exact ⟨⟨g, gp⟩, by simp [say]⟩
        · rename_i h1
          split
          · exact ⟨⟨g, gp⟩, by simp [say]⟩
          · rename_i h2
            have h2 : ¬ (8 ≤ h.deal.clauses.length) := h2
            have gc := good_of g (by simpa using h1)
            refine ⟨⟨⟨g.p1, g.p4, g.ol, g.ob, by show (h.deal.clauses ++ [c]).length ≤ 8; rw [List.length_append, List.length_singleton]; omega, fun c' hc => ?_⟩, fun x e => ?_⟩, by simp [say]⟩
            · have hc : c' ∈ h.deal.clauses ++ [c] := hc
              have q : GoodClause h.deal c' := by
                rcases List.mem_append.mp hc with z | z
                · exact g.cg c' z
                · rw [List.mem_singleton] at z; subst z; exact gc
              exact ⟨q.w, q.w0, q.wb, q.who, q.act, q.own, q.d1, q.d7⟩
            · rw [e] at h0; exact absurd rfl h0
  | go =>
    cases s with
    | none => exact ⟨trivial, by simp [step, say]⟩
    | some h =>
      obtain ⟨g, gp⟩ := hs
      refine ⟨⟨g, fun x e => ?_⟩, by simp [step, say]⟩
      cases e
      exact first_good g
  | do_ p a =>
    cases s with
    | none => exact ⟨trivial, by simp [step, say]⟩
    | some h =>
      obtain ⟨g, gp⟩ := hs
      unfold step
      dsimp only
      split
      · exact ⟨⟨g, gp⟩, by simp [say]⟩
      · rename_i x hx
        split
        · exact ⟨⟨g, gp⟩, by simp [say]⟩
        · split
          · exact ⟨⟨g, gp⟩, by simp [say]⟩
          · refine ⟨⟨g, fun y e => ?_⟩, ?_⟩
            · cases e
              exact move_good g (gp x hx) a
            · have := rising_len h.deal.parties (move h.deal x a).2
              have := g.p4
              dsimp only
              omega
  | owed =>
    cases s with
    | none => exact ⟨trivial, by simp [step, say]⟩
    | some h =>
      obtain ⟨g, gp⟩ := hs
      refine ⟨⟨g, gp⟩, ?_⟩
      unfold step
      dsimp only
      split
      · simp [say]
      · rename_i x hx
        have := (gp x hx).len
        have := g.cl
        dsimp only
        omega
  | can p =>
    cases s with
    | none => exact ⟨trivial, by simp [step, say]⟩
    | some h =>
      refine ⟨hs, ?_⟩
      unfold step
      dsimp only
      repeat' split
      all_goals simp [say]
  | best =>
    cases s with
    | none => exact ⟨trivial, by simp [step, say]⟩
    | some h =>
      refine ⟨hs, ?_⟩
      unfold step
      dsimp only
      repeat' split
      all_goals simp [say]
end KS

namespace KF
open Kp195
noncomputable abbrev S := Kp195.State

theorem len0 {x : List Int} (h : x.length = 0) : x = [] := List.eq_nil_of_length_eq_zero h
theorem lenS {x : List Int} {n : Nat} (h : x.length = n + 1) : ∃ a t, x = a :: t ∧ t.length = n := by
  cases x with
  | nil => cases h
  | cons a t => exact ⟨a, t, rfl, Nat.succ.inj h⟩
theorem len1 {x : List Int} (h : x.length = 1) : ∃ a, x = [a] := by
  obtain ⟨a, t, rfl, h1⟩ := lenS h
  obtain rfl := len0 h1
  exact ⟨a, rfl⟩
theorem len2 {x : List Int} (h : x.length = 2) : ∃ a b, x = [a, b] := by
  obtain ⟨a, t, rfl, h1⟩ := lenS h
  obtain ⟨b, rfl⟩ := len1 h1
  exact ⟨a, b, rfl⟩
theorem len6 {x : List Int} (h : x.length = 6) : ∃ a b c d e g, x = [a, b, c, d, e, g] := by
  obtain ⟨a, t, rfl, h1⟩ := lenS h
  obtain ⟨b, t, rfl, h2⟩ := lenS h1
  obtain ⟨c, t, rfl, h3⟩ := lenS h2
  obtain ⟨d, t, rfl, h4⟩ := lenS h3
  obtain ⟨e, g, rfl⟩ := len2 h4
  exact ⟨a, b, c, d, e, g, rfl⟩
theorem whole_id (c : List (List Int)) : PyKp195.whole c = c := by
  rcases c with _ | ⟨l, t⟩
  · rfl
  rcases l with _ | ⟨p, x⟩
  · rfl
  rcases p with n | n
  · rcases n with _ | _ | _ | _ | _ | _ | _ | _ | n
    · rcases x with _ | ⟨a, _ | ⟨b, x⟩⟩ <;> first | rfl | (cases t <;> rfl)
    · rcases x with _ | ⟨a, _ | ⟨b, _ | ⟨c, x⟩⟩⟩ <;> first | rfl | (cases t <;> rfl)
    · rcases x with _ | ⟨a, _ | ⟨b, _ | ⟨c, _ | ⟨d, _ | ⟨e, _ | ⟨f, _ | ⟨g, x⟩⟩⟩⟩⟩⟩⟩ <;> first | rfl | (cases t <;> rfl)
    · cases x <;> first | rfl | (cases t <;> rfl)
    · rcases x with _ | ⟨a, _ | ⟨b, _ | ⟨c, x⟩⟩⟩ <;> first | rfl | (cases t <;> rfl)
    · cases x <;> first | rfl | (cases t <;> rfl)
    · rcases x with _ | ⟨a, _ | ⟨b, x⟩⟩ <;> first | rfl | (cases t <;> rfl)
    · cases x <;> first | rfl | (cases t <;> rfl)
    · rfl
  · rfl
theorem map_whole : ∀ cs : List (List (List Int)), cs.map PyKp195.whole = cs
  | [] => rfl
  | c :: cs => by rw [List.map_cons, whole_id, map_whole cs]

inductive Turn : List Int → Call → List Int → Prop
  | begin_ (n : Nat) (t : List Int) : n < 2 ^ 32 → Turn (0 :: (n : Int) :: t) (.begin_ n) t
  | act (a p : Nat) (t : List Int) : a < 2 ^ 32 → p < 2 ^ 32 → Turn (1 :: (a : Int) :: (p : Int) :: t) (.act a p) t
  | clause (w x m p a d : Nat) (t : List Int) : w < 2 ^ 32 → x < 2 ^ 32 → m < 2 → p < 2 ^ 32 → a < 2 ^ 32 → d < 2 ^ 32 →
      Turn (2 :: (w : Int) :: (x : Int) :: (m : Int) :: (p : Int) :: (a : Int) :: (d : Int) :: t) (.clause ⟨w, x, m == 1, p, a, d⟩) t
  | go (t : List Int) : Turn (3 :: t) .go t
  | do_ (p a : Nat) (t : List Int) : p < 2 ^ 32 → a < 2 ^ 32 → Turn (4 :: (p : Int) :: (a : Int) :: t) (.do_ p a) t
  | owed (t : List Int) : Turn (5 :: t) .owed t
  | can (p : Nat) (t : List Int) : p < 2 ^ 32 → Turn (6 :: (p : Int) :: t) (.can p) t
  | best (t : List Int) : Turn (7 :: t) .best t

noncomputable def Left (s : S) (rest out : List Int) (k : Nat) : Prop :=
  ∃ f cs, PyFlat.calls PyKp195.shape f rest = some cs ∧ Kp195Neutral.askedFrom s cs = true ∧ PyFlat.told (PyFlat.played Kp195Neutral.step s cs) = out ∧ cs.length = k

noncomputable def ansOf (a : Ans) : List Int := a.num :: Kp195Neutral.outs a.nums

theorem nat_of {z : Int} {b : Nat} (h : Kp195Neutral.natural z b = true) : ∃ n : Nat, z = (n : Int) ∧ n < 2 ^ b := by
  unfold Kp195Neutral.natural at h
  rw [Bool.and_eq_true, decide_eq_true_eq, decide_eq_true_eq] at h
  refine ⟨z.toNat, (Int.toNat_of_nonneg h.1).symm, ?_⟩
  have h2 := h.2
  have h1 := h.1
  have e : ((2 ^ b : Nat) : Int) = (2 : Int) ^ b := by rw [Int.natCast_pow]; rfl
  omega

theorem left_nil {s : S} {out : List Int} {k : Nat} (h : Left s [] out k) : out = [] ∧ k = 0 := by
  obtain ⟨f, cs, h1, _, h3, h4⟩ := h
  have e : cs = [] := by cases f <;> exact (Option.some.inj h1).symm
  subst e
  exact ⟨h3.symm, h4.symm⟩

theorem told_cons (a : List Int) (l : List (List Int)) : PyFlat.told (a :: l) = (a.length : Int) :: a ++ PyFlat.told l := by
  unfold PyFlat.told
  rw [List.flatMap_cons]
theorem step_of {s : S} {c : Kp195Neutral.Call} {x : Call} (h : Kp195Neutral.callOf c = some x) : Kp195Neutral.step s c = ((Kp195.step s x).1, ansOf (Kp195.step s x).2) := by
  unfold Kp195Neutral.step
  rw [h]
  rfl

theorem and2 {a b : Bool} (h : (a && b) = true) : a = true ∧ b = true := Bool.and_eq_true_iff.mp h
theorem ite_pick {c : Prop} [Decidable c] {α : Type} {a b y : α} {P : Prop} (h : (if c then a else b) = y) (h1 : c → a = y → P) (h2 : b = y → P) : P := by
  by_cases e : c
  · exact h1 e (by rw [← h, if_pos e])
  · exact h2 (by rw [← h, if_neg e])
theorem pair_of {a b n k : Nat} (h : some (a, b) = some (n, k)) : n = a ∧ k = b := ⟨(Prod.mk.inj (Option.some.inj h)).1.symm, (Prod.mk.inj (Option.some.inj h)).2.symm⟩
theorem shape_at {p : Int} {n k : Nat} (h : PyKp195.shape p = some (n, k)) : (p = 0 ∧ n = 1) ∨ (p = 1 ∧ n = 2) ∨ (p = 2 ∧ n = 6) ∨ (p = 3 ∧ n = 0) ∨ (p = 4 ∧ n = 2) ∨ (p = 5 ∧ n = 0) ∨ (p = 6 ∧ n = 1) ∨ (p = 7 ∧ n = 0) :=
  ite_pick h (fun e h => .inl ⟨e, (pair_of h).1⟩) fun h => .inr (ite_pick h (fun e h => .inl ⟨e, (pair_of h).1⟩) fun h => .inr (ite_pick h (fun e h => .inl ⟨e, (pair_of h).1⟩) fun h => .inr
    (ite_pick h (fun e h => .inl ⟨e, (pair_of h).1⟩) fun h => .inr (ite_pick h (fun e h => .inl ⟨e, (pair_of h).1⟩) fun h => .inr (ite_pick h (fun e h => .inl ⟨e, (pair_of h).1⟩) fun h => .inr
    (ite_pick h (fun e h => .inl ⟨e, (pair_of h).1⟩) fun h => ite_pick h (fun e h => .inr ⟨e, (pair_of h).1⟩) fun h => nomatch h))))))
theorem shape_zero {p : Int} {n k : Nat} (h : PyKp195.shape p = some (n, k)) : k = 0 := by
  unfold PyKp195.shape at h
  iterate 8 refine ite_pick h (fun _ h => (pair_of h).2) fun h => ?_
  cases h

theorem calls_cons {f : Nat} {p : Int} {r : List Int} {cs : List (List (List Int))} (h : PyFlat.calls PyKp195.shape f (p :: r) = some cs) :
    ∃ n f' cs', PyKp195.shape p = some (n, 0) ∧ n ≤ r.length ∧ cs = [p :: r.take n] :: cs' ∧ PyFlat.calls PyKp195.shape f' (r.drop n) = some cs' := by
  cases f with
  | zero => cases h
  | succ f =>
    unfold PyFlat.calls at h
    cases e : PyFlat.call PyKp195.shape (p :: r) with
    | none => rw [e] at h; cases h
    | some q =>
      obtain ⟨c, t⟩ := q
      rw [e] at h
      dsimp only at h
      cases e2 : PyFlat.calls PyKp195.shape f t with
      | none => rw [e2] at h; cases h
      | some cs' =>
        rw [e2] at h
        have h := Option.some.inj h
        unfold PyFlat.call at e
        dsimp only at e
        cases e3 : PyKp195.shape p with
        | none => rw [e3] at e; cases e
        | some nk =>
          obtain ⟨n, k⟩ := nk
          rw [e3] at e
          dsimp only at e
          have hk := shape_zero e3
          subst hk
          split at e
          · cases e
          · rename_i hn
            have e := Prod.mk.inj (Option.some.inj e)
            refine ⟨n, f, cs', rfl, by omega, ?_, ?_⟩
            · rw [← h, ← e.1]
            · rw [e.2]; exact e2

noncomputable def CallIs (p : Int) (x : List Int) : Prop := ∃ c, Kp195Neutral.callOf [p :: x] = some c ∧ (∀ t, Turn (p :: (x ++ t)) c t) ∧ (Kp195Neutral.opens [p :: x] = true → ∃ n, c = .begin_ n)
theorem ci_begin {x : List Int} (hx : x.length = 1) (ha : Kp195Neutral.asked1 [0 :: x] = true) : CallIs 0 x := by
  obtain ⟨a, rfl⟩ := len1 hx
  obtain ⟨a, rfl, q⟩ := nat_of (show Kp195Neutral.natural a 32 = true from ha)
  exact ⟨.begin_ a, rfl, fun t => .begin_ a t q, fun _ => ⟨a, rfl⟩⟩
theorem ci_act {x : List Int} (hx : x.length = 2) (ha : Kp195Neutral.asked1 [1 :: x] = true) : CallIs 1 x := by
  obtain ⟨a, b, rfl⟩ := len2 hx
  have ha := and2 (show (Kp195Neutral.natural a 32 && Kp195Neutral.natural b 32) = true from ha)
  obtain ⟨a, rfl, q1⟩ := nat_of ha.1
  obtain ⟨b, rfl, q2⟩ := nat_of ha.2
  exact ⟨.act a b, rfl, fun t => .act a b t q1 q2, fun h => Bool.noConfusion h⟩
theorem ci_clause {x : List Int} (hx : x.length = 6) (ha : Kp195Neutral.asked1 [2 :: x] = true) : CallIs 2 x := by
  obtain ⟨a, b, c, d, e, g, rfl⟩ := len6 hx
  have h1 := and2 (show (Kp195Neutral.natural a 32 && (Kp195Neutral.natural b 32 && (Kp195Neutral.natural c 1 && (Kp195Neutral.natural d 32 && (Kp195Neutral.natural e 32 && Kp195Neutral.natural g 32))))) = true from ha)
  have h2 := and2 h1.2
  have h3 := and2 h2.2
  have h4 := and2 h3.2
  have h5 := and2 h4.2
  clear ha hx
  obtain ⟨a, rfl, q1⟩ := nat_of h1.1
  obtain ⟨b, rfl, q2⟩ := nat_of h2.1
  obtain ⟨c, rfl, q3⟩ := nat_of h3.1
  obtain ⟨d, rfl, q4⟩ := nat_of h4.1
  obtain ⟨e, rfl, q5⟩ := nat_of h5.1
  obtain ⟨g, rfl, q6⟩ := nat_of h5.2
  refine ⟨.clause ⟨a, b, c == 1, d, e, g⟩, ?_, fun t => .clause a b c d e g t q1 q2 q3 q4 q5 q6, fun h => Bool.noConfusion h⟩
  have e1 : ((c : Int) == 1) = (c == 1) := by
    rw [Bool.eq_iff_iff, beq_iff_eq, beq_iff_eq]; omega
  show some (Call.clause ⟨_, _, (c : Int) == 1, _, _, _⟩) = _
  rw [e1]
  rfl
theorem ci_go {x : List Int} (hx : x.length = 0) : CallIs 3 x := by
  obtain rfl := len0 hx
  exact ⟨.go, rfl, fun t => .go t, fun h => Bool.noConfusion h⟩
theorem ci_do {x : List Int} (hx : x.length = 2) (ha : Kp195Neutral.asked1 [4 :: x] = true) : CallIs 4 x := by
  obtain ⟨a, b, rfl⟩ := len2 hx
  have ha := and2 (show (Kp195Neutral.natural a 32 && Kp195Neutral.natural b 32) = true from ha)
  obtain ⟨a, rfl, q1⟩ := nat_of ha.1
  obtain ⟨b, rfl, q2⟩ := nat_of ha.2
  exact ⟨.do_ a b, rfl, fun t => .do_ a b t q1 q2, fun h => Bool.noConfusion h⟩
theorem ci_owed {x : List Int} (hx : x.length = 0) : CallIs 5 x := by
  obtain rfl := len0 hx
  exact ⟨.owed, rfl, fun t => .owed t, fun h => Bool.noConfusion h⟩
theorem ci_can {x : List Int} (hx : x.length = 1) (ha : Kp195Neutral.asked1 [6 :: x] = true) : CallIs 6 x := by
  obtain ⟨a, rfl⟩ := len1 hx
  obtain ⟨a, rfl, q⟩ := nat_of (show Kp195Neutral.natural a 32 = true from ha)
  exact ⟨.can a, rfl, fun t => .can a t q, fun h => Bool.noConfusion h⟩
theorem ci_best {x : List Int} (hx : x.length = 0) : CallIs 7 x := by
  obtain rfl := len0 hx
  exact ⟨.best, rfl, fun t => .best t, fun h => Bool.noConfusion h⟩
theorem call_is {p : Int} {n k : Nat} {x : List Int} (hs : PyKp195.shape p = some (n, k)) (hx : x.length = n) (ha : Kp195Neutral.asked1 [p :: x] = true) : CallIs p x := by
  rcases shape_at hs with h | h | h | h | h | h | h | h <;> obtain ⟨rfl, rfl⟩ := h
  · exact ci_begin hx ha
  · exact ci_act hx ha
  · exact ci_clause hx ha
  · exact ci_go hx
  · exact ci_do hx ha
  · exact ci_owed hx
  · exact ci_can hx ha
  · exact ci_best hx

theorem left_cons {s : S} {p : Int} {r out : List Int} {k : Nat} (h : Left s (p :: r) out k) :
    ∃ c rest' out' k', Turn (p :: r) c rest' ∧ (s.isSome = true ∨ ∃ n, c = .begin_ n) ∧ k = k' + 1 ∧ Left (Kp195.step s c).1 rest' out' k' ∧
      out = ((ansOf (Kp195.step s c).2).length : Int) :: ansOf (Kp195.step s c).2 ++ out' := by
  obtain ⟨f, cs, h1, h2o, h3o, h4⟩ := h
  obtain ⟨n, f', cs', hs, hn, rfl, hc⟩ := calls_cons h1
  have h2 := and2 (show (Kp195Neutral.asked1 [p :: r.take n] && ((s.isSome || Kp195Neutral.opens [p :: r.take n]) && Kp195Neutral.askedFrom (Kp195Neutral.step s [p :: r.take n]).1 cs')) = true from h2o)
  have h2b := and2 h2.2
  have hl : (r.take n).length = n := by rw [List.length_take, Nat.min_eq_left hn]
  obtain ⟨c, e1, e2, e3⟩ := call_is hs hl h2.1
  have hr : Kp195Neutral.askedFrom (Kp195Neutral.step s [p :: r.take n]).1 cs' = true := h2b.2
  have h3 : PyFlat.told ((Kp195Neutral.step s [p :: r.take n]).2 :: PyFlat.played Kp195Neutral.step (Kp195Neutral.step s [p :: r.take n]).1 cs') = out := h3o
  rw [step_of e1] at hr h3
  rw [told_cons] at h3
  have e2 := e2 (r.drop n)
  rw [List.take_append_drop] at e2
  exact ⟨c, _, _, cs'.length, e2, (Bool.or_eq_true_iff.mp h2b.1).imp id e3, h4.symm, ⟨f', cs', hc, hr, rfl, rfl⟩, h3.symm⟩

theorem left_start {l : List Int} (h : PyKp195.answers_asked l = true) : ∃ k, Left Kp195.start l (PyKp195.answers l) k ∧ k ≤ 300 := by
  unfold PyKp195.answers_asked at h
  unfold PyKp195.answers
  unfold PyKp195.calls at h ⊢
  cases e : PyFlat.calls PyKp195.shape l.length l with
  | none => rw [e] at h; cases h
  | some cs =>
    rw [e] at h
    dsimp only at h ⊢
    rw [map_whole] at h ⊢
    rw [Bool.and_eq_true] at h
    obtain ⟨h1, h2⟩ := h
    unfold Kp195Neutral.asked at h2
    rw [Bool.and_eq_true, Bool.and_eq_true] at h2
    exact ⟨cs.length, ⟨l.length, cs, e, h2.2.2, rfl, rfl⟩, of_decide_eq_true h1⟩
end KF
namespace KF
open Kp195
theorem turn_cut {p : Int} {r t : List Int} {c : Call} (h : Turn (p :: r) c t) : ∃ nums, r = nums ++ t ∧ Turn (p :: nums) c [] := by
  cases h with
  | begin_ n t h => exact ⟨[_], rfl, .begin_ n [] h⟩
  | act a p t h1 h2 => exact ⟨[_, _], rfl, .act a p [] h1 h2⟩
  | clause w x m p a d t h1 h2 h3 h4 h5 h6 => exact ⟨[_, _, _, _, _, _], rfl, .clause w x m p a d [] h1 h2 h3 h4 h5 h6⟩
  | go t => exact ⟨[], rfl, .go []⟩
  | do_ p a t h1 h2 => exact ⟨[_, _], rfl, .do_ p a [] h1 h2⟩
  | owed t => exact ⟨[], rfl, .owed []⟩
  | can p t h => exact ⟨[_], rfl, .can p [] h⟩
  | best t => exact ⟨[], rfl, .best []⟩
theorem turn_count {p : Int} {nums : List Int} {c : Call} (h : Turn (p :: nums) c []) : ∃ j : Nat, p = (j : Int) ∧ ([1, 2, 6, 0, 2, 0, 1, 0] : List Nat)[j]? = some nums.length := by
  cases h with
  | begin_ n t h => exact ⟨0, rfl, rfl⟩
  | act a p t h1 h2 => exact ⟨1, rfl, rfl⟩
  | clause w x m p a d t h1 h2 h3 h4 h5 h6 => exact ⟨2, rfl, rfl⟩
  | go t => exact ⟨3, rfl, rfl⟩
  | do_ p a t h1 h2 => exact ⟨4, rfl, rfl⟩
  | owed t => exact ⟨5, rfl, rfl⟩
  | can p t h => exact ⟨6, rfl, rfl⟩
  | best t => exact ⟨7, rfl, rfl⟩
noncomputable def Is (p : Int) (l : List Int) (c : Call) : Prop :=
  if p = 0 then ∃ m : Nat, l = [(m : Int)] ∧ c = .begin_ m
  else if p = 1 then ∃ a b : Nat, l = [(a : Int), (b : Int)] ∧ c = .act a b
  else if p = 2 then ∃ w x m b a d : Nat, m < 2 ∧ l = [(w : Int), (x : Int), (m : Int), (b : Int), (a : Int), (d : Int)] ∧ c = .clause ⟨w, x, m == 1, b, a, d⟩
  else if p = 3 then c = .go
  else if p = 4 then ∃ a b : Nat, l = [(a : Int), (b : Int)] ∧ c = .do_ a b
  else if p = 5 then c = .owed
  else if p = 6 then ∃ m : Nat, l = [(m : Int)] ∧ c = .can m
  else c = .best
theorem turn_is {p : Int} {l : List Int} {c : Call} (h : Turn (p :: l) c []) : Is p l c := by
  cases h with
  | begin_ n => exact ⟨n, rfl, rfl⟩
  | act a p => exact ⟨a, p, rfl, rfl⟩
  | clause w x m p a d _ _ _ hm => exact ⟨w, x, m, p, a, d, hm, rfl, rfl⟩
  | go => exact rfl
  | do_ p a => exact ⟨p, a, rfl, rfl⟩
  | owed => exact rfl
  | can p => exact ⟨p, rfl, rfl⟩
  | best => exact rfl
theorem Is.at_ {p q : Int} {l : List Int} {c : Call} (h : Is p l c) (e : p = q) : Is q l c := e ▸ h
theorem Is.best {p : Int} {l : List Int} {c : Call} (h : Is p l c) (n0 : ¬ p = 0) (n1 : ¬ p = 1) (n2 : ¬ p = 2) (n3 : ¬ p = 3) (n4 : ¬ p = 4) (n5 : ¬ p = 5) (n6 : ¬ p = 6) : c = .best := by
  unfold Is at h
  rwa [if_neg n0, if_neg n1, if_neg n2, if_neg n3, if_neg n4, if_neg n5, if_neg n6] at h
end KF

namespace KA
open Kp195 KM KS
noncomputable def GoodMove (d : Deal) (x : Nat) (p : Place) (m : Nat) : Prop := x ∉ (move d p m).2 ∧ CanKeep d x (move d p m).1
theorem can_step {h : House} {x : Place} {p : Nat} (hx : h.place = some x) : step (some h) (.can p) = (some h, if h.deal.parties ≤ p then say (-22) else match safePlaces h.deal p x with
          | none => say (-75)
          | some t => say (if isSafe t x then 1 else 0)) := by
  show (some h, match h.place with
        | none => say (-16)
        | some x => if h.deal.parties ≤ p then say (-22) else match safePlaces h.deal p x with
          | none => say (-75)
          | some t => say (if isSafe t x then 1 else 0)) = _
  rw [hx]
theorem best_step {h : House} {x : Place} (hx : h.place = some x) : step (some h) .best = (some h, match safePlaces h.deal x.turn x with
          | none => say (-75)
          | some t => match (moves h.deal x).find? fun m => !((move h.deal x m).2.contains x.turn) && isSafe t (move h.deal x m).1 with
            | none => say (-33)
            | some m => say (m : Int)) := by
  show (some h, match h.place with
        | none => say (-16)
        | some x => match safePlaces h.deal x.turn x with
          | none => say (-75)
          | some t => match (moves h.deal x).find? fun m => !((move h.deal x m).2.contains x.turn) && isSafe t (move h.deal x m).1 with
            | none => say (-33)
            | some m => say (m : Int)) = _
  rw [hx]
theorem can_many {h : House} {x : Place} {p : Nat} (hx : h.place = some x) (hp : p < h.deal.parties) (t : TooMany h.deal x) : step (some h) (.can p) = (some h, say (-75)) := by
  rw [can_step hx, if_neg (by omega), safe_many t]
theorem can_few {h : House} {x : Place} {p : Nat} (hx : h.place = some x) (hp : p < h.deal.parties) {L : List Place} (hc : ClosedL h.deal L) (hm : x ∈ L) (hn : L.length ≤ 300) :
    (CanKeep h.deal p x → step (some h) (.can p) = (some h, say 1)) ∧ (¬ CanKeep h.deal p x → step (some h) (.can p) = (some h, say 0)) := by
  obtain ⟨t, e, q⟩ := safe_few (x := p) hc hm hn
  have q := q x .here
  rw [can_step hx, if_neg (by omega), e]
  refine ⟨fun k => ?_, fun k => ?_⟩
  · dsimp only
    rw [q.mpr k]; rfl
  · dsimp only
    have : isSafe t x = false := by
      cases z : isSafe t x with
      | false => rfl
      | true => exact absurd (q.mp z) k
    rw [this]; rfl
theorem best_many {h : House} {x : Place} (hx : h.place = some x) (t : TooMany h.deal x) : step (some h) .best = (some h, say (-75)) := by
  rw [best_step hx, safe_many t]
theorem best_pred {d : Deal} {x : Place} {t : List Place × List Bool} (q : ∀ y, Reach d x y → (isSafe t y = true ↔ CanKeep d x.turn y)) {m : Nat} (hm : m ∈ moves d x) :
    (!((move d x m).2.contains x.turn) && isSafe t (move d x m).1) = true ↔ GoodMove d x.turn x m := by
  rw [Bool.and_eq_true, q _ (.next .here hm), Bool.not_eq_true', List.contains_eq_mem, decide_eq_false_iff_not]
  exact Iff.rfl
theorem best_none {h : House} {x : Place} (hx : h.place = some x) {L : List Place} (hc : ClosedL h.deal L) (hm : x ∈ L) (hn : L.length ≤ 300) (no : ∀ m ∈ moves h.deal x, ¬ GoodMove h.deal x.turn x m) :
    step (some h) .best = (some h, say (-33)) := by
  obtain ⟨t, e, q⟩ := safe_few (x := x.turn) hc hm hn
  rw [best_step hx, e]
  have z : ((moves h.deal x).find? fun m => !((move h.deal x m).2.contains x.turn) && isSafe t (move h.deal x m).1) = none :=
    List.find?_eq_none.mpr fun m hm z => no m hm ((best_pred q hm).mp z)
  dsimp only
  rw [z]
theorem best_some {h : House} {x : Place} (hx : h.place = some x) {L : List Place} (hc : ClosedL h.deal L) (hm : x ∈ L) (hn : L.length ≤ 300) {l1 l2 : List Nat} {m : Nat} (hs : moves h.deal x = l1 ++ m :: l2)
    (no : ∀ y ∈ l1, ¬ GoodMove h.deal x.turn x y) (yes : GoodMove h.deal x.turn x m) : step (some h) .best = (some h, say (m : Int)) := by
  obtain ⟨t, e, q⟩ := safe_few (x := x.turn) hc hm hn
  rw [best_step hx, e]
  have z : ((moves h.deal x).find? fun m => !((move h.deal x m).2.contains x.turn) && isSafe t (move h.deal x m).1) = some m := by
    rw [List.find?_eq_some_iff_append]
    refine ⟨(best_pred q (by rw [hs]; simp)).mpr yes, l1, l2, hs, fun y hy => ?_⟩
    cases w : (!((move h.deal x y).2.contains x.turn) && isSafe t (move h.deal x y).1) with
    | false => rfl
    | true => exact absurd ((best_pred q (by rw [hs]; simp [hy])).mp w) (no y hy)
  dsimp only
  rw [z]
theorem can_iff_best {d : Deal} {x : Place} : CanKeep d x.turn x ↔ ∃ m ∈ moves d x, GoodMove d x.turn x m := by
  constructor
  · intro h
    have := h.ok
    unfold Ok at this
    rw [if_pos rfl] at this
    exact this
  · intro h
    refine .of_ok ?_
    unfold Ok
    rw [if_pos rfl]
    exact h
end KA

namespace KL
open Kp195 KM KS
theorem not_mem_rising {n x : Nat} {l : List Nat} (h : x < n) : x ∈ rising n l ↔ x ∈ l := by
  unfold rising
  rw [List.mem_filter, List.mem_range, List.contains_iff_mem]
  exact ⟨fun z => z.2, fun z => ⟨h, z⟩⟩
noncomputable def bring (d : Deal) (p : Place) (m : Nat) : Place × List Nat := ((move d p m).1, rising d.parties (move d p m).2)
theorem bring1 {d : Deal} {q : Place} {a b : Nat} (e : bring d q a = bring d q b) : (move d q a).1 = (move d q b).1 := (Prod.mk.inj e).1
theorem bring2 {d : Deal} {q : Place} {a b : Nat} (e : bring d q a = bring d q b) : rising d.parties (move d q a).2 = rising d.parties (move d q b).2 := (Prod.mk.inj e).2
noncomputable def dstep (d : Deal) (p : Place) (acc : List Nat) (m : Nat) : List Nat := if acc.any (fun k => decide (bring d p k = bring d p m)) then acc else acc ++ [m]
noncomputable def diffsOf (d : Deal) (p : Place) (ms : List Nat) : List Nat := ms.foldl (dstep d p) []
noncomputable def diffs (d : Deal) (p : Place) : List Nat := diffsOf d p (moves d p)
theorem any_bring {d : Deal} {p : Place} {acc : List Nat} {m : Nat} : (acc.any fun k => decide (bring d p k = bring d p m)) = true ↔ ∃ k ∈ acc, bring d p k = bring d p m := by
  rw [List.any_eq_true]
  simp only [decide_eq_true_eq]
theorem fold_keep {d : Deal} {p : Place} : ∀ {ms acc : List Nat} {m : Nat}, m ∈ acc → m ∈ ms.foldl (dstep d p) acc
  | [], _, _, h => h
  | a :: ms, acc, m, h => by
    rw [List.foldl_cons]
    refine fold_keep ?_
    unfold dstep
    split
    · exact h
    · exact List.mem_append_left _ h
theorem fold_sub {d : Deal} {p : Place} : ∀ {ms acc : List Nat} {m : Nat}, m ∈ ms.foldl (dstep d p) acc → m ∈ acc ∨ m ∈ ms
  | [], _, _, h => .inl h
  | a :: ms, acc, m, h => by
    rw [List.foldl_cons] at h
    rcases fold_sub h with h | h
    · unfold dstep at h
      split at h
      · exact .inl h
      · rcases List.mem_append.mp h with h | h
        · exact .inl h
        · rw [List.mem_singleton] at h
          exact .inr (by simp [h])
    · exact .inr (by simp [h])
theorem fold_cover {d : Deal} {p : Place} : ∀ {ms acc : List Nat} {m : Nat}, m ∈ ms → ∃ k ∈ ms.foldl (dstep d p) acc, bring d p k = bring d p m
  | a :: ms, acc, m, h => by
    rw [List.foldl_cons]
    rcases List.mem_cons.mp h with e | e
    · subst e
      by_cases c : (acc.any fun k => decide (bring d p k = bring d p m)) = true
      · obtain ⟨k, hk, e⟩ := any_bring.mp c
        refine ⟨k, fold_keep ?_, e⟩
        unfold dstep
        rw [if_pos c]; exact hk
      · refine ⟨m, fold_keep ?_, rfl⟩
        unfold dstep
        rw [if_neg c]; simp
    · exact fold_cover e
theorem diffs_sub {d : Deal} {p : Place} {m : Nat} (h : m ∈ diffs d p) : m ∈ moves d p := by
  rcases fold_sub h with h | h
  · cases h
  · exact h
theorem diffs_cover {d : Deal} {p : Place} {m : Nat} (h : m ∈ moves d p) : ∃ k ∈ diffs d p, bring d p k = bring d p m := fold_cover h
theorem fold_len {d : Deal} {p : Place} : ∀ (ms acc : List Nat), (ms.foldl (dstep d p) acc).length ≤ acc.length + ms.length := by
  intro ms
  induction ms with
  | nil => intro acc; simp
  | cons a ms ih =>
    intro acc
    rw [List.foldl_cons]
    have h1 := ih (dstep d p acc a)
    have h2 : (dstep d p acc a).length ≤ acc.length + 1 := by
      unfold dstep
      split
      · exact Nat.le_succ _
      · simp
    exact Nat.le_trans h1 (Nat.le_trans (Nat.add_le_add_right h2 _) (Nat.le_of_eq (Nat.add_right_comm _ _ _)))
theorem diffs_len {d : Deal} {p : Place} : (diffs d p).length ≤ 17 := by
  have h1 := fold_len (d := d) (p := p) (moves d p) []
  have h2 : (moves d p).length ≤ 17 := by
    unfold moves
    rw [List.length_cons]
    have : ((List.range ACTS).filter fun a => d.owners.getD a 99 == p.turn).length ≤ (List.range ACTS).length := List.length_filter_le _ _
    rw [List.length_range] at this
    exact Nat.succ_le_succ this
  rw [List.length_nil] at h1
  unfold diffs diffsOf
  exact Nat.le_trans h1 (Nat.le_trans (Nat.le_of_eq (Nat.zero_add _)) h2)
theorem fold_find {d : Deal} {p : Place} (P : Place × List Nat → Bool) : ∀ {ms acc : List Nat}, (ms.foldl (dstep d p) acc).find? (fun m => P (bring d p m)) = (acc ++ ms).find? (fun m => P (bring d p m))
  | [], acc => by simp
  | a :: ms, acc => by
    rw [List.foldl_cons, fold_find P (ms := ms)]
    unfold dstep
    split
    · rename_i c
      obtain ⟨k, hk, e⟩ := any_bring.mp c
      rw [List.find?_append, List.find?_append, List.find?_cons]
      cases f : acc.find? (fun m => P (bring d p m)) with
      | some z => rfl
      | none =>
        have : P (bring d p a) = false := by
          have := List.find?_eq_none.mp f k hk
          rw [← e]
          simpa using this
        rw [this]
    · rw [List.append_assoc]; rfl
theorem diffs_find {d : Deal} {p : Place} (P : Place × List Nat → Bool) : (diffs d p).find? (fun m => P (bring d p m)) = (moves d p).find? (fun m => P (bring d p m)) := fold_find P

theorem seen_turn {d : Deal} {p : Place} {k : Nat} {l : List Place} {q : Place} (h : Seen d p k l) (e : l[k]? = some q) : Seen d p (k + 1) ((diffs d q).foldl (add1 d q) l) := by
  obtain ⟨ex, hex⟩ := KM.fold_sub (d := d) (p := q) (ms := diffs d q) (a := l)
  have hk : k < l.length := by
    rw [List.getElem?_eq_some_iff] at e
    exact e.1
  refine ⟨?_, fold_nodup h.nodup, ?_, ?_⟩
  · rw [hex]; exact List.mem_append_left _ h.start
  · intro r hr
    rcases fold_from hr with hr | ⟨m, hm, rfl⟩
    · exact h.from_ r hr
    · exact .next (h.from_ q (List.mem_of_getElem? e)) (diffs_sub hm)
  · intro i r hi hr m hm
    have hil : i < l.length := Nat.lt_of_le_of_lt (Nat.le_of_lt_succ hi) hk
    have hr' : l[i]? = some r := by rw [hex, List.getElem?_append_left hil] at hr; exact hr
    by_cases c : i = k
    · subst c
      rw [e] at hr'
      cases hr'
      obtain ⟨m', hm', e'⟩ := diffs_cover hm
      have e' : (move d q m').1 = (move d q m).1 := bring1 e'
      rw [← e']
      exact fold_has hm'
    · rw [hex]
      exact List.mem_append_left _ (h.done i r (Nat.lt_of_le_of_ne (Nat.le_of_lt_succ hi) c) hr' m hm)
theorem seen_closed {d : Deal} {p : Place} {k : Nat} {l : List Place} (h : Seen d p k l) (hk : l.length ≤ k) : ClosedL d l := by
  intro q hq m hm
  obtain ⟨i, hi⟩ := List.getElem?_of_mem hq
  have h2 : i < l.length := by rw [List.getElem?_eq_some_iff] at hi; exact hi.1
  exact h.done i q (Nat.lt_of_lt_of_le h2 hk) hi m hm
theorem seen_many {d : Deal} {p : Place} {k : Nat} {l : List Place} (h : Seen d p k l) (hl : 300 < l.length) : TooMany d p := ⟨l, h.nodup, hl, h.from_⟩

noncomputable def endOf (d : Deal) (x : Nat) (q : Place) (m : Nat) : Option Place := if x ∈ rising d.parties (move d q m).2 then none else some (move d q m).1
noncomputable def outs (d : Deal) (x : Nat) (q : Place) : List (Option Place) := (diffs d q).map (endOf d x q)
noncomputable def entriesL (d : Deal) (x : Nat) (L : List Place) (e : Option Place) : List Place := L.flatMap fun q => ((outs d x q).filter fun o => decide (o = e)).map fun _ => q
noncomputable def init (d : Deal) (x : Nat) (q : Place) : Int := if q.turn = x then ((diffs d q).length : Int) else 1
noncomputable def cnt (d : Deal) (x : Nat) (Pd : List (Option Place)) (q : Place) : Nat := ((outs d x q).filter fun o => decide (o ∈ Pd)).length
noncomputable def cntE (d : Deal) (x : Nat) (e : Option Place) (q : Place) : Nat := ((outs d x q).filter fun o => decide (o = e)).length
noncomputable def BadEnd (d : Deal) (x : Nat) : Option Place → Prop
  | none => True
  | some q => ¬ CanKeep d x q

theorem cnt_cons_aux {e : Option Place} {Pd : List (Option Place)} (he : e ∉ Pd) : ∀ l : List (Option Place), (l.filter fun o => decide (o ∈ e :: Pd)).length = (l.filter fun o => decide (o ∈ Pd)).length + (l.filter fun o => decide (o = e)).length
  | [] => rfl
  | a :: l => by
    have ih := cnt_cons_aux he l
    by_cases h1 : a = e
    · subst h1
      rw [List.filter_cons_of_pos (by simp), List.filter_cons_of_neg (by simpa using he), List.filter_cons_of_pos (by simp)]
      exact congrArg (· + 1) ih
    · by_cases h2 : a ∈ Pd
      · rw [List.filter_cons_of_pos (by simp [h2]), List.filter_cons_of_pos (by simpa using h2), List.filter_cons_of_neg (by simpa using h1)]
        rw [List.length_cons, List.length_cons, ih, Nat.add_right_comm]
      · rw [List.filter_cons_of_neg (by simp [h1, h2]), List.filter_cons_of_neg (by simpa using h2), List.filter_cons_of_neg (by simpa using h1)]
        exact ih
theorem cnt_cons {d : Deal} {x : Nat} {e : Option Place} {Pd : List (Option Place)} (he : e ∉ Pd) (q : Place) : cnt d x (e :: Pd) q = cnt d x Pd q + cntE d x e q := cnt_cons_aux he _
theorem count_map_self (q r : Place) (l : List (Option Place)) : (l.map fun _ => r).count q = if r = q then l.length else 0 := by
  rw [List.map_const', List.count_replicate]
  by_cases h : r = q <;> simp [h]
theorem count_entries {d : Deal} {x : Nat} {e : Option Place} {q : Place} : ∀ {L : List Place}, L.Nodup → (entriesL d x L e).count q = if q ∈ L then cntE d x e q else 0
  | [], _ => by simp [entriesL]
  | r :: L, h => by
    have ih := count_entries (d := d) (x := x) (e := e) (q := q) (List.nodup_cons.mp h).2
    unfold entriesL at ih ⊢
    rw [List.flatMap_cons, List.count_append, ih, count_map_self]
    by_cases c : r = q
    · subst c
      rw [if_pos rfl, if_neg (List.nodup_cons.mp h).1, if_pos (by simp)]; rfl
    · rw [if_neg c]
      by_cases c2 : q ∈ L
      · rw [if_pos c2, if_pos (by simp [c2])]; exact Nat.zero_add _
      · rw [if_neg c2, if_neg (by simp [c2]; exact fun z => c z.symm)]
theorem entries_mem {d : Deal} {x : Nat} {e : Option Place} {q : Place} {L : List Place} (h : q ∈ entriesL d x L e) : q ∈ L := by
  unfold entriesL at h
  rw [List.mem_flatMap] at h
  obtain ⟨r, hr, h⟩ := h
  rw [List.mem_map] at h
  obtain ⟨_, _, e⟩ := h
  rw [← e]; exact hr
theorem entries_len {d : Deal} {x : Nat} {e : Option Place} : ∀ L : List Place, (entriesL d x L e).length ≤ L.length * 17
  | [] => Nat.le_refl _
  | q :: L => by
    have ih := entries_len (d := d) (x := x) (e := e) L
    have h1 := diffs_len (d := d) (p := q)
    have h2 : (((outs d x q).filter fun o => decide (o = e)).map fun _ => q).length ≤ 17 := by
      rw [List.length_map]
      refine Nat.le_trans (List.length_filter_le _ _) ?_
      unfold outs
      rw [List.length_map]; exact h1
    unfold entriesL at ih ⊢
    rw [List.flatMap_cons, List.length_append, List.length_cons, Nat.succ_mul, Nat.add_comm]
    exact Nat.add_le_add ih h2
theorem bad_end {d : Deal} {x : Nat} (hx : x < d.parties) {q : Place} {m : Nat} : BadEnd d x (endOf d x q m) ↔ ¬ (x ∉ (move d q m).2 ∧ CanKeep d x (move d q m).1) := by
  unfold endOf
  split
  · rename_i h
    rw [not_mem_rising hx] at h
    exact ⟨fun _ z => z.1 h, fun _ => trivial⟩
  · rename_i h
    rw [not_mem_rising hx] at h
    exact ⟨fun z w => z w.2, fun z w => z ⟨h, w⟩⟩
theorem not_keep {d : Deal} {x : Nat} (hx : x < d.parties) {q : Place} {B : List (Option Place)} (hB : ∀ o ∈ B, BadEnd d x o) (h : init d x q ≤ (cnt d x B q : Int)) : ¬ CanKeep d x q := by
  intro k
  have o := k.ok
  unfold Ok at o
  unfold init at h
  split at o
  · rename_i t
    rw [if_pos t] at h
    obtain ⟨m, hm, g⟩ := o
    obtain ⟨m', hm', e⟩ := diffs_cover hm
    have hall : (outs d x q).length ≤ ((outs d x q).filter fun o => decide (o ∈ B)).length := by
      have : (outs d x q).length = (diffs d q).length := by unfold outs; rw [List.length_map]
      unfold cnt at h
      omega
    have hin : endOf d x q m' ∈ B := by
      have h1 := List.length_filter_le (fun o => decide (o ∈ B)) (outs d x q)
      have h2 : (outs d x q).filter (fun o => decide (o ∈ B)) = outs d x q := List.filter_eq_self.mpr (by
        have := (List.length_filter_eq_length_iff (p := fun o => decide (o ∈ B)) (l := outs d x q)).mp (by omega)
        exact this)
      have h3 := List.filter_eq_self.mp h2 (endOf d x q m') (List.mem_map.mpr ⟨m', hm', rfl⟩)
      simpa using h3
    have e1 : (move d q m').1 = (move d q m).1 := bring1 e
    have e2 : rising d.parties (move d q m').2 = rising d.parties (move d q m).2 := bring2 e
    have := hB _ hin
    rw [bad_end hx] at this
    refine this ⟨fun z => ?_, by rw [e1]; exact g.2⟩
    rw [← not_mem_rising hx, e2, not_mem_rising hx] at z
    exact g.1 z
  · rename_i t
    rw [if_neg t] at h
    unfold cnt at h
    have hpos : 0 < ((outs d x q).filter fun o => decide (o ∈ B)).length := by omega
    obtain ⟨o', ho'⟩ := List.exists_mem_of_length_pos hpos
    rw [List.mem_filter] at ho'
    obtain ⟨h1, h2⟩ := ho'
    obtain ⟨m, hm, e⟩ := List.mem_map.mp h1
    have := hB o' (by simpa using h2)
    rw [← e, bad_end hx] at this
    exact this (o m (diffs_sub hm))

structure LInv (d : Deal) (x : Nat) (L : List Place) (Pd : List (Option Place)) (cur : List (Option Place)) (done : List Place) (lost spread : List (Option Place)) (ch : Place → Int) : Prop where
  perm : lost.Perm (spread ++ (cur ++ Pd))
  nd : lost.Nodup
  ch_ : ∀ q ∈ L, ch q = init d x q - (cnt d x Pd q : Int) - (done.count q : Int)
  zero : ∀ q ∈ L, (some q ∈ lost ↔ ch q ≤ 0)
  sub : ∀ q, some q ∈ lost → q ∈ L
  bad : ∀ o ∈ lost, BadEnd d x o
  brk : none ∈ lost
theorem init_pos {d : Deal} {x : Nat} {q : Place} : 0 < init d x q := by
  unfold init
  split
  · have : 0 < (diffs d q).length := by
      obtain ⟨k, hk, _⟩ := diffs_cover (d := d) (p := q) (m := NONE) (by unfold moves; simp)
      exact List.length_pos_of_mem hk
    exact Int.natCast_pos.mpr this
  · decide
theorem LInv.start (d : Deal) (x : Nat) (L : List Place) : LInv d x L [] [] [] [none] [none] (init d x) := by
  refine ⟨List.Perm.refl _, by simp, fun q _ => ?_, fun q _ => ?_, fun q h => by simp at h, fun o h => ?_, by simp⟩
  · have : cnt d x [] q = 0 := by unfold cnt; simp
    rw [this]; simp
  · have := init_pos (d := d) (x := x) (q := q)
    simp; omega
  · simp at h; subst h; trivial
theorem LInv.pop {d : Deal} {x : Nat} {L : List Place} {Pd : List (Option Place)} {lost spread : List (Option Place)} {e : Option Place} {ch : Place → Int} (h : LInv d x L Pd [] [] lost (spread ++ [e]) ch) : LInv d x L Pd [e] [] lost spread ch := by
  refine ⟨h.perm.trans ?_, h.nd, h.ch_, h.zero, h.sub, h.bad, h.brk⟩
  rw [List.append_assoc]
  exact List.Perm.refl _
theorem LInv.not_pd {d : Deal} {x : Nat} {L : List Place} {Pd : List (Option Place)} {lost spread : List (Option Place)} {done : List Place} {e : Option Place} {ch : Place → Int} (h : LInv d x L Pd [e] done lost spread ch) : e ∉ Pd := by
  have := h.perm.nodup_iff.mp h.nd
  rw [List.nodup_append] at this
  have := this.2.1
  rw [List.singleton_append, List.nodup_cons] at this
  exact this.1
theorem LInv.entry {d : Deal} {x : Nat} (hx : x < d.parties) {L : List Place} (hL : L.Nodup) {Pd : List (Option Place)} {lost spread : List (Option Place)} {done rest : List Place} {q : Place} {e : Option Place} {ch : Place → Int}
    (h : LInv d x L Pd [e] done lost spread ch) (hs : entriesL d x L e = done ++ q :: rest) :
    (¬ ch q - 1 = 0 → LInv d x L Pd [e] (done ++ [q]) lost spread (fun r => if r = q then ch q - 1 else ch r)) ∧
    (ch q - 1 = 0 → some q ∉ lost ∧ LInv d x L Pd [e] (done ++ [q]) (lost ++ [some q]) (spread ++ [some q]) (fun r => if r = q then ch q - 1 else ch r)) := by
  have hq : q ∈ L := entries_mem (d := d) (x := x) (e := e) (by rw [hs]; simp)
  have hch : ∀ r ∈ L, (if r = q then ch q - 1 else ch r) = init d x r - (cnt d x Pd r : Int) - ((done ++ [q]).count r : Int) := fun r hr => by
    rw [List.count_append, List.count_singleton]
    by_cases c : r = q
    · subst c
      rw [if_pos rfl, h.ch_ r hr]
      simp only [beq_self_eq_true, if_true]; omega
    · rw [if_neg c, h.ch_ r hr, if_neg (by rw [beq_iff_eq]; exact fun z => c z.symm)]; simp
  refine ⟨fun c => ⟨h.perm, h.nd, hch, fun r hr => ?_, h.sub, h.bad, h.brk⟩, fun c => ?_⟩
  · by_cases e' : r = q
    · subst e'
      rw [if_pos rfl, h.zero r hr]; omega
    · rw [if_neg e']; exact h.zero r hr
  · have hn : some q ∉ lost := fun z => by
      have := (h.zero q hq).mp z
      omega
    have hbad : ¬ CanKeep d x q := by
      refine not_keep hx (B := e :: Pd) (fun o ho => h.bad o (h.perm.mem_iff.mpr (by simp at ho ⊢; exact .inr ho))) ?_
      rw [cnt_cons h.not_pd]
      have h1 := hch q hq
      rw [if_pos rfl, c] at h1
      have h2 : (done ++ [q]).count q ≤ cntE d x e q := by
        have := count_entries (d := d) (x := x) (e := e) (q := q) hL
        rw [if_pos hq, hs] at this
        rw [← this, show done ++ q :: rest = (done ++ [q]) ++ rest by simp, List.count_append (l₁ := done ++ [q])]; omega
      omega
    refine ⟨hn, ⟨?_, ?_, hch, fun r hr => ?_, fun r hr => ?_, fun o ho => ?_, by simp [h.brk]⟩⟩
    · have h1 : (lost ++ [some q]).Perm ((spread ++ ([e] ++ Pd)) ++ [some q]) := h.perm.append_right _
      refine h1.trans ?_
      rw [List.append_assoc spread, List.append_assoc spread]
      exact List.Perm.append_left _ List.perm_append_comm
    · rw [List.nodup_append]
      refine ⟨h.nd, by simp, fun a ha b hb => ?_⟩
      rw [List.mem_singleton] at hb
      subst hb
      exact fun z => hn (z ▸ ha)
    · by_cases e' : r = q
      · subst e'
        rw [if_pos rfl, c]; simp
      · rw [if_neg e', ← h.zero r hr, List.mem_append, List.mem_singleton]
        refine ⟨fun z => ?_, .inl⟩
        rcases z with z | z
        · exact z
        · exact absurd (Option.some.inj z) e'
    · rw [List.mem_append, List.mem_singleton] at hr
      rcases hr with z | z
      · exact h.sub r z
      · rw [Option.some.inj z]; exact hq
    · rw [List.mem_append, List.mem_singleton] at ho
      rcases ho with z | z
      · exact h.bad o z
      · rw [z]; exact hbad
theorem LInv.close {d : Deal} {x : Nat} {L : List Place} (hL : L.Nodup) {Pd : List (Option Place)} {lost spread : List (Option Place)} {e : Option Place} {ch : Place → Int}
    (h : LInv d x L Pd [e] (entriesL d x L e) lost spread ch) : LInv d x L (e :: Pd) [] [] lost spread ch := by
  refine ⟨h.perm, h.nd, fun q hq => ?_, h.zero, h.sub, h.bad, h.brk⟩
  rw [h.ch_ q hq, cnt_cons h.not_pd, count_entries hL, if_pos hq]
  simp only [List.count_nil]
  omega
theorem LInv.fin {d : Deal} {x : Nat} (hx : x < d.parties) {L : List Place} (hc : ClosedL d L) {Pd : List (Option Place)} {lost : List (Option Place)} {ch : Place → Int} (h : LInv d x L Pd [] [] lost [] ch) {q : Place} (hq : q ∈ L) :
    some q ∉ lost ↔ CanKeep d x q := by
  constructor
  · intro hn
    refine ⟨fun r => r ∈ L ∧ some r ∉ lost, ⟨hq, hn⟩, ?_⟩
    rintro r ⟨hr, hl⟩
    have hpos : 0 < ch r := Int.not_le.mp ((not_congr (h.zero r hr)).mp hl)
    rw [h.ch_ r hr, List.count_nil] at hpos
    have hmem : ∀ o, o ∈ Pd ↔ o ∈ lost := fun o => by
      rw [h.perm.mem_iff]; simp
    have good : ∀ m ∈ moves d r, endOf d x r m ∉ Pd → x ∉ (move d r m).2 ∧ ((move d r m).1 ∈ L ∧ some (move d r m).1 ∉ lost) := fun m hm ho => by
      unfold endOf at ho
      split at ho
      · exact absurd ((hmem none).mpr h.brk) ho
      · rename_i z
        rw [not_mem_rising hx] at z
        exact ⟨z, hc r hr m hm, fun w => ho ((hmem _).mpr w)⟩
    unfold Ok
    unfold init cnt at hpos
    split
    · rename_i t
      rw [if_pos t] at hpos
      have : ¬ ∀ o ∈ outs d x r, decide (o ∈ Pd) = true := fun z => by
        have e := List.filter_eq_self.mpr z
        rw [e] at hpos
        unfold outs at hpos
        rw [List.length_map] at hpos
        omega
      simp only [Classical.not_forall] at this
      obtain ⟨o, ho, hno⟩ := this
      obtain ⟨m, hm, rfl⟩ := List.mem_map.mp ho
      exact ⟨m, diffs_sub hm, good m (diffs_sub hm) (by simpa using hno)⟩
    · rename_i t
      rw [if_neg t] at hpos
      intro m hm
      have hz : ((outs d x r).filter fun o => decide (o ∈ Pd)) = [] := List.eq_nil_of_length_eq_zero (by omega)
      obtain ⟨m', hm', e⟩ := diffs_cover hm
      have h1 := List.filter_eq_nil_iff.mp hz (endOf d x r m') (List.mem_map.mpr ⟨m', hm', rfl⟩)
      have e1 : (move d r m').1 = (move d r m).1 := bring1 e
      have e2 : rising d.parties (move d r m').2 = rising d.parties (move d r m).2 := bring2 e
      have h2 : endOf d x r m' = endOf d x r m := by unfold endOf; rw [e1, e2]
      rw [h2] at h1
      exact good m hm (by simpa using h1)
  · intro k hl
    exact h.bad _ hl k
theorem LInv.size {d : Deal} {x : Nat} {L : List Place} {Pd cur : List (Option Place)} {done : List Place} {lost spread : List (Option Place)} {ch : Place → Int} (h : LInv d x L Pd cur done lost spread ch) : lost.length ≤ L.length + 1 := by
  have := nodup_le (r := none :: L.map some) h.nd (fun o ho => by
    cases o with
    | none => simp
    | some q => simp [h.sub q ho])
  simpa using this
end KL

namespace KP
open Kp195 KM KS KL
noncomputable abbrev nC (d : Deal) : Nat := d.clauses.length
noncomputable def mixL {α : Type} (A B : List α) (i : Nat) : List α := A.take i ++ B.drop i
theorem mix_zero {α : Type} (A B : List α) : mixL A B 0 = B := by unfold mixL; simp
theorem mix_full {α : Type} {A B : List α} (h : A.length = B.length) : mixL A B A.length = A := by unfold mixL; rw [List.take_length, h, List.drop_length, List.append_nil]
theorem mix_len {α : Type} {A B : List α} (h : A.length = B.length) (i : Nat) : (mixL A B i).length = B.length := by
  unfold mixL
  rw [List.length_append, List.length_take, List.length_drop, h, Nat.min_comm, Nat.add_comm]
  exact Nat.sub_add_min_cancel _ _
theorem mix_at {α : Type} {A B : List α} (h : A.length = B.length) {i : Nat} (hi : i < B.length) : (mixL A B i)[i]? = B[i]? := by
  have e : (A.take i).length = i := List.length_take_of_le (Nat.le_of_lt (Nat.lt_of_lt_of_eq hi h.symm))
  unfold mixL
  rw [List.getElem?_append_right (Nat.le_of_eq e), e, Nat.sub_self, List.getElem?_drop]; rfl
theorem mix_set {α : Type} {A B : List α} (h : A.length = B.length) {i : Nat} {v : α} (hv : A[i]? = some v) : (mixL A B i).set i v = mixL A B (i + 1) := by
  have hi : i < A.length := (List.getElem?_eq_some_iff.mp hv).1
  have e : (A.take i).length = i := List.length_take_of_le (Nat.le_of_lt hi)
  unfold mixL
  rw [List.drop_eq_getElem_cons (Nat.lt_of_lt_of_eq hi h), List.set_append_right _ _ (Nat.le_of_eq e), e, Nat.sub_self, List.take_add_one, hv, List.append_assoc]; rfl
theorem mix_same {α : Type} {A B : List α} (h : A.length = B.length) {i : Nat} (hv : A[i]? = B[i]?) (hi : i < B.length) : mixL A B i = mixL A B (i + 1) := by
  unfold mixL
  rw [List.take_add_one, hv, List.getElem?_eq_getElem hi, List.drop_eq_getElem_cons hi, List.append_assoc]; rfl
theorem getD_of {l : List Nat} {k v : Nat} (h : l[k]? = some v) : l.getD k 0 = v := by rw [List.getD_eq_getElem?_getD, h]; rfl
theorem at_getD {l : List Nat} {k : Nat} (h : k < l.length) : l[k]? = some (l.getD k 0) := by rw [List.getD_eq_getElem?_getD, List.getElem?_eq_getElem h]; rfl
theorem clause_at {d : Deal} {k : Nat} {c : Clause} (h : d.clauses[k]? = some c) : clause d k = c := by unfold clause; rw [List.getD_eq_getElem?_getD, h]; rfl
theorem at_clause {d : Deal} {k : Nat} (h : k < nC d) : d.clauses[k]? = some (clause d k) := by unfold clause; rw [List.getD_eq_getElem?_getD, List.getElem?_eq_getElem h]; rfl
noncomputable def metL (d : Deal) (left : List Nat) (a : Nat) : List Nat := (numbers d).filter fun k => decide (0 < left.getD k 0) && (clause d k).act == a
noncomputable def keptA (d : Deal) (left : List Nat) (a : Nat) : List Nat := (metL d left a).filter fun k => (clause d k).must
noncomputable def brokenA (d : Deal) (left : List Nat) (a : Nat) : List Nat := (metL d left a).filter fun k => !(clause d k).must
theorem doAct_eq (d : Deal) (left : List Nat) (a : Nat) : doAct d left a = ⟨callUp d (without d left (metL d left a)) a (keptA d left a) (brokenA d left a), whoOf d (brokenA d left a)⟩ := rfl
theorem without_nil {d : Deal} {left : List Nat} (h : left.length = nC d) : without d left [] = left := by
  apply List.ext_getElem?
  intro j
  unfold without numbers
  rw [List.getElem?_map]
  by_cases c : j < nC d
  · rw [List.getElem?_range c, at_getD (Nat.lt_of_lt_of_eq c h.symm)]; rfl
  · rw [List.getElem?_eq_none (by rw [List.length_range]; exact Nat.not_lt.mp c), List.getElem?_eq_none (Nat.le_trans (Nat.le_of_eq h) (Nat.not_lt.mp c))]; rfl
theorem without_len (d : Deal) (left gone : List Nat) : (without d left gone).length = nC d := by unfold without numbers; rw [List.length_map, List.length_range]
theorem without_step {d : Deal} {left on : List Nat} {j k : Nat} (h : on[j]? = some k) : (without d left (on.take j)).set k 0 = without d left (on.take (j + 1)) := by
  have e : on.take (j + 1) = on.take j ++ [k] := by
    rw [List.take_add_one, h]; rfl
  apply List.ext_getElem?
  intro i
  rw [List.getElem?_set, without_len, e]
  unfold without numbers
  rw [List.getElem?_map, List.getElem?_map]
  by_cases c : i < nC d
  · rw [List.getElem?_range c]
    simp only [Option.map_some]
    by_cases c2 : k = i
    · subst c2
      rw [if_pos rfl, if_pos c]
      simp
    · rw [if_neg c2]
      have : (on.take j ++ [k]).contains i = (on.take j).contains i := by
        rw [Bool.eq_iff_iff, List.contains_iff_mem, List.contains_iff_mem, List.mem_append, List.mem_singleton]
        exact ⟨fun z => z.resolve_right (fun w => c2 w.symm), .inl⟩
      rw [this]
  · rw [List.getElem?_eq_none (by rw [List.length_range]; exact Nat.not_lt.mp c)]
    by_cases c2 : k = i
    · rw [if_pos c2, if_neg (c2 ▸ c)]; rfl
    · rw [if_neg c2]; rfl
theorem metL_mem {d : Deal} {left : List Nat} {a k : Nat} (h : k ∈ metL d left a) : k < nC d ∧ 0 < left.getD k 0 ∧ (clause d k).act = a := by
  unfold metL numbers at h
  rw [List.mem_filter, List.mem_range, Bool.and_eq_true, decide_eq_true_eq, beq_iff_eq] at h
  exact h
theorem called_other {d : Deal} (g : GoodDeal d) {k : Nat} (hk : k < nC d) {a b : Nat} (ha : 16 ≤ a) (hb : 16 ≤ b) (kept broken : List Nat) : called (clause d k) a kept broken = called (clause d k) b kept broken := by
  have w := (g.cg _ (clause_mem hk)).wb
  unfold called
  split
  · rw [beq_eq_false_iff_ne.mpr (by omega), beq_eq_false_iff_ne.mpr (by omega)]
  · rfl
  · rfl
  · rfl
theorem callUp_other {d : Deal} (g : GoodDeal d) {a b : Nat} (ha : 16 ≤ a) (hb : 16 ≤ b) (left kept broken : List Nat) : callUp d left a kept broken = callUp d left b kept broken := by
  unfold callUp
  apply List.map_congr_left
  intro k hk
  unfold numbers at hk
  rw [List.mem_range] at hk
  rw [called_other g hk ha hb]
theorem called_none {d : Deal} (g : GoodDeal d) {k : Nat} (hk : k < nC d) {a : Nat} (ha : 16 ≤ a) : called (clause d k) a [] [] = false := by
  have w := (g.cg _ (clause_mem hk)).wb
  unfold called
  split
  · exact beq_eq_false_iff_ne.mpr (by omega)
  · rfl
  · rfl
  · rfl
theorem doAct_none {d : Deal} (g : GoodDeal d) {left : List Nat} (hl : left.length = nC d) {a : Nat} (ha : 16 ≤ a) : doAct d left a = ⟨left, []⟩ := by
  have m : metL d left a = [] := by
    unfold metL
    rw [List.filter_eq_nil_iff]
    intro k hk
    unfold numbers at hk
    rw [List.mem_range] at hk
    have := (g.cg _ (clause_mem hk)).act
    rw [Bool.and_eq_true, beq_iff_eq]
    intro z
    exact Nat.not_lt.mpr ha (z.2 ▸ this)
  rw [doAct_eq]
  have m1 : keptA d left a = [] := by unfold keptA; rw [m]; rfl
  have m2 : brokenA d left a = [] := by unfold brokenA; rw [m]; rfl
  rw [m, m1, m2, without_nil hl]
  have e : callUp d left a [] [] = left := by
    apply List.ext_getElem?
    intro j
    unfold callUp numbers
    rw [List.getElem?_map]
    by_cases c : j < nC d
    · rw [List.getElem?_range c, at_getD (Nat.lt_of_lt_of_eq c hl.symm)]
      simp only [Option.map_some]
      rw [called_none g c ha, if_neg (fun z => Bool.false_ne_true z.2)]
    · rw [List.getElem?_eq_none (by rw [List.length_range]; exact Nat.not_lt.mp c), List.getElem?_eq_none (Nat.le_trans (Nat.le_of_eq hl) (Nat.not_lt.mp c))]; rfl
  rw [e]; rfl
noncomputable def endedL (d : Deal) (left : List Nat) : List Nat := (numbers d).filter fun k => left.getD k 0 == 1
noncomputable def keptD (d : Deal) (left : List Nat) : List Nat := (endedL d left).filter fun k => !(clause d k).must
noncomputable def brokenD (d : Deal) (left : List Nat) : List Nat := (endedL d left).filter fun k => (clause d k).must
theorem dayOver_eq {d : Deal} (g : GoodDeal d) (left : List Nat) : dayOver d left = ⟨callUp d (left.map fun x => x - 1) 255 (keptD d left) (brokenD d left), whoOf d (brokenD d left)⟩ := by
  show (⟨callUp d (left.map fun x => x - 1) 98 (keptD d left) (brokenD d left), whoOf d (brokenD d left)⟩ : Came) = _
  rw [callUp_other g (a := 98) (b := 255) (by decide) (by decide)]
noncomputable def brokenM (d : Deal) (p : Place) (a : Nat) : List Nat := if p.turn + 1 = d.parties then brokenA d p.left a ++ brokenD d (doAct d p.left a).left else brokenA d p.left a
theorem move_last {d : Deal} (g : GoodDeal d) {p : Place} (hp : GoodPlace d p) (a : Nat) (h : p.turn + 1 = d.parties) :
    move d p a = (⟨(dayOver d (doAct d p.left a).left).left, 0⟩, (doAct d p.left a).who ++ (dayOver d (doAct d p.left a).left).who) := by
  unfold move
  dsimp only
  rw [if_neg (Nat.not_lt.mpr (Nat.le_of_eq h.symm))]
  split
  · rename_i e
    have e : a = 255 := e
    rw [e, doAct_none g hp.len (by decide)]
  · rfl
theorem move_next {d : Deal} (g : GoodDeal d) {p : Place} (hp : GoodPlace d p) (a : Nat) (h : ¬ p.turn + 1 = d.parties) :
    move d p a = (⟨(doAct d p.left a).left, p.turn + 1⟩, (doAct d p.left a).who) := by
  have ht := hp.turn
  unfold move
  dsimp only
  rw [if_pos (Nat.lt_of_le_of_ne ht h)]
  split
  · rename_i e
    have e : a = 255 := e
    rw [e, doAct_none g hp.len (by decide)]
  · rfl
theorem move_who {d : Deal} (g : GoodDeal d) {p : Place} (hp : GoodPlace d p) (a : Nat) : (move d p a).2 = whoOf d (brokenM d p a) := by
  unfold brokenM
  split
  · rename_i h
    rw [move_last g hp a h, doAct_eq, dayOver_eq g]
    unfold whoOf
    rw [List.map_append]
  · rename_i h
    rw [move_next g hp a h, doAct_eq]
theorem brokenM_mem {d : Deal} {p : Place} {a k : Nat} (h : k ∈ brokenM d p a) : k < nC d := by
  have hA : ∀ {l : List Nat}, k ∈ brokenA d l a → k < nC d := fun z => (metL_mem (List.mem_filter.mp z).1).1
  have hD : ∀ {l : List Nat}, k ∈ brokenD d l → k < nC d := fun z => by
    have := (List.mem_filter.mp (List.mem_filter.mp z).1).1
    unfold numbers at this
    exact List.mem_range.mp this
  unfold brokenM at h
  split at h
  · rcases List.mem_append.mp h with h | h
    · exact hA h
    · exact hD h
  · exact hA h
theorem callUp_at' {d : Deal} {left : List Nat} {a : Nat} {kept broken : List Nat} {k : Nat} (h : k < nC d) : (callUp d left a kept broken)[k]? = some (if left.getD k 0 = 0 ∧ called (clause d k) a kept broken = true then (clause d k).days else left.getD k 0) := by
  unfold callUp numbers
  rw [List.getElem?_map, List.getElem?_range h]; rfl
noncomputable def ptup (p : Place) : List Nat := p.turn :: p.left
theorem ptup_inj {p q : Place} (h : ptup p = ptup q) : p = q := by
  cases p; cases q
  unfold ptup at h
  injection h with h1 h2
  dsimp only at h1 h2
  rw [h1, h2]
theorem range_filter_succ (f : Nat → Bool) (i : Nat) : (List.range (i + 1)).filter f = (List.range i).filter f ++ (if f i then [i] else []) := by
  rw [List.range_succ, List.filter_append]
  by_cases h : f i = true
  · simp [h]
  · simp [h]
theorem filter_take_succ {α : Type} (f : α → Bool) {l : List α} {i : Nat} {x : α} (h : l[i]? = some x) : (l.take (i + 1)).filter f = (l.take i).filter f ++ (if f x then [x] else []) := by
  rw [List.take_add_one, h, List.filter_append]
  by_cases c : f x = true
  · simp [c]
  · simp [c]
end KP

namespace KT
open PySem PySem.Spec PyProof.Rows L2
section
variable {α : Type} {P : List α → Prop}
@[elab_as_elim] theorem all1 (us : List α) (hl : us.length = 1) (h : ∀ a, P [a]) : P us := by
  rcases us with _ | ⟨a, _ | ⟨b, us⟩⟩
  · cases hl
  · exact h a
  · cases hl
@[elab_as_elim] theorem all2 (us : List α) (hl : us.length = 2) (h : ∀ a b, P [a, b]) : P us := by
  rcases us with _ | ⟨a, us⟩
  · cases hl
  · exact all1 (P := fun l => P (a :: l)) us (Nat.succ.inj hl) (h a)
@[elab_as_elim] theorem all3 (us : List α) (hl : us.length = 3) (h : ∀ a b c, P [a, b, c]) : P us := by
  rcases us with _ | ⟨a, us⟩
  · cases hl
  · exact all2 (P := fun l => P (a :: l)) us (Nat.succ.inj hl) (h a)
@[elab_as_elim] theorem all4 (us : List α) (hl : us.length = 4) (h : ∀ a b c d, P [a, b, c, d]) : P us := by
  rcases us with _ | ⟨a, us⟩
  · cases hl
  · exact all3 (P := fun l => P (a :: l)) us (Nat.succ.inj hl) (h a)
@[elab_as_elim] theorem all5 (us : List α) (hl : us.length = 5) (h : ∀ a b c d e, P [a, b, c, d, e]) : P us := by
  rcases us with _ | ⟨a, us⟩
  · cases hl
  · exact all4 (P := fun l => P (a :: l)) us (Nat.succ.inj hl) (h a)
@[elab_as_elim] theorem all6 (us : List α) (hl : us.length = 6) (h : ∀ a b c d e f, P [a, b, c, d, e, f]) : P us := by
  rcases us with _ | ⟨a, us⟩
  · cases hl
  · exact all5 (P := fun l => P (a :: l)) us (Nat.succ.inj hl) (h a)
@[elab_as_elim] theorem all7 (us : List α) (hl : us.length = 7) (h : ∀ a b c d e f g, P [a, b, c, d, e, f, g]) : P us := by
  rcases us with _ | ⟨a, us⟩
  · cases hl
  · exact all6 (P := fun l => P (a :: l)) us (Nat.succ.inj hl) (h a)
end
noncomputable def top (i : Nat) : Stmt := PySem.Challenge.pw_keepable_s01_answers.main.body.getD i (.Pass ⟨0, 0, 0, 0⟩)
noncomputable abbrev s_Clause_init : Stmt := inClass (top 11) 0
noncomputable abbrev s_Outcome_init : Stmt := inClass (top 13) 0
noncomputable abbrev s_Course_init : Stmt := inClass (top 14) 0
noncomputable abbrev s_Course_first_place : Stmt := inClass (top 14) 1
noncomputable abbrev s_Course_moves : Stmt := inClass (top 14) 2
noncomputable abbrev s_Course_outcome : Stmt := inClass (top 14) 3
noncomputable abbrev s_Course_outcomes : Stmt := inClass (top 14) 4
noncomputable abbrev s_Course_different_outcomes : Stmt := inClass (top 14) 5
noncomputable abbrev s_do_act : Stmt := top 15
noncomputable abbrev s_end_day : Stmt := top 16
noncomputable abbrev s_call_up : Stmt := top 17
noncomputable abbrev s_is_called_up : Stmt := top 18
noncomputable abbrev s_places_from : Stmt := top 22
noncomputable abbrev s_lost_places : Stmt := top 23
noncomputable abbrev s_entries_of : Stmt := top 24
noncomputable abbrev s_chances_of : Stmt := top 25
noncomputable abbrev s_end_for : Stmt := top 26
noncomputable abbrev s_first_keeping_move : Stmt := top 27
noncomputable abbrev s_what_bound : Stmt := top 37
noncomputable abbrev s_Agreement_init : Stmt := inClass (top 38) 0
noncomputable abbrev s_Agreement_begin : Stmt := inClass (top 38) 1
noncomputable abbrev s_Agreement_act : Stmt := inClass (top 38) 2
noncomputable abbrev s_Agreement_names : Stmt := inClass (top 38) 3
noncomputable abbrev s_Agreement_clause : Stmt := inClass (top 38) 4
noncomputable abbrev s_Agreement_fits : Stmt := inClass (top 38) 5
noncomputable abbrev s_Agreement_go : Stmt := inClass (top 38) 6
noncomputable abbrev s_Agreement_do : Stmt := inClass (top 38) 7
noncomputable abbrev s_Agreement_owed : Stmt := inClass (top 38) 8
noncomputable abbrev s_Agreement_can : Stmt := inClass (top 38) 9
noncomputable abbrev s_Agreement_best : Stmt := inClass (top 38) 10
noncomputable abbrev s_answers : Stmt := top 48
noncomputable abbrev s_answer_of : Stmt := top 49
noncomputable abbrev s_clause_of : Stmt := top 50
set_option genInjectivity false in
set_option genSizeOfSpec false in
structure Ad where
  c_Clause : Addr
  c_Outcome : Addr
  c_Course : Addr
  c_Agreement : Addr
  f_Clause_init : Addr
  d_Clause_init : FuncData
  f_Outcome_init : Addr
  d_Outcome_init : FuncData
  f_Course_init : Addr
  d_Course_init : FuncData
  f_Course_first_place : Addr
  d_Course_first_place : FuncData
  f_Course_moves : Addr
  d_Course_moves : FuncData
  f_Course_outcome : Addr
  d_Course_outcome : FuncData
  f_Course_outcomes : Addr
  d_Course_outcomes : FuncData
  f_Course_different_outcomes : Addr
  d_Course_different_outcomes : FuncData
  f_do_act : Addr
  d_do_act : FuncData
  f_end_day : Addr
  d_end_day : FuncData
  f_call_up : Addr
  d_call_up : FuncData
  f_is_called_up : Addr
  d_is_called_up : FuncData
  f_places_from : Addr
  d_places_from : FuncData
  f_lost_places : Addr
  d_lost_places : FuncData
  f_entries_of : Addr
  d_entries_of : FuncData
  f_chances_of : Addr
  d_chances_of : FuncData
  f_end_for : Addr
  d_end_for : FuncData
  f_first_keeping_move : Addr
  d_first_keeping_move : FuncData
  f_what_bound : Addr
  d_what_bound : FuncData
  f_Agreement_init : Addr
  d_Agreement_init : FuncData
  f_Agreement_begin : Addr
  d_Agreement_begin : FuncData
  f_Agreement_act : Addr
  d_Agreement_act : FuncData
  f_Agreement_names : Addr
  d_Agreement_names : FuncData
  f_Agreement_clause : Addr
  d_Agreement_clause : FuncData
  f_Agreement_fits : Addr
  d_Agreement_fits : FuncData
  f_Agreement_go : Addr
  d_Agreement_go : FuncData
  f_Agreement_do : Addr
  d_Agreement_do : FuncData
  f_Agreement_owed : Addr
  d_Agreement_owed : FuncData
  f_Agreement_can : Addr
  d_Agreement_can : FuncData
  f_Agreement_best : Addr
  d_Agreement_best : FuncData
  f_answers : Addr
  d_answers : FuncData
  f_answer_of : Addr
  d_answer_of : FuncData
  f_clause_of : Addr
  d_clause_of : FuncData
  k_NUMBER_COUNTS : Addr
set_option genInjectivity false in
set_option genSizeOfSpec false in
structure Txt (K : PySem.W.Frag) (mg : Str → Option Value) (A : Ad) : Prop where
  mg_Clause : mg "Clause" = some (.ref A.c_Clause)
  cl_Clause : Cls K A.c_Clause
  M_Clause : Mk K A.c_Clause A.f_Clause_init
  n_Clause_when : NoAttr K A.c_Clause "when"
  n_Clause_what : NoAttr K A.c_Clause "what"
  n_Clause_must : NoAttr K A.c_Clause "must"
  n_Clause_who : NoAttr K A.c_Clause "who"
  n_Clause_deed : NoAttr K A.c_Clause "deed"
  n_Clause_days : NoAttr K A.c_Clause "days"
  mg_Outcome : mg "Outcome" = some (.ref A.c_Outcome)
  cl_Outcome : Cls K A.c_Outcome
  M_Outcome : Mk K A.c_Outcome A.f_Outcome_init
  n_Outcome_deed : NoAttr K A.c_Outcome "deed"
  n_Outcome_place : NoAttr K A.c_Outcome "place"
  n_Outcome_broke : NoAttr K A.c_Outcome "broke"
  mg_Course : mg "Course" = some (.ref A.c_Course)
  cl_Course : Cls K A.c_Course
  M_Course : Mk K A.c_Course A.f_Course_init
  n_Course_parties : NoAttr K A.c_Course "parties"
  n_Course_owners : NoAttr K A.c_Course "owners"
  n_Course_clauses : NoAttr K A.c_Course "clauses"
  n_Course_known : NoAttr K A.c_Course "known"
  mg_Agreement : mg "Agreement" = some (.ref A.c_Agreement)
  cl_Agreement : Cls K A.c_Agreement
  M_Agreement : Mk K A.c_Agreement A.f_Agreement_init
  n_Agreement_parties : NoAttr K A.c_Agreement "parties"
  n_Agreement_owners : NoAttr K A.c_Agreement "owners"
  n_Agreement_clauses : NoAttr K A.c_Agreement "clauses"
  n_Agreement_gone : NoAttr K A.c_Agreement "gone"
  n_Agreement_course : NoAttr K A.c_Agreement "course"
  n_Agreement_place : NoAttr K A.c_Agreement "place"
  F_Clause_init : Fun K "__init__" "Clause.__init__" s_Clause_init A.f_Clause_init A.d_Clause_init
  F_Outcome_init : Fun K "__init__" "Outcome.__init__" s_Outcome_init A.f_Outcome_init A.d_Outcome_init
  F_Course_init : Fun K "__init__" "Course.__init__" s_Course_init A.f_Course_init A.d_Course_init
  F_Course_first_place : Fun K "first_place" "Course.first_place" s_Course_first_place A.f_Course_first_place A.d_Course_first_place
  m_Course_first_place : Meth K A.c_Course "first_place" A.f_Course_first_place
  F_Course_moves : Fun K "moves" "Course.moves" s_Course_moves A.f_Course_moves A.d_Course_moves
  m_Course_moves : Meth K A.c_Course "moves" A.f_Course_moves
  F_Course_outcome : Fun K "outcome" "Course.outcome" s_Course_outcome A.f_Course_outcome A.d_Course_outcome
  m_Course_outcome : Meth K A.c_Course "outcome" A.f_Course_outcome
  F_Course_outcomes : Fun K "outcomes" "Course.outcomes" s_Course_outcomes A.f_Course_outcomes A.d_Course_outcomes
  m_Course_outcomes : Meth K A.c_Course "outcomes" A.f_Course_outcomes
  F_Course_different_outcomes : Fun K "different_outcomes" "Course.different_outcomes" s_Course_different_outcomes A.f_Course_different_outcomes A.d_Course_different_outcomes
  m_Course_different_outcomes : Meth K A.c_Course "different_outcomes" A.f_Course_different_outcomes
  F_do_act : Fun K "do_act" "do_act" s_do_act A.f_do_act A.d_do_act
  mg_do_act : mg "do_act" = some (.ref A.f_do_act)
  F_end_day : Fun K "end_day" "end_day" s_end_day A.f_end_day A.d_end_day
  mg_end_day : mg "end_day" = some (.ref A.f_end_day)
  F_call_up : Fun K "call_up" "call_up" s_call_up A.f_call_up A.d_call_up
  mg_call_up : mg "call_up" = some (.ref A.f_call_up)
  F_is_called_up : Fun K "is_called_up" "is_called_up" s_is_called_up A.f_is_called_up A.d_is_called_up
  mg_is_called_up : mg "is_called_up" = some (.ref A.f_is_called_up)
  F_places_from : Fun K "places_from" "places_from" s_places_from A.f_places_from A.d_places_from
  mg_places_from : mg "places_from" = some (.ref A.f_places_from)
  F_lost_places : Fun K "lost_places" "lost_places" s_lost_places A.f_lost_places A.d_lost_places
  mg_lost_places : mg "lost_places" = some (.ref A.f_lost_places)
  F_entries_of : Fun K "entries_of" "entries_of" s_entries_of A.f_entries_of A.d_entries_of
  mg_entries_of : mg "entries_of" = some (.ref A.f_entries_of)
  F_chances_of : Fun K "chances_of" "chances_of" s_chances_of A.f_chances_of A.d_chances_of
  mg_chances_of : mg "chances_of" = some (.ref A.f_chances_of)
  F_end_for : Fun K "end_for" "end_for" s_end_for A.f_end_for A.d_end_for
  mg_end_for : mg "end_for" = some (.ref A.f_end_for)
  F_first_keeping_move : Fun K "first_keeping_move" "first_keeping_move" s_first_keeping_move A.f_first_keeping_move A.d_first_keeping_move
  mg_first_keeping_move : mg "first_keeping_move" = some (.ref A.f_first_keeping_move)
  F_what_bound : Fun K "what_bound" "what_bound" s_what_bound A.f_what_bound A.d_what_bound
  mg_what_bound : mg "what_bound" = some (.ref A.f_what_bound)
  F_Agreement_init : Fun K "__init__" "Agreement.__init__" s_Agreement_init A.f_Agreement_init A.d_Agreement_init
  F_Agreement_begin : Fun K "begin" "Agreement.begin" s_Agreement_begin A.f_Agreement_begin A.d_Agreement_begin
  m_Agreement_begin : Meth K A.c_Agreement "begin" A.f_Agreement_begin
  F_Agreement_act : Fun K "act" "Agreement.act" s_Agreement_act A.f_Agreement_act A.d_Agreement_act
  m_Agreement_act : Meth K A.c_Agreement "act" A.f_Agreement_act
  F_Agreement_names : Fun K "names" "Agreement.names" s_Agreement_names A.f_Agreement_names A.d_Agreement_names
  m_Agreement_names : Meth K A.c_Agreement "names" A.f_Agreement_names
  F_Agreement_clause : Fun K "clause" "Agreement.clause" s_Agreement_clause A.f_Agreement_clause A.d_Agreement_clause
  m_Agreement_clause : Meth K A.c_Agreement "clause" A.f_Agreement_clause
  F_Agreement_fits : Fun K "fits" "Agreement.fits" s_Agreement_fits A.f_Agreement_fits A.d_Agreement_fits
  m_Agreement_fits : Meth K A.c_Agreement "fits" A.f_Agreement_fits
  F_Agreement_go : Fun K "go" "Agreement.go" s_Agreement_go A.f_Agreement_go A.d_Agreement_go
  m_Agreement_go : Meth K A.c_Agreement "go" A.f_Agreement_go
  F_Agreement_do : Fun K "do" "Agreement.do" s_Agreement_do A.f_Agreement_do A.d_Agreement_do
  m_Agreement_do : Meth K A.c_Agreement "do" A.f_Agreement_do
  F_Agreement_owed : Fun K "owed" "Agreement.owed" s_Agreement_owed A.f_Agreement_owed A.d_Agreement_owed
  m_Agreement_owed : Meth K A.c_Agreement "owed" A.f_Agreement_owed
  F_Agreement_can : Fun K "can" "Agreement.can" s_Agreement_can A.f_Agreement_can A.d_Agreement_can
  m_Agreement_can : Meth K A.c_Agreement "can" A.f_Agreement_can
  F_Agreement_best : Fun K "best" "Agreement.best" s_Agreement_best A.f_Agreement_best A.d_Agreement_best
  m_Agreement_best : Meth K A.c_Agreement "best" A.f_Agreement_best
  F_answers : Fun K "answers" "answers" s_answers A.f_answers A.d_answers
  mg_answers : mg "answers" = some (.ref A.f_answers)
  F_answer_of : Fun K "answer_of" "answer_of" s_answer_of A.f_answer_of A.d_answer_of
  mg_answer_of : mg "answer_of" = some (.ref A.f_answer_of)
  F_clause_of : Fun K "clause_of" "clause_of" s_clause_of A.f_clause_of A.d_clause_of
  mg_clause_of : mg "clause_of" = some (.ref A.f_clause_of)
  v_ACT_COUNT : ∃ t, mg "ACT_COUNT" = some (.int (16) t)
  v_MOST_PARTIES : ∃ t, mg "MOST_PARTIES" = some (.int (4) t)
  v_MOST_CLAUSES : ∃ t, mg "MOST_CLAUSES" = some (.int (8) t)
  v_MOST_DAYS : ∃ t, mg "MOST_DAYS" = some (.int (7) t)
  v_MUST : ∃ t, mg "MUST" = some (.int (1) t)
  v_AT_THE_BEGINNING : ∃ t, mg "AT_THE_BEGINNING" = some (.int (0) t)
  v_BY_AN_ACT : ∃ t, mg "BY_AN_ACT" = some (.int (1) t)
  v_BY_A_KEPT_CLAUSE : ∃ t, mg "BY_A_KEPT_CLAUSE" = some (.int (2) t)
  v_BY_A_BROKEN_CLAUSE : ∃ t, mg "BY_A_BROKEN_CLAUSE" = some (.int (3) t)
  v_NO_ACT : ∃ t, mg "NO_ACT" = some (.int (255) t)
  v_MOST_PLACES : ∃ t, mg "MOST_PLACES" = some (.int (300) t)
  v_BROKEN : mg "BROKEN" = some .none
  v_DONE : ∃ t, mg "DONE" = some (.int (0) t)
  v_NOT_THEIR_TURN : ∃ t, mg "NOT_THEIR_TURN" = some (.int (-1) t)
  v_NOT_NOW : ∃ t, mg "NOT_NOW" = some (.int (-16) t)
  v_NAMED : ∃ t, mg "NAMED" = some (.int (-17) t)
  v_WRONG : ∃ t, mg "WRONG" = some (.int (-22) t)
  v_FULL : ∃ t, mg "FULL" = some (.int (-28) t)
  v_CANNOT : ∃ t, mg "CANNOT" = some (.int (-33) t)
  v_TOO_MANY : ∃ t, mg "TOO_MANY" = some (.int (-75) t)
  v_BEGIN : ∃ t, mg "BEGIN" = some (.int (0) t)
  v_ACT : ∃ t, mg "ACT" = some (.int (1) t)
  v_CLAUSE : ∃ t, mg "CLAUSE" = some (.int (2) t)
  v_GO : ∃ t, mg "GO" = some (.int (3) t)
  v_DO : ∃ t, mg "DO" = some (.int (4) t)
  v_OWED : ∃ t, mg "OWED" = some (.int (5) t)
  v_CAN : ∃ t, mg "CAN" = some (.int (6) t)
  v_NUMBER_COUNTS : mg "NUMBER_COUNTS" = some (.ref A.k_NUMBER_COUNTS)
  q_NUMBER_COUNTS : ∀ H : Hp, SqT K H A.k_NUMBER_COUNTS [V.int (1), V.int (2), V.int (6), V.int (0), V.int (2), V.int (0), V.int (1), V.int (0)]
  no_any : mg "any" = none
  no_enumerate : mg "enumerate" = none
  no_len : mg "len" = none
  no_list : mg "list" = none
  no_max : mg "max" = none
  no_range : mg "range" = none
  no_tuple : mg "tuple" = none
section
variable {X : Cx} {A : Ad} {pos : Pos}
theorem pe_con_ACT_COUNT (T : Txt X.K X.mg A) (hg : Gl X "ACT_COUNT") : PE X (.Name "ACT_COUNT" pos) (tC (.int (16))) := T.v_ACT_COUNT.elim fun t h => pe_glob hg h ⟨t, rfl⟩
theorem pe_con_MOST_PARTIES (T : Txt X.K X.mg A) (hg : Gl X "MOST_PARTIES") : PE X (.Name "MOST_PARTIES" pos) (tC (.int (4))) := T.v_MOST_PARTIES.elim fun t h => pe_glob hg h ⟨t, rfl⟩
theorem pe_con_MOST_CLAUSES (T : Txt X.K X.mg A) (hg : Gl X "MOST_CLAUSES") : PE X (.Name "MOST_CLAUSES" pos) (tC (.int (8))) := T.v_MOST_CLAUSES.elim fun t h => pe_glob hg h ⟨t, rfl⟩
theorem pe_con_MOST_DAYS (T : Txt X.K X.mg A) (hg : Gl X "MOST_DAYS") : PE X (.Name "MOST_DAYS" pos) (tC (.int (7))) := T.v_MOST_DAYS.elim fun t h => pe_glob hg h ⟨t, rfl⟩
theorem pe_con_MUST (T : Txt X.K X.mg A) (hg : Gl X "MUST") : PE X (.Name "MUST" pos) (tC (.int (1))) := T.v_MUST.elim fun t h => pe_glob hg h ⟨t, rfl⟩
theorem pe_con_AT_THE_BEGINNING (T : Txt X.K X.mg A) (hg : Gl X "AT_THE_BEGINNING") : PE X (.Name "AT_THE_BEGINNING" pos) (tC (.int (0))) := T.v_AT_THE_BEGINNING.elim fun t h => pe_glob hg h ⟨t, rfl⟩
theorem pe_con_BY_AN_ACT (T : Txt X.K X.mg A) (hg : Gl X "BY_AN_ACT") : PE X (.Name "BY_AN_ACT" pos) (tC (.int (1))) := T.v_BY_AN_ACT.elim fun t h => pe_glob hg h ⟨t, rfl⟩
theorem pe_con_BY_A_KEPT_CLAUSE (T : Txt X.K X.mg A) (hg : Gl X "BY_A_KEPT_CLAUSE") : PE X (.Name "BY_A_KEPT_CLAUSE" pos) (tC (.int (2))) := T.v_BY_A_KEPT_CLAUSE.elim fun t h => pe_glob hg h ⟨t, rfl⟩
theorem pe_con_BY_A_BROKEN_CLAUSE (T : Txt X.K X.mg A) (hg : Gl X "BY_A_BROKEN_CLAUSE") : PE X (.Name "BY_A_BROKEN_CLAUSE" pos) (tC (.int (3))) := T.v_BY_A_BROKEN_CLAUSE.elim fun t h => pe_glob hg h ⟨t, rfl⟩
theorem pe_con_NO_ACT (T : Txt X.K X.mg A) (hg : Gl X "NO_ACT") : PE X (.Name "NO_ACT" pos) (tC (.int (255))) := T.v_NO_ACT.elim fun t h => pe_glob hg h ⟨t, rfl⟩
theorem pe_con_MOST_PLACES (T : Txt X.K X.mg A) (hg : Gl X "MOST_PLACES") : PE X (.Name "MOST_PLACES" pos) (tC (.int (300))) := T.v_MOST_PLACES.elim fun t h => pe_glob hg h ⟨t, rfl⟩
theorem pe_con_BROKEN (T : Txt X.K X.mg A) (hg : Gl X "BROKEN") : PE X (.Name "BROKEN" pos) (tC .non) := pe_glob hg T.v_BROKEN rfl
theorem pe_con_DONE (T : Txt X.K X.mg A) (hg : Gl X "DONE") : PE X (.Name "DONE" pos) (tC (.int (0))) := T.v_DONE.elim fun t h => pe_glob hg h ⟨t, rfl⟩
theorem pe_con_NOT_THEIR_TURN (T : Txt X.K X.mg A) (hg : Gl X "NOT_THEIR_TURN") : PE X (.Name "NOT_THEIR_TURN" pos) (tC (.int (-1))) := T.v_NOT_THEIR_TURN.elim fun t h => pe_glob hg h ⟨t, rfl⟩
theorem pe_con_NOT_NOW (T : Txt X.K X.mg A) (hg : Gl X "NOT_NOW") : PE X (.Name "NOT_NOW" pos) (tC (.int (-16))) := T.v_NOT_NOW.elim fun t h => pe_glob hg h ⟨t, rfl⟩
theorem pe_con_NAMED (T : Txt X.K X.mg A) (hg : Gl X "NAMED") : PE X (.Name "NAMED" pos) (tC (.int (-17))) := T.v_NAMED.elim fun t h => pe_glob hg h ⟨t, rfl⟩
theorem pe_con_WRONG (T : Txt X.K X.mg A) (hg : Gl X "WRONG") : PE X (.Name "WRONG" pos) (tC (.int (-22))) := T.v_WRONG.elim fun t h => pe_glob hg h ⟨t, rfl⟩
theorem pe_con_FULL (T : Txt X.K X.mg A) (hg : Gl X "FULL") : PE X (.Name "FULL" pos) (tC (.int (-28))) := T.v_FULL.elim fun t h => pe_glob hg h ⟨t, rfl⟩
theorem pe_con_CANNOT (T : Txt X.K X.mg A) (hg : Gl X "CANNOT") : PE X (.Name "CANNOT" pos) (tC (.int (-33))) := T.v_CANNOT.elim fun t h => pe_glob hg h ⟨t, rfl⟩
theorem pe_con_TOO_MANY (T : Txt X.K X.mg A) (hg : Gl X "TOO_MANY") : PE X (.Name "TOO_MANY" pos) (tC (.int (-75))) := T.v_TOO_MANY.elim fun t h => pe_glob hg h ⟨t, rfl⟩
theorem pe_con_BEGIN (T : Txt X.K X.mg A) (hg : Gl X "BEGIN") : PE X (.Name "BEGIN" pos) (tC (.int (0))) := T.v_BEGIN.elim fun t h => pe_glob hg h ⟨t, rfl⟩
theorem pe_con_ACT (T : Txt X.K X.mg A) (hg : Gl X "ACT") : PE X (.Name "ACT" pos) (tC (.int (1))) := T.v_ACT.elim fun t h => pe_glob hg h ⟨t, rfl⟩
theorem pe_con_CLAUSE (T : Txt X.K X.mg A) (hg : Gl X "CLAUSE") : PE X (.Name "CLAUSE" pos) (tC (.int (2))) := T.v_CLAUSE.elim fun t h => pe_glob hg h ⟨t, rfl⟩
theorem pe_con_GO (T : Txt X.K X.mg A) (hg : Gl X "GO") : PE X (.Name "GO" pos) (tC (.int (3))) := T.v_GO.elim fun t h => pe_glob hg h ⟨t, rfl⟩
theorem pe_con_DO (T : Txt X.K X.mg A) (hg : Gl X "DO") : PE X (.Name "DO" pos) (tC (.int (4))) := T.v_DO.elim fun t h => pe_glob hg h ⟨t, rfl⟩
theorem pe_con_OWED (T : Txt X.K X.mg A) (hg : Gl X "OWED") : PE X (.Name "OWED" pos) (tC (.int (5))) := T.v_OWED.elim fun t h => pe_glob hg h ⟨t, rfl⟩
theorem pe_con_CAN (T : Txt X.K X.mg A) (hg : Gl X "CAN") : PE X (.Name "CAN" pos) (tC (.int (6))) := T.v_CAN.elim fun t h => pe_glob hg h ⟨t, rfl⟩
theorem pe_con_NUMBER_COUNTS (T : Txt X.K X.mg A) (hg : Gl X "NUMBER_COUNTS") : PE X (.Name "NUMBER_COUNTS" pos) (tC (.ref A.k_NUMBER_COUNTS)) := pe_glob hg T.v_NUMBER_COUNTS rfl
end
theorem sc_Clause_init : FnScope ["self", "when", "what", "must", "who", "deed", "days"] ["self", "when", "what", "must", "who", "deed", "days"] (defScope s_Clause_init) := ⟨rfl, rfl, rfl, by decide +kernel, rfl, by decide +kernel, by decide +kernel⟩
theorem b_Clause_init {K : PySem.W.Frag} {mg : Str → Option Value} {A : Ad} (T : Txt K mg A) : Binds K A.d_Clause_init ["self", "when", "what", "must", "who", "deed", "days"] [] := T.F_Clause_init.binds (ps := ["self", "when", "what", "must", "who", "deed", "days"]) fun _ _ _ _ _ _ us hl => all7 us hl fun _ _ _ _ _ _ _ => rfl
theorem sc_Outcome_init : FnScope ["self", "deed", "place", "broke"] ["self", "deed", "place", "broke"] (defScope s_Outcome_init) := ⟨rfl, rfl, rfl, by decide +kernel, rfl, by decide +kernel, by decide +kernel⟩
theorem b_Outcome_init {K : PySem.W.Frag} {mg : Str → Option Value} {A : Ad} (T : Txt K mg A) : Binds K A.d_Outcome_init ["self", "deed", "place", "broke"] [] := T.F_Outcome_init.binds (ps := ["self", "deed", "place", "broke"]) fun _ _ _ _ _ _ us hl => all4 us hl fun _ _ _ _ => rfl
theorem sc_Course_init : FnScope ["self", "parties", "owners", "clauses"] ["self", "parties", "owners", "clauses"] (defScope s_Course_init) := ⟨rfl, rfl, rfl, by decide +kernel, rfl, by decide +kernel, by decide +kernel⟩
theorem b_Course_init {K : PySem.W.Frag} {mg : Str → Option Value} {A : Ad} (T : Txt K mg A) : Binds K A.d_Course_init ["self", "parties", "owners", "clauses"] [] := T.F_Course_init.binds (ps := ["self", "parties", "owners", "clauses"]) fun _ _ _ _ _ _ us hl => all4 us hl fun _ _ _ _ => rfl
theorem sc_Course_first_place : FnScope ["self", "clause"] ["self"] (defScope s_Course_first_place) := ⟨rfl, rfl, rfl, by decide +kernel, rfl, by decide +kernel, by decide +kernel⟩
theorem b_Course_first_place {K : PySem.W.Frag} {mg : Str → Option Value} {A : Ad} (T : Txt K mg A) : Binds K A.d_Course_first_place ["self"] [] := T.F_Course_first_place.binds (ps := ["self"]) fun _ _ _ _ _ _ us hl => all1 us hl fun _ => rfl
theorem sc_Course_moves : FnScope ["self", "p", "a"] ["self", "p"] (defScope s_Course_moves) := ⟨rfl, rfl, rfl, by decide +kernel, rfl, by decide +kernel, by decide +kernel⟩
theorem b_Course_moves {K : PySem.W.Frag} {mg : Str → Option Value} {A : Ad} (T : Txt K mg A) : Binds K A.d_Course_moves ["self", "p"] [] := T.F_Course_moves.binds (ps := ["self", "p"]) fun _ _ _ _ _ _ us hl => all2 us hl fun _ _ => rfl
theorem sc_Course_outcome : FnScope ["self", "place", "deed", "left", "broken", "turn", "blamed", "broke", "number", "p"] ["self", "place", "deed"] (defScope s_Course_outcome) := ⟨rfl, rfl, rfl, by decide +kernel, rfl, by decide +kernel, by decide +kernel⟩
theorem b_Course_outcome {K : PySem.W.Frag} {mg : Str → Option Value} {A : Ad} (T : Txt K mg A) : Binds K A.d_Course_outcome ["self", "place", "deed"] [] := T.F_Course_outcome.binds (ps := ["self", "place", "deed"]) fun _ _ _ _ _ _ us hl => all3 us hl fun _ _ _ => rfl
theorem sc_Course_outcomes : FnScope ["self", "place"] ["self", "place"] (defScope s_Course_outcomes) := ⟨rfl, rfl, rfl, by decide +kernel, rfl, by decide +kernel, by decide +kernel⟩
theorem b_Course_outcomes {K : PySem.W.Frag} {mg : Str → Option Value} {A : Ad} (T : Txt K mg A) : Binds K A.d_Course_outcomes ["self", "place"] [] := T.F_Course_outcomes.binds (ps := ["self", "place"]) fun _ _ _ _ _ _ us hl => all2 us hl fun _ _ => rfl
theorem sc_Course_different_outcomes : FnScope ["self", "place", "found", "deed", "outcome"] ["self", "place"] (defScope s_Course_different_outcomes) := ⟨rfl, rfl, rfl, by decide +kernel, rfl, by decide +kernel, by decide +kernel⟩
theorem b_Course_different_outcomes {K : PySem.W.Frag} {mg : Str → Option Value} {A : Ad} (T : Txt K mg A) : Binds K A.d_Course_different_outcomes ["self", "place"] [] := T.F_Course_different_outcomes.binds (ps := ["self", "place"]) fun _ _ _ _ _ _ us hl => all2 us hl fun _ _ => rfl
theorem sc_do_act : FnScope ["clauses", "left", "deed", "met", "kept", "broken", "number", "clause"] ["clauses", "left", "deed"] (defScope s_do_act) := ⟨rfl, rfl, rfl, by decide +kernel, rfl, by decide +kernel, by decide +kernel⟩
theorem b_do_act {K : PySem.W.Frag} {mg : Str → Option Value} {A : Ad} (T : Txt K mg A) : Binds K A.d_do_act ["clauses", "left", "deed"] [] := T.F_do_act.binds (ps := ["clauses", "left", "deed"]) fun _ _ _ _ _ _ us hl => all3 us hl fun _ _ _ => rfl
theorem sc_end_day : FnScope ["clauses", "left", "ended", "kept", "broken", "number"] ["clauses", "left"] (defScope s_end_day) := ⟨rfl, rfl, rfl, by decide +kernel, rfl, by decide +kernel, by decide +kernel⟩
theorem b_end_day {K : PySem.W.Frag} {mg : Str → Option Value} {A : Ad} (T : Txt K mg A) : Binds K A.d_end_day ["clauses", "left"] [] := T.F_end_day.binds (ps := ["clauses", "left"]) fun _ _ _ _ _ _ us hl => all2 us hl fun _ _ => rfl
theorem sc_call_up : FnScope ["clauses", "left", "deed", "kept", "broken", "number", "clause"] ["clauses", "left", "deed", "kept", "broken"] (defScope s_call_up) := ⟨rfl, rfl, rfl, by decide +kernel, rfl, by decide +kernel, by decide +kernel⟩
theorem b_call_up {K : PySem.W.Frag} {mg : Str → Option Value} {A : Ad} (T : Txt K mg A) : Binds K A.d_call_up ["clauses", "left", "deed", "kept", "broken"] [] := T.F_call_up.binds (ps := ["clauses", "left", "deed", "kept", "broken"]) fun _ _ _ _ _ _ us hl => all5 us hl fun _ _ _ _ _ => rfl
theorem sc_is_called_up : FnScope ["clause", "deed", "kept", "broken"] ["clause", "deed", "kept", "broken"] (defScope s_is_called_up) := ⟨rfl, rfl, rfl, by decide +kernel, rfl, by decide +kernel, by decide +kernel⟩
theorem b_is_called_up {K : PySem.W.Frag} {mg : Str → Option Value} {A : Ad} (T : Txt K mg A) : Binds K A.d_is_called_up ["clause", "deed", "kept", "broken"] [] := T.F_is_called_up.binds (ps := ["clause", "deed", "kept", "broken"]) fun _ _ _ _ _ _ us hl => all4 us hl fun _ _ _ _ => rfl
theorem sc_places_from : FnScope ["course", "start", "found", "order", "seen", "place", "outcome"] ["course", "start"] (defScope s_places_from) := ⟨rfl, rfl, rfl, by decide +kernel, rfl, by decide +kernel, by decide +kernel⟩
theorem b_places_from {K : PySem.W.Frag} {mg : Str → Option Value} {A : Ad} (T : Txt K mg A) : Binds K A.d_places_from ["course", "start"] [] := T.F_places_from.binds (ps := ["course", "start"]) fun _ _ _ _ _ _ us hl => all2 us hl fun _ _ => rfl
theorem sc_lost_places : FnScope ["course", "places", "p", "entries", "chances", "lost", "spreading", "end", "place"] ["course", "places", "p"] (defScope s_lost_places) := ⟨rfl, rfl, rfl, by decide +kernel, rfl, by decide +kernel, by decide +kernel⟩
theorem b_lost_places {K : PySem.W.Frag} {mg : Str → Option Value} {A : Ad} (T : Txt K mg A) : Binds K A.d_lost_places ["course", "places", "p"] [] := T.F_lost_places.binds (ps := ["course", "places", "p"]) fun _ _ _ _ _ _ us hl => all3 us hl fun _ _ _ => rfl
theorem sc_entries_of : FnScope ["course", "places", "p", "entries", "place", "outcome"] ["course", "places", "p"] (defScope s_entries_of) := ⟨rfl, rfl, rfl, by decide +kernel, rfl, by decide +kernel, by decide +kernel⟩
theorem b_entries_of {K : PySem.W.Frag} {mg : Str → Option Value} {A : Ad} (T : Txt K mg A) : Binds K A.d_entries_of ["course", "places", "p"] [] := T.F_entries_of.binds (ps := ["course", "places", "p"]) fun _ _ _ _ _ _ us hl => all3 us hl fun _ _ _ => rfl
theorem sc_chances_of : FnScope ["course", "places", "p", "chances", "place"] ["course", "places", "p"] (defScope s_chances_of) := ⟨rfl, rfl, rfl, by decide +kernel, rfl, by decide +kernel, by decide +kernel⟩
theorem b_chances_of {K : PySem.W.Frag} {mg : Str → Option Value} {A : Ad} (T : Txt K mg A) : Binds K A.d_chances_of ["course", "places", "p"] [] := T.F_chances_of.binds (ps := ["course", "places", "p"]) fun _ _ _ _ _ _ us hl => all3 us hl fun _ _ _ => rfl
theorem sc_end_for : FnScope ["outcome", "p"] ["outcome", "p"] (defScope s_end_for) := ⟨rfl, rfl, rfl, by decide +kernel, rfl, by decide +kernel, by decide +kernel⟩
theorem b_end_for {K : PySem.W.Frag} {mg : Str → Option Value} {A : Ad} (T : Txt K mg A) : Binds K A.d_end_for ["outcome", "p"] [] := T.F_end_for.binds (ps := ["outcome", "p"]) fun _ _ _ _ _ _ us hl => all2 us hl fun _ _ => rfl
theorem sc_first_keeping_move : FnScope ["outcomes", "lost", "p", "outcome"] ["outcomes", "lost", "p"] (defScope s_first_keeping_move) := ⟨rfl, rfl, rfl, by decide +kernel, rfl, by decide +kernel, by decide +kernel⟩
theorem b_first_keeping_move {K : PySem.W.Frag} {mg : Str → Option Value} {A : Ad} (T : Txt K mg A) : Binds K A.d_first_keeping_move ["outcomes", "lost", "p"] [] := T.F_first_keeping_move.binds (ps := ["outcomes", "lost", "p"]) fun _ _ _ _ _ _ us hl => all3 us hl fun _ _ _ => rfl
theorem sc_what_bound : FnScope ["when"] ["when"] (defScope s_what_bound) := ⟨rfl, rfl, rfl, by decide +kernel, rfl, by decide +kernel, by decide +kernel⟩
theorem b_what_bound {K : PySem.W.Frag} {mg : Str → Option Value} {A : Ad} (T : Txt K mg A) : Binds K A.d_what_bound ["when"] [] := T.F_what_bound.binds (ps := ["when"]) fun _ _ _ _ _ _ us hl => all1 us hl fun _ => rfl
theorem sc_Agreement_init : FnScope ["self"] ["self"] (defScope s_Agreement_init) := ⟨rfl, rfl, rfl, by decide +kernel, rfl, by decide +kernel, by decide +kernel⟩
theorem b_Agreement_init {K : PySem.W.Frag} {mg : Str → Option Value} {A : Ad} (T : Txt K mg A) : Binds K A.d_Agreement_init ["self"] [] := T.F_Agreement_init.binds (ps := ["self"]) fun _ _ _ _ _ _ us hl => all1 us hl fun _ => rfl
theorem sc_Agreement_begin : FnScope ["self", "n"] ["self", "n"] (defScope s_Agreement_begin) := ⟨rfl, rfl, rfl, by decide +kernel, rfl, by decide +kernel, by decide +kernel⟩
theorem b_Agreement_begin {K : PySem.W.Frag} {mg : Str → Option Value} {A : Ad} (T : Txt K mg A) : Binds K A.d_Agreement_begin ["self", "n"] [] := T.F_Agreement_begin.binds (ps := ["self", "n"]) fun _ _ _ _ _ _ us hl => all2 us hl fun _ _ => rfl
theorem sc_Agreement_act : FnScope ["self", "a", "p"] ["self", "a", "p"] (defScope s_Agreement_act) := ⟨rfl, rfl, rfl, by decide +kernel, rfl, by decide +kernel, by decide +kernel⟩
theorem b_Agreement_act {K : PySem.W.Frag} {mg : Str → Option Value} {A : Ad} (T : Txt K mg A) : Binds K A.d_Agreement_act ["self", "a", "p"] [] := T.F_Agreement_act.binds (ps := ["self", "a", "p"]) fun _ _ _ _ _ _ us hl => all3 us hl fun _ _ _ => rfl
theorem sc_Agreement_names : FnScope ["self", "a", "clause"] ["self", "a"] (defScope s_Agreement_names) := ⟨rfl, rfl, rfl, by decide +kernel, rfl, by decide +kernel, by decide +kernel⟩
theorem b_Agreement_names {K : PySem.W.Frag} {mg : Str → Option Value} {A : Ad} (T : Txt K mg A) : Binds K A.d_Agreement_names ["self", "a"] [] := T.F_Agreement_names.binds (ps := ["self", "a"]) fun _ _ _ _ _ _ us hl => all2 us hl fun _ _ => rfl
theorem sc_Agreement_clause : FnScope ["self", "told", "number"] ["self", "told"] (defScope s_Agreement_clause) := ⟨rfl, rfl, rfl, by decide +kernel, rfl, by decide +kernel, by decide +kernel⟩
theorem b_Agreement_clause {K : PySem.W.Frag} {mg : Str → Option Value} {A : Ad} (T : Txt K mg A) : Binds K A.d_Agreement_clause ["self", "told"] [] := T.F_Agreement_clause.binds (ps := ["self", "told"]) fun _ _ _ _ _ _ us hl => all2 us hl fun _ _ => rfl
theorem sc_Agreement_fits : FnScope ["self", "told"] ["self", "told"] (defScope s_Agreement_fits) := ⟨rfl, rfl, rfl, by decide +kernel, rfl, by decide +kernel, by decide +kernel⟩
theorem b_Agreement_fits {K : PySem.W.Frag} {mg : Str → Option Value} {A : Ad} (T : Txt K mg A) : Binds K A.d_Agreement_fits ["self", "told"] [] := T.F_Agreement_fits.binds (ps := ["self", "told"]) fun _ _ _ _ _ _ us hl => all2 us hl fun _ _ => rfl
theorem sc_Agreement_go : FnScope ["self"] ["self"] (defScope s_Agreement_go) := ⟨rfl, rfl, rfl, by decide +kernel, rfl, by decide +kernel, by decide +kernel⟩
theorem b_Agreement_go {K : PySem.W.Frag} {mg : Str → Option Value} {A : Ad} (T : Txt K mg A) : Binds K A.d_Agreement_go ["self"] [] := T.F_Agreement_go.binds (ps := ["self"]) fun _ _ _ _ _ _ us hl => all1 us hl fun _ => rfl
theorem sc_Agreement_do : FnScope ["self", "p", "a", "outcome"] ["self", "p", "a"] (defScope s_Agreement_do) := ⟨rfl, rfl, rfl, by decide +kernel, rfl, by decide +kernel, by decide +kernel⟩
theorem b_Agreement_do {K : PySem.W.Frag} {mg : Str → Option Value} {A : Ad} (T : Txt K mg A) : Binds K A.d_Agreement_do ["self", "p", "a"] [] := T.F_Agreement_do.binds (ps := ["self", "p", "a"]) fun _ _ _ _ _ _ us hl => all3 us hl fun _ _ _ => rfl
theorem sc_Agreement_owed : FnScope ["self"] ["self"] (defScope s_Agreement_owed) := ⟨rfl, rfl, rfl, by decide +kernel, rfl, by decide +kernel, by decide +kernel⟩
theorem b_Agreement_owed {K : PySem.W.Frag} {mg : Str → Option Value} {A : Ad} (T : Txt K mg A) : Binds K A.d_Agreement_owed ["self"] [] := T.F_Agreement_owed.binds (ps := ["self"]) fun _ _ _ _ _ _ us hl => all1 us hl fun _ => rfl
theorem sc_Agreement_can : FnScope ["self", "p", "places"] ["self", "p"] (defScope s_Agreement_can) := ⟨rfl, rfl, rfl, by decide +kernel, rfl, by decide +kernel, by decide +kernel⟩
theorem b_Agreement_can {K : PySem.W.Frag} {mg : Str → Option Value} {A : Ad} (T : Txt K mg A) : Binds K A.d_Agreement_can ["self", "p"] [] := T.F_Agreement_can.binds (ps := ["self", "p"]) fun _ _ _ _ _ _ us hl => all2 us hl fun _ _ => rfl
theorem sc_Agreement_best : FnScope ["self", "places", "turn", "lost"] ["self"] (defScope s_Agreement_best) := ⟨rfl, rfl, rfl, by decide +kernel, rfl, by decide +kernel, by decide +kernel⟩
theorem b_Agreement_best {K : PySem.W.Frag} {mg : Str → Option Value} {A : Ad} (T : Txt K mg A) : Binds K A.d_Agreement_best ["self"] [] := T.F_Agreement_best.binds (ps := ["self"]) fun _ _ _ _ _ _ us hl => all1 us hl fun _ => rfl
theorem sc_answers : FnScope ["calls", "agreement", "told", "start", "call", "end", "answer"] ["calls"] (defScope s_answers) := ⟨rfl, rfl, rfl, by decide +kernel, rfl, by decide +kernel, by decide +kernel⟩
theorem sc_answer_of : FnScope ["agreement", "call", "numbers"] ["agreement", "call", "numbers"] (defScope s_answer_of) := ⟨rfl, rfl, rfl, by decide +kernel, rfl, by decide +kernel, by decide +kernel⟩
theorem b_answer_of {K : PySem.W.Frag} {mg : Str → Option Value} {A : Ad} (T : Txt K mg A) : Binds K A.d_answer_of ["agreement", "call", "numbers"] [] := T.F_answer_of.binds (ps := ["agreement", "call", "numbers"]) fun _ _ _ _ _ _ us hl => all3 us hl fun _ _ _ => rfl
theorem sc_clause_of : FnScope ["numbers"] ["numbers"] (defScope s_clause_of) := ⟨rfl, rfl, rfl, by decide +kernel, rfl, by decide +kernel, by decide +kernel⟩
theorem b_clause_of {K : PySem.W.Frag} {mg : Str → Option Value} {A : Ad} (T : Txt K mg A) : Binds K A.d_clause_of ["numbers"] [] := T.F_clause_of.binds (ps := ["numbers"]) fun _ _ _ _ _ _ us hl => all1 us hl fun _ => rfl
end KT
namespace KT
open PySem PySem.Spec PyProof.Rows L2
theorem ne_when__what : ¬ (("when" : Str) = "what") := by decide +kernel
theorem ne_when__must : ¬ (("when" : Str) = "must") := by decide +kernel
theorem ne_when__who : ¬ (("when" : Str) = "who") := by decide +kernel
theorem ne_when__deed : ¬ (("when" : Str) = "deed") := by decide +kernel
theorem ne_when__days : ¬ (("when" : Str) = "days") := by decide +kernel
theorem ne_what__when : ¬ (("what" : Str) = "when") := by decide +kernel
theorem ne_what__must : ¬ (("what" : Str) = "must") := by decide +kernel
theorem ne_what__who : ¬ (("what" : Str) = "who") := by decide +kernel
theorem ne_what__deed : ¬ (("what" : Str) = "deed") := by decide +kernel
theorem ne_what__days : ¬ (("what" : Str) = "days") := by decide +kernel
theorem ne_must__when : ¬ (("must" : Str) = "when") := by decide +kernel
theorem ne_must__what : ¬ (("must" : Str) = "what") := by decide +kernel
theorem ne_must__who : ¬ (("must" : Str) = "who") := by decide +kernel
theorem ne_must__deed : ¬ (("must" : Str) = "deed") := by decide +kernel
theorem ne_must__days : ¬ (("must" : Str) = "days") := by decide +kernel
theorem ne_who__when : ¬ (("who" : Str) = "when") := by decide +kernel
theorem ne_who__what : ¬ (("who" : Str) = "what") := by decide +kernel
theorem ne_who__must : ¬ (("who" : Str) = "must") := by decide +kernel
theorem ne_who__deed : ¬ (("who" : Str) = "deed") := by decide +kernel
theorem ne_who__days : ¬ (("who" : Str) = "days") := by decide +kernel
theorem ne_deed__when : ¬ (("deed" : Str) = "when") := by decide +kernel
theorem ne_deed__what : ¬ (("deed" : Str) = "what") := by decide +kernel
theorem ne_deed__must : ¬ (("deed" : Str) = "must") := by decide +kernel
theorem ne_deed__who : ¬ (("deed" : Str) = "who") := by decide +kernel
theorem ne_deed__days : ¬ (("deed" : Str) = "days") := by decide +kernel
theorem ne_days__when : ¬ (("days" : Str) = "when") := by decide +kernel
theorem ne_days__what : ¬ (("days" : Str) = "what") := by decide +kernel
theorem ne_days__must : ¬ (("days" : Str) = "must") := by decide +kernel
theorem ne_days__who : ¬ (("days" : Str) = "who") := by decide +kernel
theorem ne_days__deed : ¬ (("days" : Str) = "deed") := by decide +kernel
theorem ne_deed__place : ¬ (("deed" : Str) = "place") := by decide +kernel
theorem ne_deed__broke : ¬ (("deed" : Str) = "broke") := by decide +kernel
theorem ne_place__deed : ¬ (("place" : Str) = "deed") := by decide +kernel
theorem ne_place__broke : ¬ (("place" : Str) = "broke") := by decide +kernel
theorem ne_broke__deed : ¬ (("broke" : Str) = "deed") := by decide +kernel
theorem ne_broke__place : ¬ (("broke" : Str) = "place") := by decide +kernel
theorem ne_parties__owners : ¬ (("parties" : Str) = "owners") := by decide +kernel
theorem ne_parties__clauses : ¬ (("parties" : Str) = "clauses") := by decide +kernel
theorem ne_parties__known : ¬ (("parties" : Str) = "known") := by decide +kernel
theorem ne_owners__parties : ¬ (("owners" : Str) = "parties") := by decide +kernel
theorem ne_owners__clauses : ¬ (("owners" : Str) = "clauses") := by decide +kernel
theorem ne_owners__known : ¬ (("owners" : Str) = "known") := by decide +kernel
theorem ne_clauses__parties : ¬ (("clauses" : Str) = "parties") := by decide +kernel
theorem ne_clauses__owners : ¬ (("clauses" : Str) = "owners") := by decide +kernel
theorem ne_clauses__known : ¬ (("clauses" : Str) = "known") := by decide +kernel
theorem ne_known__parties : ¬ (("known" : Str) = "parties") := by decide +kernel
theorem ne_known__owners : ¬ (("known" : Str) = "owners") := by decide +kernel
theorem ne_known__clauses : ¬ (("known" : Str) = "clauses") := by decide +kernel
theorem ne_parties__gone : ¬ (("parties" : Str) = "gone") := by decide +kernel
theorem ne_parties__course : ¬ (("parties" : Str) = "course") := by decide +kernel
theorem ne_parties__place : ¬ (("parties" : Str) = "place") := by decide +kernel
theorem ne_owners__gone : ¬ (("owners" : Str) = "gone") := by decide +kernel
theorem ne_owners__course : ¬ (("owners" : Str) = "course") := by decide +kernel
theorem ne_owners__place : ¬ (("owners" : Str) = "place") := by decide +kernel
theorem ne_clauses__gone : ¬ (("clauses" : Str) = "gone") := by decide +kernel
theorem ne_clauses__course : ¬ (("clauses" : Str) = "course") := by decide +kernel
theorem ne_clauses__place : ¬ (("clauses" : Str) = "place") := by decide +kernel
theorem ne_gone__parties : ¬ (("gone" : Str) = "parties") := by decide +kernel
theorem ne_gone__owners : ¬ (("gone" : Str) = "owners") := by decide +kernel
theorem ne_gone__clauses : ¬ (("gone" : Str) = "clauses") := by decide +kernel
theorem ne_gone__course : ¬ (("gone" : Str) = "course") := by decide +kernel
theorem ne_gone__place : ¬ (("gone" : Str) = "place") := by decide +kernel
theorem ne_course__parties : ¬ (("course" : Str) = "parties") := by decide +kernel
theorem ne_course__owners : ¬ (("course" : Str) = "owners") := by decide +kernel
theorem ne_course__clauses : ¬ (("course" : Str) = "clauses") := by decide +kernel
theorem ne_course__gone : ¬ (("course" : Str) = "gone") := by decide +kernel
theorem ne_course__place : ¬ (("course" : Str) = "place") := by decide +kernel
theorem ne_place__parties : ¬ (("place" : Str) = "parties") := by decide +kernel
theorem ne_place__owners : ¬ (("place" : Str) = "owners") := by decide +kernel
theorem ne_place__clauses : ¬ (("place" : Str) = "clauses") := by decide +kernel
theorem ne_place__gone : ¬ (("place" : Str) = "gone") := by decide +kernel
theorem ne_place__course : ¬ (("place" : Str) = "course") := by decide +kernel
noncomputable def ClauseF (v0 v1 v2 v3 v4 v5 : V) : List (Str × V) := [("when", v0), ("what", v1), ("must", v2), ("who", v3), ("deed", v4), ("days", v5)]
section
variable {v0 v1 v2 v3 v4 v5 u : V}
theorem Clause_get_when : List.lookup ("when" : Str) (ClauseF v0 v1 v2 v3 v4 v5) = some v0 := by
  unfold ClauseF
  exact lk_eq
theorem Clause_get_what : List.lookup ("what" : Str) (ClauseF v0 v1 v2 v3 v4 v5) = some v1 := by
  unfold ClauseF
  rw [lk_ne ne_what__when]
  exact lk_eq
theorem Clause_get_must : List.lookup ("must" : Str) (ClauseF v0 v1 v2 v3 v4 v5) = some v2 := by
  unfold ClauseF
  rw [lk_ne ne_must__when, lk_ne ne_must__what]
  exact lk_eq
theorem Clause_get_who : List.lookup ("who" : Str) (ClauseF v0 v1 v2 v3 v4 v5) = some v3 := by
  unfold ClauseF
  rw [lk_ne ne_who__when, lk_ne ne_who__what, lk_ne ne_who__must]
  exact lk_eq
theorem Clause_get_deed : List.lookup ("deed" : Str) (ClauseF v0 v1 v2 v3 v4 v5) = some v4 := by
  unfold ClauseF
  rw [lk_ne ne_deed__when, lk_ne ne_deed__what, lk_ne ne_deed__must, lk_ne ne_deed__who]
  exact lk_eq
theorem Clause_get_days : List.lookup ("days" : Str) (ClauseF v0 v1 v2 v3 v4 v5) = some v5 := by
  unfold ClauseF
  rw [lk_ne ne_days__when, lk_ne ne_days__what, lk_ne ne_days__must, lk_ne ne_days__who, lk_ne ne_days__deed]
  exact lk_eq
theorem Clause_made : putF ("days" : Str) v5 (putF ("deed" : Str) v4 (putF ("who" : Str) v3 (putF ("must" : Str) v2 (putF ("what" : Str) v1 (putF ("when" : Str) v0 []))))) = ClauseF v0 v1 v2 v3 v4 v5 := by
  rw [pf_nil, pf_ne ne_when__what, pf_nil, pf_ne ne_when__must, pf_ne ne_what__must, pf_nil, pf_ne ne_when__who, pf_ne ne_what__who, pf_ne ne_must__who, pf_nil, pf_ne ne_when__deed, pf_ne ne_what__deed, pf_ne ne_must__deed, pf_ne ne_who__deed, pf_nil, pf_ne ne_when__days, pf_ne ne_what__days, pf_ne ne_must__days, pf_ne ne_who__days, pf_ne ne_deed__days, pf_nil]
  rfl
end
noncomputable def OutcomeF (v0 v1 v2 : V) : List (Str × V) := [("deed", v0), ("place", v1), ("broke", v2)]
section
variable {v0 v1 v2 u : V}
theorem Outcome_get_deed : List.lookup ("deed" : Str) (OutcomeF v0 v1 v2) = some v0 := by
  unfold OutcomeF
  exact lk_eq
theorem Outcome_get_place : List.lookup ("place" : Str) (OutcomeF v0 v1 v2) = some v1 := by
  unfold OutcomeF
  rw [lk_ne ne_place__deed]
  exact lk_eq
theorem Outcome_get_broke : List.lookup ("broke" : Str) (OutcomeF v0 v1 v2) = some v2 := by
  unfold OutcomeF
  rw [lk_ne ne_broke__deed, lk_ne ne_broke__place]
  exact lk_eq
theorem Outcome_made : putF ("broke" : Str) v2 (putF ("place" : Str) v1 (putF ("deed" : Str) v0 [])) = OutcomeF v0 v1 v2 := by
  rw [pf_nil, pf_ne ne_deed__place, pf_nil, pf_ne ne_deed__broke, pf_ne ne_place__broke, pf_nil]
  rfl
end
noncomputable def CourseF (v0 v1 v2 v3 : V) : List (Str × V) := [("parties", v0), ("owners", v1), ("clauses", v2), ("known", v3)]
section
variable {v0 v1 v2 v3 u : V}
theorem Course_get_parties : List.lookup ("parties" : Str) (CourseF v0 v1 v2 v3) = some v0 := by
  unfold CourseF
  exact lk_eq
theorem Course_get_owners : List.lookup ("owners" : Str) (CourseF v0 v1 v2 v3) = some v1 := by
  unfold CourseF
  rw [lk_ne ne_owners__parties]
  exact lk_eq
theorem Course_get_clauses : List.lookup ("clauses" : Str) (CourseF v0 v1 v2 v3) = some v2 := by
  unfold CourseF
  rw [lk_ne ne_clauses__parties, lk_ne ne_clauses__owners]
  exact lk_eq
theorem Course_get_known : List.lookup ("known" : Str) (CourseF v0 v1 v2 v3) = some v3 := by
  unfold CourseF
  rw [lk_ne ne_known__parties, lk_ne ne_known__owners, lk_ne ne_known__clauses]
  exact lk_eq
theorem Course_no {m : Str} (h0 : ¬ m = "parties") (h1 : ¬ m = "owners") (h2 : ¬ m = "clauses") (h3 : ¬ m = "known") : List.lookup m (CourseF v0 v1 v2 v3) = none := by
  unfold CourseF
  rw [lk_ne h0, lk_ne h1, lk_ne h2, lk_ne h3]
  rfl
theorem Course_made : putF ("known" : Str) v3 (putF ("clauses" : Str) v2 (putF ("owners" : Str) v1 (putF ("parties" : Str) v0 []))) = CourseF v0 v1 v2 v3 := by
  rw [pf_nil, pf_ne ne_parties__owners, pf_nil, pf_ne ne_parties__clauses, pf_ne ne_owners__clauses, pf_nil, pf_ne ne_parties__known, pf_ne ne_owners__known, pf_ne ne_clauses__known, pf_nil]
  rfl
end
noncomputable def AgreementF (v0 v1 v2 v3 v4 v5 : V) : List (Str × V) := [("parties", v0), ("owners", v1), ("clauses", v2), ("gone", v3), ("course", v4), ("place", v5)]
section
variable {v0 v1 v2 v3 v4 v5 u : V}
theorem Agreement_get_parties : List.lookup ("parties" : Str) (AgreementF v0 v1 v2 v3 v4 v5) = some v0 := by
  unfold AgreementF
  exact lk_eq
theorem Agreement_put_parties : putF ("parties" : Str) u (AgreementF v0 v1 v2 v3 v4 v5) = AgreementF u v1 v2 v3 v4 v5 := by
  unfold AgreementF
  rw [pf_eq]
theorem Agreement_get_owners : List.lookup ("owners" : Str) (AgreementF v0 v1 v2 v3 v4 v5) = some v1 := by
  unfold AgreementF
  rw [lk_ne ne_owners__parties]
  exact lk_eq
theorem Agreement_put_owners : putF ("owners" : Str) u (AgreementF v0 v1 v2 v3 v4 v5) = AgreementF v0 u v2 v3 v4 v5 := by
  unfold AgreementF
  rw [pf_ne ne_parties__owners, pf_eq]
theorem Agreement_get_clauses : List.lookup ("clauses" : Str) (AgreementF v0 v1 v2 v3 v4 v5) = some v2 := by
  unfold AgreementF
  rw [lk_ne ne_clauses__parties, lk_ne ne_clauses__owners]
  exact lk_eq
theorem Agreement_put_clauses : putF ("clauses" : Str) u (AgreementF v0 v1 v2 v3 v4 v5) = AgreementF v0 v1 u v3 v4 v5 := by
  unfold AgreementF
  rw [pf_ne ne_parties__clauses, pf_ne ne_owners__clauses, pf_eq]
theorem Agreement_get_gone : List.lookup ("gone" : Str) (AgreementF v0 v1 v2 v3 v4 v5) = some v3 := by
  unfold AgreementF
  rw [lk_ne ne_gone__parties, lk_ne ne_gone__owners, lk_ne ne_gone__clauses]
  exact lk_eq
theorem Agreement_put_gone : putF ("gone" : Str) u (AgreementF v0 v1 v2 v3 v4 v5) = AgreementF v0 v1 v2 u v4 v5 := by
  unfold AgreementF
  rw [pf_ne ne_parties__gone, pf_ne ne_owners__gone, pf_ne ne_clauses__gone, pf_eq]
theorem Agreement_get_course : List.lookup ("course" : Str) (AgreementF v0 v1 v2 v3 v4 v5) = some v4 := by
  unfold AgreementF
  rw [lk_ne ne_course__parties, lk_ne ne_course__owners, lk_ne ne_course__clauses, lk_ne ne_course__gone]
  exact lk_eq
theorem Agreement_put_course : putF ("course" : Str) u (AgreementF v0 v1 v2 v3 v4 v5) = AgreementF v0 v1 v2 v3 u v5 := by
  unfold AgreementF
  rw [pf_ne ne_parties__course, pf_ne ne_owners__course, pf_ne ne_clauses__course, pf_ne ne_gone__course, pf_eq]
theorem Agreement_get_place : List.lookup ("place" : Str) (AgreementF v0 v1 v2 v3 v4 v5) = some v5 := by
  unfold AgreementF
  rw [lk_ne ne_place__parties, lk_ne ne_place__owners, lk_ne ne_place__clauses, lk_ne ne_place__gone, lk_ne ne_place__course]
  exact lk_eq
theorem Agreement_put_place : putF ("place" : Str) u (AgreementF v0 v1 v2 v3 v4 v5) = AgreementF v0 v1 v2 v3 v4 u := by
  unfold AgreementF
  rw [pf_ne ne_parties__place, pf_ne ne_owners__place, pf_ne ne_clauses__place, pf_ne ne_gone__place, pf_ne ne_course__place, pf_eq]
theorem Agreement_no {m : Str} (h0 : ¬ m = "parties") (h1 : ¬ m = "owners") (h2 : ¬ m = "clauses") (h3 : ¬ m = "gone") (h4 : ¬ m = "course") (h5 : ¬ m = "place") : List.lookup m (AgreementF v0 v1 v2 v3 v4 v5) = none := by
  unfold AgreementF
  rw [lk_ne h0, lk_ne h1, lk_ne h2, lk_ne h3, lk_ne h4, lk_ne h5]
  rfl
theorem Agreement_made : putF ("place" : Str) v5 (putF ("course" : Str) v4 (putF ("gone" : Str) v3 (putF ("clauses" : Str) v2 (putF ("owners" : Str) v1 (putF ("parties" : Str) v0 []))))) = AgreementF v0 v1 v2 v3 v4 v5 := by
  rw [pf_nil, pf_ne ne_parties__owners, pf_nil, pf_ne ne_parties__clauses, pf_ne ne_owners__clauses, pf_nil, pf_ne ne_parties__gone, pf_ne ne_owners__gone, pf_ne ne_clauses__gone, pf_nil, pf_ne ne_parties__course, pf_ne ne_owners__course, pf_ne ne_clauses__course, pf_ne ne_gone__course, pf_nil, pf_ne ne_parties__place, pf_ne ne_owners__place, pf_ne ne_clauses__place, pf_ne ne_gone__place, pf_ne ne_course__place, pf_nil]
  rfl
end
end KT

namespace KT
open PySem PySem.Spec PyProof.Rows L2
open Kp195 (Deal)
noncomputable abbrev Pl := Kp195.Place
noncomputable abbrev nv (n : Nat) : V := V.int (n : Int)
noncomputable def zs (l : List Nat) : List Int := l.map fun (n : Nat) => (n : Int)
noncomputable def nvs (l : List Nat) : List V := (zs l).map V.int
theorem nvs_at {l : List Nat} {i n : Nat} (h : l[i]? = some n) : (nvs l)[i]? = some (nv n) := by
  unfold nvs zs
  rw [List.getElem?_map, List.getElem?_map, h]
  all_goals rfl
theorem nvs_len (l : List Nat) : (nvs l).length = l.length := by unfold nvs zs; rw [List.length_map, List.length_map]
theorem nvs_append (a b : List Nat) : nvs (a ++ b) = nvs a ++ nvs b := by unfold nvs zs; rw [List.map_append, List.map_append]
theorem nvs_set (l : List Nat) (i n : Nat) : (nvs l).set i (nv n) = nvs (l.set i n) := by
  unfold nvs zs
  rw [List.map_set, List.map_set]
theorem nvs_get {l : List Nat} {i : Nat} {x : V} (h : (nvs l)[i]? = some x) : ∃ n, l[i]? = some n ∧ x = nv n := by
  unfold nvs zs at h
  rw [List.getElem?_map, List.getElem?_map] at h
  cases e : l[i]? with
  | none => rw [e] at h; cases h
  | some n => rw [e] at h; exact ⟨n, rfl, (Option.some.inj h).symm⟩
theorem nvs_flat (l : List Nat) : (nvs l).all flatV = true := by
  unfold nvs
  rw [List.all_map]
  exact List.all_eq_true.mpr fun _ _ => rfl
theorem nvs_in (n : Nat) : ∀ l : List Nat, inV (nv n) (nvs l) = l.contains n
  | [] => rfl
  | a :: l => by
    have ih := nvs_in n l
    unfold nvs zs inV at ih ⊢
    rw [List.map_cons, List.map_cons, List.any_cons, ih, List.contains_cons]
    congr 1
    show ((a : Int) == (n : Int)) = (n == a)
    rw [Bool.eq_iff_iff, beq_iff_eq, beq_iff_eq]
    omega
theorem zs_inj : ∀ {a b : List Nat}, zs a = zs b → a = b
  | [], [], _ => rfl
  | [], _ :: _, h => by simp [zs] at h
  | _ :: _, [], h => by simp [zs] at h
  | x :: a, y :: b, h => by
    unfold zs at h
    rw [List.map_cons, List.map_cons] at h
    injection h with h1 h2
    rw [Int.ofNat.inj h1, zs_inj h2]
noncomputable def pk (p : Pl) : GK := .tup (zs (KP.ptup p))
noncomputable def ek : Option Pl → GK
  | none => .non
  | some p => pk p
theorem pk_inj {p q : Pl} (h : pk p = pk q) : p = q := KP.ptup_inj (zs_inj (GK.tup.inj h))
theorem ek_inj {p q : Option Pl} (h : ek p = ek q) : p = q := by
  cases p with
  | none =>
    cases q with
    | none => rfl
    | some q => cases h
  | some p =>
    cases q with
    | none => cases h
    | some q => rw [pk_inj h]
noncomputable def PlAt (H : Hp) (a : Addr) (p : Pl) : Prop := H a = some (.tup (nvs (KP.ptup p)))
theorem PlAt.ga {H : Hp} {a : Addr} {p : Pl} (h : PlAt H a p) : GA H (pk p) (.ref a) := GA.tup h
noncomputable def isG : HO → Bool
  | .dG _ => true
  | _ => false
noncomputable def NG (H H' : Hp) : Prop := ∀ b o, H b = some o → isG o = false → H' b = some o
theorem NG.same {H H' : Hp} (s : Same H H') : NG H H' := fun b o h _ => s b o h
theorem NG.trans {H H1 H2 : Hp} (a : NG H H1) (b : NG H1 H2) : NG H H2 := fun c o h n => b c o (a c o h n) n
theorem NG.kept {H H' : Hp} {kn : Addr} {kvs : List (GK × V)} (k : Kept [kn] H H') (h : H kn = some (.dG kvs)) : NG H H' := fun b o e n => k b o e (by
  rw [List.mem_singleton]
  intro z
  rw [z, h] at e
  cases e
  cases n)
noncomputable def mV (b : Bool) : V := .int (if b then 1 else 0)
noncomputable abbrev ClauseO (A : Ad) (dx : Addr) (c : Kp195.Clause) : HO := .ins A.c_Clause dx (ClauseF (nv c.when_) (nv c.what) (mV c.must) (nv c.who) (nv c.act) (nv c.days))
noncomputable def ClauseAt (A : Ad) (H : Hp) (a : Addr) (c : Kp195.Clause) : Prop := ∃ dx, H a = some (ClauseO A dx c)
theorem ClauseAt.keep {A : Ad} {H H' : Hp} {a : Addr} {c : Kp195.Clause} (h : ClauseAt A H a c) (k : NG H H') : ClauseAt A H' a c := let ⟨dx, e⟩ := h; ⟨dx, k _ _ e rfl⟩
structure ClsAt (A : Ad) (H : Hp) (l : Addr) (as : List Addr) (cs : List Kp195.Clause) : Prop where
  lst : H l = some (.lst (as.map V.ref))
  len : as.length = cs.length
  at_ : ∀ (i : Nat) (c : Kp195.Clause), cs[i]? = some c → ∃ a, as[i]? = some a ∧ ClauseAt A H a c
theorem ClsAt.keep {A : Ad} {H H' : Hp} {l : Addr} {as : List Addr} {cs : List Kp195.Clause} (h : ClsAt A H l as cs) (k : NG H H') : ClsAt A H' l as cs :=
  ⟨k _ _ h.lst rfl, h.len, fun i c e => let ⟨a, e1, e2⟩ := h.at_ i c e; ⟨a, e1, e2.keep k⟩⟩
theorem refs_get {as : List Addr} {i : Nat} {x : V} (h : (as.map V.ref)[i]? = some x) : ∃ a, as[i]? = some a ∧ x = .ref a := by
  rw [List.getElem?_map] at h
  cases e : as[i]? with
  | none => rw [e] at h; cases h
  | some a => rw [e] at h; exact ⟨a, rfl, (Option.some.inj h).symm⟩
theorem refs_at' {as : List Addr} {i : Nat} {a : Addr} (h : as[i]? = some a) : (as.map V.ref)[i]? = some (.ref a) := by rw [List.getElem?_map, h]; all_goals rfl
structure DealAt (A : Ad) (H : Hp) (ow cl : Addr) (d : Deal) : Prop where
  own : H ow = some (.lst (nvs d.owners))
  cls : ∃ as, ClsAt A H cl as d.clauses
theorem DealAt.keep {A : Ad} {H H' : Hp} {ow cl : Addr} {d : Deal} (h : DealAt A H ow cl d) (k : NG H H') : DealAt A H' ow cl d :=
  ⟨k _ _ h.own rfl, let ⟨as, e⟩ := h.cls; ⟨as, e.keep k⟩⟩
noncomputable def OutAt (A : Ad) (H : Hp) (a : Addr) (d : Deal) (p : Pl) (m : Nat) : Prop :=
  ∃ dx pa ba, H a = some (.ins A.c_Outcome dx (OutcomeF (nv m) (.ref pa) (.ref ba))) ∧ PlAt H pa (KL.bring d p m).1 ∧ H ba = some (.tup (nvs (KL.bring d p m).2))
theorem OutAt.keep {A : Ad} {H H' : Hp} {a : Addr} {d : Deal} {p : Pl} {m : Nat} (h : OutAt A H a d p m) (k : NG H H') : OutAt A H' a d p m :=
  let ⟨dx, pa, ba, e1, e2, e3⟩ := h; ⟨dx, pa, ba, k _ _ e1 rfl, k _ _ e2 rfl, k _ _ e3 rfl⟩
structure OutsAt (A : Ad) (H : Hp) (l : Addr) (d : Deal) (p : Pl) (ms : List Nat) (as : List Addr) : Prop where
  lst : H l = some (.lst (as.map V.ref))
  len : as.length = ms.length
  at_ : ∀ (i m : Nat), ms[i]? = some m → ∃ a, as[i]? = some a ∧ OutAt A H a d p m
theorem OutsAt.keep {A : Ad} {H H' : Hp} {l : Addr} {d : Deal} {p : Pl} {ms : List Nat} {as : List Addr} (h : OutsAt A H l d p ms as) (k : NG H H') : OutsAt A H' l d p ms as :=
  ⟨k _ _ h.lst rfl, h.len, fun i m e => let ⟨a, e1, e2⟩ := h.at_ i m e; ⟨a, e1, e2.keep k⟩⟩
structure KnownAt (A : Ad) (H : Hp) (kn : Addr) (d : Deal) (n : Nat) : Prop where
  dict : ∃ kvs, H kn = some (.dG kvs) ∧ kvs.length ≤ n ∧ ∀ p v, valV kvs (pk p) = some v → ∃ l as, v = .ref l ∧ OutsAt A H l d p (KL.diffs d p) as
theorem KnownAt.keep {A : Ad} {H H' : Hp} {kn : Addr} {d : Deal} {n : Nat} (h : KnownAt A H kn d n) (k : NG H H') (e : H' kn = H kn) : KnownAt A H' kn d n := by
  obtain ⟨kvs, h1, h2, h3⟩ := h.dict
  exact ⟨kvs, e.trans h1, h2, fun p v q => let ⟨l, as, q1, q2⟩ := h3 p v q; ⟨l, as, q1, q2.keep k⟩⟩
theorem KnownAt.more {A : Ad} {H : Hp} {kn : Addr} {d : Deal} {n m : Nat} (h : KnownAt A H kn d n) (e : n ≤ m) : KnownAt A H kn d m := let ⟨kvs, h1, h2, h3⟩ := h.dict; ⟨kvs, h1, Nat.le_trans h2 e, h3⟩
structure CA where
  co : Addr
  kn : Addr
  ow : Addr
  cl : Addr
structure CourseAt (A : Ad) (H : Hp) (c : CA) (d : Deal) (n : Nat) : Prop where
  obj : ∃ dx, H c.co = some (.ins A.c_Course dx (CourseF (nv d.parties) (.ref c.ow) (.ref c.cl) (.ref c.kn)))
  deal : DealAt A H c.ow c.cl d
  known : KnownAt A H c.kn d n
section
variable {A : Ad} {H H' : Hp} {c : CA} {d : Deal} {n : Nat}
theorem CourseAt.keep (h : CourseAt A H c d n) (k : NG H H') (e : H' c.kn = H c.kn) : CourseAt A H' c d n :=
  ⟨let ⟨dx, e1⟩ := h.obj; ⟨dx, k _ _ e1 rfl⟩, h.deal.keep k, h.known.keep k e⟩
theorem CourseAt.hasG (h : CourseAt A H c d n) : ∃ kvs, H c.kn = some (.dG kvs) := let ⟨kvs, e, _⟩ := h.known.dict; ⟨kvs, e⟩
theorem CourseAt.same (h : CourseAt A H c d n) (k : Same H H') : CourseAt A H' c d n := by
  obtain ⟨kvs, e⟩ := h.hasG
  exact h.keep (NG.same k) ((k _ _ e).trans e.symm)
theorem CourseAt.ng (h : CourseAt A H c d n) (k : Kept [c.kn] H H') : NG H H' := let ⟨_, e⟩ := h.hasG; NG.kept k e
theorem CourseAt.more {m : Nat} (h : CourseAt A H c d n) (e : n ≤ m) : CourseAt A H c d m := ⟨h.obj, h.deal, h.known.more e⟩
noncomputable def PlL (H : Hp) (od : Addr) : Prop := ∃ xs, H od = some (.lst xs) ∧ ∀ v, xs[0]? = some v → ∃ a ys, v = .ref a ∧ H a = some (.tup ys)
theorem refs0 {as : List Addr} {a : Addr} (h : as[0]? = some a) : (as.map V.ref)[0]? = some (.ref a) := by rw [List.getElem?_map, h]; all_goals rfl
theorem diffs_pos (d : Deal) (p : Pl) : 0 < (KL.diffs d p).length := by
  obtain ⟨k, hk, _⟩ := KL.diffs_cover (d := d) (p := p) (m := Kp195.NONE) (by unfold Kp195.moves; simp)
  exact List.length_pos_of_mem hk
theorem OutsAt.notPl {l od : Addr} {p : Pl} {as : List Addr} (h : OutsAt A H l d p (KL.diffs d p) as) (q : PlL H od) : l ≠ od := fun z => by
  obtain ⟨xs, e, hx⟩ := q
  rw [← z, h.lst] at e
  cases e
  obtain ⟨m, hm⟩ : ∃ m, (KL.diffs d p)[0]? = some m := ⟨_, List.getElem?_eq_getElem (diffs_pos d p)⟩
  obtain ⟨a, ha, dx, pa, ba, ho, _⟩ := h.at_ 0 m hm
  obtain ⟨a', ys, e1, e2⟩ := hx _ (refs0 ha)
  cases e1
  rw [ho] at e2
  cases e2
theorem CourseAt.off {od : Addr} (h : CourseAt A H c d n) (own : d.owners.length = 16) (q : PlL H od) (ncl : od ≠ c.cl) (k : ∀ b o, H b = some o → isG o = false → b ≠ od → H' b = some o) (e : H' c.kn = H c.kn) : CourseAt A H' c d n := by
  obtain ⟨xs, e0, hx⟩ := id q
  have nL : ∀ {b : Addr} {o : HO}, H b = some o → isG o = false → (∀ xs, o ≠ .lst xs) → H' b = some o := fun {b o} e g nl => k b o e g (fun z => by rw [z, e0] at e; cases e; exact nl _ rfl)
  obtain ⟨dx, ho⟩ := h.obj
  obtain ⟨as, hcl⟩ := h.deal.cls
  obtain ⟨kv, q1, q2, q3⟩ := h.known.dict
  have now : c.ow ≠ od := fun z => by
    have e1 := h.deal.own
    rw [z, e0] at e1
    cases e1
    obtain ⟨o0, ho0⟩ : ∃ o0, d.owners[0]? = some o0 := ⟨_, List.getElem?_eq_getElem (by omega)⟩
    obtain ⟨a, ys, e2, _⟩ := hx _ (nvs_at ho0)
    cases e2
  refine ⟨⟨dx, nL ho rfl (fun _ z => nomatch z)⟩, ⟨k _ _ h.deal.own rfl now, as, k _ _ hcl.lst rfl (fun z => ncl z.symm), hcl.len, fun i c e => ?_⟩, kv, e.trans q1, q2, fun p v e => ?_⟩
  · obtain ⟨a, e1, dx', e2⟩ := hcl.at_ i c e
    exact ⟨a, e1, dx', nL e2 rfl (fun _ z => nomatch z)⟩
  · obtain ⟨l, as', e1, o⟩ := q3 p v e
    refine ⟨l, as', e1, k _ _ o.lst rfl (o.notPl q), o.len, fun i m e => ?_⟩
    obtain ⟨a, e2, dx', pa, ba, e3, e4, e5⟩ := o.at_ i m e
    exact ⟨a, e2, dx', pa, ba, nL e3 rfl (fun _ z => nomatch z), nL e4 rfl (fun _ z => nomatch z), nL e5 rfl (fun _ z => nomatch z)⟩
end
theorem ends_abs0 {g : TG} {tb : TS} {D : Ends} {x : V} {σ : L2.St} {H : Hp} (h : ∀ Dz : Ends, (∀ σ H, D.nx σ H → Dz.nx σ H) → (∀ v H, D.rt v H → Dz.rt v H) → (∀ σ H, D.bk σ H → Dz.bk σ H) → (∀ σ H, D.ct σ H → Dz.ct σ H) → g x σ H fun σ2 H2 => tb Dz σ2 H2) :
    g x σ H fun σ2 H2 => tb D σ2 H2 := h D (fun _ _ z => z) (fun _ _ z => z) (fun _ _ z => z) fun _ _ z => z
theorem ends_absS {tb : TS} {D : Ends} {σ : L2.St} {H : Hp} (h : ∀ Dz : Ends, (∀ σ H, D.nx σ H → Dz.nx σ H) → (∀ v H, D.rt v H → Dz.rt v H) → (∀ σ H, D.bk σ H → Dz.bk σ H) → (∀ σ H, D.ct σ H → Dz.ct σ H) → tb Dz σ H) :
    tb D σ H := h D (fun _ _ z => z) (fun _ _ z => z) (fun _ _ z => z) fun _ _ z => z
theorem if_cut {c : TT} {t r : TS} {D : Ends} {σ : L2.St} {H : Hp} {b : Bool} (hc : ∀ R : Bool → Hp → Prop, R b H → c σ H R) (h : if b = true then t { D with nx := r D } σ H else r D σ H) : tSeq (tIfS c t tNext) r D σ H := hc _ h
theorem if_cutR {c : TT} {te : TE} {r : TS} {D : Ends} {σ : L2.St} {H : Hp} {b : Bool} (hc : ∀ R : Bool → Hp → Prop, R b H → c σ H R) (h : if b = true then te σ H D.rt else r D σ H) : tSeq (tIfS c (tRet te) tNext) r D σ H := hc _ h
theorem ret_cut {te : TE} {n b c : L2.St → Hp → Prop} {Q : VK} {σ : L2.St} {H : Hp} (h : te σ H Q) : tRet te ⟨n, Q, b, c⟩ σ H := h
theorem if_eq {i j : Int} {B C : Prop} (h1 : i = j → B) (h2 : ¬ i = j → C) : if decide (V.int i = V.int j) = true then B else C := by
  by_cases h : i = j
  · rw [if_pos (by rw [h]; exact decide_eq_true rfl)]; exact h1 h
  · rw [if_neg (by intro z; exact h (V.int.inj (of_decide_eq_true z)))]; exact h2 h
theorem if_ne {i j : Int} {B C : Prop} (h1 : ¬ i = j → B) (h2 : i = j → C) : if (!decide (V.int i = V.int j)) = true then B else C := by
  by_cases h : i = j
  · rw [if_neg (by rw [h]; simp)]; exact h2 h
  · rw [if_pos (by rw [Bool.not_eq_true', decide_eq_false_iff_not]; exact fun z => h (V.int.inj z))]; exact h1 h
theorem if_dec {p B C : Prop} [Decidable p] (h1 : p → B) (h2 : ¬ p → C) : if decide p = true then B else C := by
  by_cases h : p
  · rw [if_pos (decide_eq_true h)]; exact h1 h
  · rw [if_neg (by intro z; exact h (of_decide_eq_true z))]; exact h2 h
theorem if_bl {b : Bool} {B C : Prop} (h1 : b = true → B) (h2 : b = false → C) : if b = true then B else C := by
  cases b with
  | true => exact (if_pos rfl).mpr (h1 rfl)
  | false => exact (if_neg Bool.false_ne_true).mpr (h2 rfl)
theorem ix_nat {n i : Nat} (h : i < n) : ixN n (i : Int) = some i := by
  unfold ixN
  rw [if_pos (by omega), if_pos (by omega)]
  rfl
theorem size_lt {n : Nat} (h : n < 1000000) : n < sizeLine := Nat.lt_of_lt_of_le h (by decide)
end KT

namespace KT
open PySem PySem.Spec PyProof.Rows L2
open Kp195 (Deal)
noncomputable def Off (p : Addr) (H H' : Hp) : Prop := ∀ b, b ≠ p → H' b = H b
noncomputable def sp_Clause_init (A : Ad) (K : PySem.W.Frag) : Sp := fun vs H Q _ => ∃ p dx v0 v1 v2 v3 v4 v5, vs = [.ref p, v0, v1, v2, v3, v4, v5] ∧ H p = some (.ins A.c_Clause dx []) ∧
  ∀ H', H' p = some (.ins A.c_Clause dx (ClauseF v0 v1 v2 v3 v4 v5)) → Off p H H' → Q .non H'
theorem ok_Clause_init {P : Program} {w : World} {K : PySem.W.Frag} {mg : Str → Option Value} {base : Heap} {A : Ad} (T : Txt K mg A) : FnOk P w K mg base CX0 1 A.f_Clause_init A.d_Clause_init ["self", "when", "what", "must", "who", "deed", "days"] (sp_Clause_init A K) := by
  refine T.F_Clause_init.ok sc_Clause_init (fun vs H Q E h => ?_) (fun cdv A1 outer s H vs Q E hr h => ?_)
  · obtain ⟨p, dx, v0, v1, v2, v3, v4, v5, rfl, _⟩ := h
    rfl
  · obtain ⟨p, dx, v0, v1, v2, v3, v4, v5, rfl, hp, k⟩ := h
    refine ⟨_, (pss_cons (ps_fld (pv 0) (pv 1) rfl)
      (pss_cons (ps_fld (pv 0) (pv 2) rfl)
      (pss_cons (ps_fld (pv 0) (pv 3) rfl)
      (pss_cons (ps_fld (pv 0) (pv 4) rfl)
      (pss_cons (ps_fld (pv 0) (pv 5) rfl)
      (pss_one (ps_fld (pv 0) (pv 6) rfl))))))), ?_⟩
    try dsimp only [cx_K]
    refine ⟨_, rfl, _, rfl, p, _, dx, _, rfl, hp, T.cl_Clause, T.n_Clause_when, (by show 0 < 1000; decide), ?_⟩
    refine ⟨_, rfl, _, rfl, p, _, dx, _, rfl, upd_same, T.cl_Clause, T.n_Clause_what, (by show 1 < 1000; decide), ?_⟩
    refine ⟨_, rfl, _, rfl, p, _, dx, _, rfl, upd_same, T.cl_Clause, T.n_Clause_must, (by show 2 < 1000; decide), ?_⟩
    refine ⟨_, rfl, _, rfl, p, _, dx, _, rfl, upd_same, T.cl_Clause, T.n_Clause_who, (by show 3 < 1000; decide), ?_⟩
    refine ⟨_, rfl, _, rfl, p, _, dx, _, rfl, upd_same, T.cl_Clause, T.n_Clause_deed, (by show 4 < 1000; decide), ?_⟩
    refine ⟨_, rfl, _, rfl, p, _, dx, _, rfl, upd_same, T.cl_Clause, T.n_Clause_days, (by show 5 < 1000; decide), ?_⟩
    refine k _ (upd_same.trans ?_) fun b hb => ?_
    · rw [Clause_made]
    · rw [upd_ne hb, upd_ne hb, upd_ne hb, upd_ne hb, upd_ne hb, upd_ne hb]
noncomputable def sp_Outcome_init (A : Ad) (K : PySem.W.Frag) : Sp := fun vs H Q _ => ∃ p dx v0 v1 v2, vs = [.ref p, v0, v1, v2] ∧ H p = some (.ins A.c_Outcome dx []) ∧
  ∀ H', H' p = some (.ins A.c_Outcome dx (OutcomeF v0 v1 v2)) → Off p H H' → Q .non H'
theorem ok_Outcome_init {P : Program} {w : World} {K : PySem.W.Frag} {mg : Str → Option Value} {base : Heap} {A : Ad} (T : Txt K mg A) : FnOk P w K mg base CX0 1 A.f_Outcome_init A.d_Outcome_init ["self", "deed", "place", "broke"] (sp_Outcome_init A K) := by
  refine T.F_Outcome_init.ok sc_Outcome_init (fun vs H Q E h => ?_) (fun cdv A1 outer s H vs Q E hr h => ?_)
  · obtain ⟨p, dx, v0, v1, v2, rfl, _⟩ := h
    rfl
  · obtain ⟨p, dx, v0, v1, v2, rfl, hp, k⟩ := h
    refine ⟨_, (pss_cons (ps_fld (pv 0) (pv 1) rfl)
      (pss_cons (ps_fld (pv 0) (pv 2) rfl)
      (pss_one (ps_fld (pv 0) (pv 3) rfl)))), ?_⟩
    try dsimp only [cx_K]
    refine ⟨_, rfl, _, rfl, p, _, dx, _, rfl, hp, T.cl_Outcome, T.n_Outcome_deed, (by show 0 < 1000; decide), ?_⟩
    refine ⟨_, rfl, _, rfl, p, _, dx, _, rfl, upd_same, T.cl_Outcome, T.n_Outcome_place, (by show 1 < 1000; decide), ?_⟩
    refine ⟨_, rfl, _, rfl, p, _, dx, _, rfl, upd_same, T.cl_Outcome, T.n_Outcome_broke, (by show 2 < 1000; decide), ?_⟩
    refine k _ (upd_same.trans ?_) fun b hb => ?_
    · rw [Outcome_made]
    · rw [upd_ne hb, upd_ne hb, upd_ne hb]
noncomputable def sp_Course_init (A : Ad) (K : PySem.W.Frag) : Sp := fun vs H Q _ => ∃ p dx v0 v1 v2, vs = [.ref p, v0, v1, v2] ∧ H p = some (.ins A.c_Course dx []) ∧
  ∀ H' kn, H' p = some (.ins A.c_Course dx (CourseF v0 v1 v2 (.ref kn))) → H kn = none → H' kn = some (.dG []) → (∀ b, b ≠ p → b ≠ kn → H' b = H b) → Q .non H'
theorem ok_Course_init {P : Program} {w : World} {K : PySem.W.Frag} {mg : Str → Option Value} {base : Heap} {A : Ad} (T : Txt K mg A) : FnOk P w K mg base CX0 1 A.f_Course_init A.d_Course_init ["self", "parties", "owners", "clauses"] (sp_Course_init A K) := by
  refine T.F_Course_init.ok sc_Course_init (fun vs H Q E h => ?_) (fun cdv A1 outer s H vs Q E hr h => ?_)
  · obtain ⟨p, dx, v0, v1, v2, rfl, _⟩ := h
    rfl
  · obtain ⟨p, dx, v0, v1, v2, rfl, hp, k⟩ := h
    refine ⟨_, (pss_cons (ps_fld (pv 0) (pv 1) rfl)
      (pss_cons (ps_fld (pv 0) (pv 2) rfl)
      (pss_cons (ps_fld (pv 0) (pv 3) rfl)
      (pss_one (ps_fld (pv 0) pe_gnew rfl))))), ?_⟩
    try dsimp only [cx_K]
    refine ⟨_, rfl, _, rfl, p, _, dx, _, rfl, hp, T.cl_Course, T.n_Course_parties, (by show 0 < 1000; decide), ?_⟩
    refine ⟨_, rfl, _, rfl, p, _, dx, _, rfl, upd_same, T.cl_Course, T.n_Course_owners, (by show 1 < 1000; decide), ?_⟩
    refine ⟨_, rfl, _, rfl, p, _, dx, _, rfl, upd_same, T.cl_Course, T.n_Course_clauses, (by show 2 < 1000; decide), ?_⟩
    intro kn hk
    have hpk : p ≠ kn := ne_of_none upd_same hk
    refine ⟨_, rfl, p, _, dx, _, rfl, (upd_ne hpk).trans upd_same, T.cl_Course, T.n_Course_known, (by show 3 < 1000; decide), ?_⟩
    rw [upd_ne hpk.symm, upd_ne hpk.symm, upd_ne hpk.symm] at hk
    refine k _ kn (upd_same.trans ?_) hk ((upd_ne hpk.symm).trans upd_same) fun b hb hb2 => ?_
    · rw [Course_made]
    · rw [upd_ne hb, upd_ne hb2, upd_ne hb, upd_ne hb, upd_ne hb]
noncomputable def whatB (w : Nat) : Nat := if w = 0 then 1 else if w = 1 then 16 else 8
noncomputable def sp_what_bound (A : Ad) (K : PySem.W.Frag) : Sp := fun vs H Q _ => ∃ w : Nat, vs = [nv w] ∧ Q (nv (whatB w)) H
theorem ok_what_bound {P : Program} {w : World} {K : PySem.W.Frag} {mg : Str → Option Value} {base : Heap} {A : Ad} (T : Txt K mg A) : FnOk P w K mg base CX0 1 A.f_what_bound A.d_what_bound ["when"] (sp_what_bound A K) := by
  refine T.F_what_bound.ok sc_what_bound (fun vs H Q E h => ?_) (fun cdv A1 outer s H vs Q E hr h => ?_)
  · obtain ⟨w, rfl, _⟩ := h
    rfl
  · obtain ⟨w, rfl, k⟩ := h
    refine ⟨_, (pss_cons (ps_if (pt_cmpR op_eq (pv 0) (pe_con_AT_THE_BEGINNING T (by rfl)) (nomark _))
        (pss_one (ps_ret pe_int))
        pss_nil)
      (pss_cons (ps_if (pt_cmpR op_eq (pv 0) (pe_con_BY_AN_ACT T (by rfl)) (nomark _))
        (pss_one (ps_ret (pe_con_ACT_COUNT T (by rfl))))
        pss_nil)
      (pss_one (ps_ret (pe_con_MOST_CLAUSES T (by rfl)))))), ?_⟩
    try dsimp only [cx_K]
    first | refine if_cutR (fun _ z => ⟨_, rfl, rfl, _, rfl, z⟩) (if_eq (fun e => ?_) fun e => ?_) | refine if_cut (fun _ z => ⟨_, rfl, rfl, _, rfl, z⟩) (if_eq (fun e => ?_) fun e => ?_) | refine ⟨_, rfl, rfl, _, rfl, if_eq (fun e => ?_) fun e => ?_⟩
    · have e0 : w = 0 := by omega
      rw [e0] at k
      exact k
    · first | refine if_cutR (fun _ z => ⟨_, rfl, rfl, _, rfl, z⟩) (if_eq (fun e1 => ?_) fun e1 => ?_) | refine if_cut (fun _ z => ⟨_, rfl, rfl, _, rfl, z⟩) (if_eq (fun e1 => ?_) fun e1 => ?_) | refine ⟨_, rfl, rfl, _, rfl, if_eq (fun e1 => ?_) fun e1 => ?_⟩
      · have e0 : w = 1 := by omega
        rw [e0] at k
        exact k
      · have h1 : whatB w = 8 := by unfold whatB; rw [if_neg (by omega), if_neg (by omega)]
        rw [h1] at k
        exact k
noncomputable def sp_is_called_up (A : Ad) (K : PySem.W.Frag) : Sp := fun vs H Q _ => ∃ ca c deed la lb kept broken, vs = [.ref ca, nv deed, .ref la, .ref lb] ∧ ClauseAt A H ca c ∧ H la = some (.lst (nvs kept)) ∧ H lb = some (.lst (nvs broken)) ∧
  Q (.bl (Kp195.called c deed kept broken)) H
theorem called1 {c : Kp195.Clause} (h : c.when_ = 1) (a : Nat) (k b : List Nat) : Kp195.called c a k b = (c.what == a) := by unfold Kp195.called; rw [h]; all_goals rfl
theorem called2 {c : Kp195.Clause} (h : c.when_ = 2) (a : Nat) (k b : List Nat) : Kp195.called c a k b = k.contains c.what := by unfold Kp195.called; rw [h]; all_goals rfl
theorem called3 {c : Kp195.Clause} (h : c.when_ = 3) (a : Nat) (k b : List Nat) : Kp195.called c a k b = b.contains c.what := by unfold Kp195.called; rw [h]; all_goals rfl
theorem called0 {c : Kp195.Clause} (h1 : ¬ c.when_ = 1) (h2 : ¬ c.when_ = 2) (h3 : ¬ c.when_ = 3) (a : Nat) (k b : List Nat) : Kp195.called c a k b = false := by
  unfold Kp195.called
  split
  · exact absurd (by assumption) h1
  · exact absurd (by assumption) h2
  · exact absurd (by assumption) h3
  · rfl
theorem dec_nv (a b : Nat) : decide (V.int (a : Int) = V.int (b : Int)) = (a == b) := by
  rw [Bool.eq_iff_iff, decide_eq_true_iff, beq_iff_eq]
  exact ⟨fun h => Int.ofNat.inj (V.int.inj h), fun h => by rw [h]⟩
theorem ok_is_called_up {P : Program} {w : World} {K : PySem.W.Frag} {mg : Str → Option Value} {base : Heap} {A : Ad} (T : Txt K mg A) : FnOk P w K mg base CX0 1 A.f_is_called_up A.d_is_called_up ["clause", "deed", "kept", "broken"] (sp_is_called_up A K) := by
  refine T.F_is_called_up.ok sc_is_called_up (fun vs H Q E h => ?_) (fun cdv A1 outer s H vs Q E hr h => ?_)
  · obtain ⟨ca, c, deed, la, lb, kept, broken, rfl, _⟩ := h
    rfl
  · obtain ⟨ca, c, deed, la, lb, kept, broken, rfl, ⟨dx, hc⟩, ha, hb, k⟩ := h
    refine ⟨_, (pss_cons (ps_if (pt_cmpR op_eq (pe_fld (pv 0) rfl) (pe_con_BY_AN_ACT T (by rfl)) (nomark _))
        (pss_one (ps_ret (pe_cmpR op_eq (pe_fld (pv 0) rfl) (pv 1) (nomark _))))
        pss_nil)
      (pss_cons (ps_if (pt_cmpR op_eq (pe_fld (pv 0) rfl) (pe_con_BY_A_KEPT_CLAUSE T (by rfl)) (nomark _))
        (pss_one (ps_ret (pe_cmpR op_in_seq (pe_fld (pv 0) rfl) (pv 2) (by with_unfolding_all rfl))))
        pss_nil)
      (pss_cons (ps_if (pt_cmpR op_eq (pe_fld (pv 0) rfl) (pe_con_BY_A_BROKEN_CLAUSE T (by rfl)) (nomark _))
        (pss_one (ps_ret (pe_cmpR op_in_seq (pe_fld (pv 0) rfl) (pv 3) (by with_unfolding_all rfl))))
        pss_nil)
      (pss_one (ps_ret pe_bl))))), ?_⟩
    try dsimp only [cx_K]
    first | refine if_cutR (fun _ z => ⟨_, rfl, ca, _, dx, _, _, rfl, hc, T.cl_Clause, T.n_Clause_when, Clause_get_when, rfl, _, rfl, z⟩) (if_eq (fun e => ?_) fun e1 => ?_) | refine if_cut (fun _ z => ⟨_, rfl, ca, _, dx, _, _, rfl, hc, T.cl_Clause, T.n_Clause_when, Clause_get_when, rfl, _, rfl, z⟩) (if_eq (fun e => ?_) fun e1 => ?_) | refine ⟨_, rfl, ca, _, dx, _, _, rfl, hc, T.cl_Clause, T.n_Clause_when, Clause_get_when, rfl, _, rfl, if_eq (fun e => ?_) fun e1 => ?_⟩
    · rw [called1 (by omega), ← dec_nv] at k
      exact ⟨_, rfl, ca, _, dx, _, _, rfl, hc, T.cl_Clause, T.n_Clause_what, Clause_get_what, _, rfl, rfl, k⟩
    · first | refine if_cutR (fun _ z => ⟨_, rfl, ca, _, dx, _, _, rfl, hc, T.cl_Clause, T.n_Clause_when, Clause_get_when, rfl, _, rfl, z⟩) (if_eq (fun e => ?_) fun e2 => ?_) | refine if_cut (fun _ z => ⟨_, rfl, ca, _, dx, _, _, rfl, hc, T.cl_Clause, T.n_Clause_when, Clause_get_when, rfl, _, rfl, z⟩) (if_eq (fun e => ?_) fun e2 => ?_) | refine ⟨_, rfl, ca, _, dx, _, _, rfl, hc, T.cl_Clause, T.n_Clause_when, Clause_get_when, rfl, _, rfl, if_eq (fun e => ?_) fun e2 => ?_⟩
      · rw [called2 (by omega), ← nvs_in] at k
        exact ⟨_, rfl, ca, _, dx, _, _, rfl, hc, T.cl_Clause, T.n_Clause_what, Clause_get_what, _, rfl, la, _, rfl, .inl (SqL.of ha), rfl, nvs_flat _, k⟩
      · first | refine if_cutR (fun _ z => ⟨_, rfl, ca, _, dx, _, _, rfl, hc, T.cl_Clause, T.n_Clause_when, Clause_get_when, rfl, _, rfl, z⟩) (if_eq (fun e => ?_) fun e3 => ?_) | refine if_cut (fun _ z => ⟨_, rfl, ca, _, dx, _, _, rfl, hc, T.cl_Clause, T.n_Clause_when, Clause_get_when, rfl, _, rfl, z⟩) (if_eq (fun e => ?_) fun e3 => ?_) | refine ⟨_, rfl, ca, _, dx, _, _, rfl, hc, T.cl_Clause, T.n_Clause_when, Clause_get_when, rfl, _, rfl, if_eq (fun e => ?_) fun e3 => ?_⟩
        · rw [called3 (by omega), ← nvs_in] at k
          exact ⟨_, rfl, ca, _, dx, _, _, rfl, hc, T.cl_Clause, T.n_Clause_what, Clause_get_what, _, rfl, lb, _, rfl, .inl (SqL.of hb), rfl, nvs_flat _, k⟩
        · rw [called0 (by omega) (by omega) (by omega)] at k
          exact k
noncomputable def sp_call_up (A : Ad) (K : PySem.W.Frag) : Sp := fun vs H Q _ => ∃ cl le la lb as d left deed kept broken, vs = [.ref cl, .ref le, nv deed, .ref la, .ref lb] ∧ ClsAt A H cl as d.clauses ∧ H le = some (.lst (nvs left)) ∧ left.length = d.clauses.length ∧
  H la = some (.lst (nvs kept)) ∧ H lb = some (.lst (nvs broken)) ∧ le ≠ cl ∧ le ≠ la ∧ le ≠ lb ∧ ∀ H', Kept [le] H H' → H' le = some (.lst (nvs (Kp195.callUp d left deed kept broken))) → Q .non H'
theorem Kept.one {p : Addr} {H H' : Hp} (k : Kept [p] H H') {b : Addr} {o : HO} (h : H b = some o) (n : p ≠ b) : H' b = some o := k b o h (by rw [List.mem_singleton]; exact fun z => n z.symm)
theorem ClsAt.k1 {A : Ad} {H H' : Hp} {l p : Addr} {as : List Addr} {cs : List Kp195.Clause} {xs : List V} (h : ClsAt A H l as cs) (k : Kept [p] H H') (n : p ≠ l) (hp : H p = some (.lst xs)) : ClsAt A H' l as cs :=
  ⟨Kept.one k h.lst n, h.len, fun i c e => let ⟨a, e1, dx, e2⟩ := h.at_ i c e; ⟨a, e1, dx, Kept.one k e2 (ne_of hp e2 (fun z => nomatch z))⟩⟩
theorem ok_call_up {P : Program} {w : World} {K : PySem.W.Frag} {mg : Str → Option Value} {base : Heap} {A : Ad} (T : Txt K mg A) : FnOk P w K mg base CX0 2 A.f_call_up A.d_call_up ["clauses", "left", "deed", "kept", "broken"] (sp_call_up A K) := by
  refine T.F_call_up.ok sc_call_up (fun vs H Q E h => ?_) (fun cdv A1 outer s H vs Q E hr h => ?_)
  · obtain ⟨cl, le, la, lb, as, d, left, deed, kept, broken, rfl, _⟩ := h
    rfl
  · obtain ⟨cl, le, la, lb, as, d, left, deed, kept, broken, rfl, hcl, hle, hlen, hla, hlb, n1, n2, n3, k⟩ := h
    have hC : (Kp195.callUp d left deed kept broken).length = left.length := by rw [KS.callUp_len, hlen]
    refine ⟨_, (pss_one (ps_for PassesOwn.never rfl (pi_enum rfl T.no_enumerate (pa_cons (hs := st_name) (pv 0) pa_nil)) (pg_tup rfl (pgs_cons (pg_name (i := 5) sc_call_up.nd rfl (by first | exact Or.inl rfl | exact Or.inr rfl)) (pgs_cons (pg_name (i := 6) sc_call_up.nd rfl (by first | exact Or.inl rfl | exact Or.inr rfl)) pgs_nil)))
        (pss_one (ps_if (PW.pt (pw_and (pt_cmpR op_eq (pe_ix ix_list (pv 1) (pv 5) (fun _ _ => rfl)) pe_int (nomark _)) (pw_and1 (pt_val (pe_call (he := st_name) (ok_is_called_up T) (hr.mono (by decide)) rfl T.mg_is_called_up T.F_is_called_up.kp (b_is_called_up T) .nil pass0 (pa_cons (hs := st_name) (pv 6) (pa_cons (hs := st_name) (pv 2) (pa_cons (hs := st_name) (pv 3) (pa_cons (hs := st_name) (pv 4) pa_nil)))))))))
          (pss_one (ps_asg (pe_fld (pv 6) rfl) (pg_sub (pv 1) (pv 5) set_list)))
          pss_nil)))), ?_⟩
    try dsimp only [cx_K]
    refine ⟨_, rfl, cl, _, rfl, SqL.of hcl.lst, for_enum (K := K) (a := cl) (xs := as.map V.ref)
      (fun i σ H' => ∃ v5 v6, σ = [some (.ref cl), some (.ref le), some (nv deed), some (.ref la), some (.ref lb), v5, v6] ∧ Kept [le] H H' ∧ H' le = some (.lst (nvs (KP.mixL (Kp195.callUp d left deed kept broken) left i))))
      ⟨none, none, rfl, Kept.refl _ _, by rw [KP.mix_zero]; exact hle⟩ (fun i σ H' _ ⟨_, _, _, k1, _⟩ => SqL.of (Kept.one k1 hcl.lst n1)) ?_ ?_⟩
    · rintro i y σ H1 t hi ⟨v5, v6, rfl, k1, h1⟩ ht
      refine ends_abs0 fun Dz zn _ _ _ => ?_
      obtain ⟨a, hai, rfl⟩ := refs_get hi
      have hil : i < d.clauses.length := by rw [← hcl.len]; exact (List.getElem?_eq_some_iff.mp hai).1
      obtain ⟨a', ha', dx, hca⟩ := hcl.at_ i _ (KP.at_clause hil)
      obtain rfl : a = a' := Option.some.inj (hai.symm.trans ha')
      have kt : Kept [le] H (upd H1 t (.tup [nv i, .ref a])) := k1.new ht
      have hle2 : (upd H1 t (.tup [nv i, .ref a])) le = some (.lst (nvs (KP.mixL (Kp195.callUp d left deed kept broken) left i))) := (upd_ne (ne_of_none h1 ht)).trans h1
      have hca2 := Kept.one kt hca (ne_of hle hca (fun z => nomatch z))
      have hv : (KP.mixL (Kp195.callUp d left deed kept broken) left i)[i]? = some (left.getD i 0) := by rw [KP.mix_at hC (by omega), KP.at_getD (by omega)]
      have hA := KP.callUp_at' (d := d) (left := left) (a := deed) (kept := kept) (broken := broken) hil
      refine ⟨t, _, rfl, SqT.of upd_same, rfl, _, _, rfl, _, _, rfl, rfl, ?_⟩
      first | refine if_cutR (fun _ z => ⟨_, rfl, _, rfl, le, _, _, _, rfl, rfl, SqL.of hle2, atI_nat (nvs_at hv), rfl, _, rfl, z⟩) (if_eq (fun e0 => ?_) fun e0 => ?_) | refine if_cut (fun _ z => ⟨_, rfl, _, rfl, le, _, _, _, rfl, rfl, SqL.of hle2, atI_nat (nvs_at hv), rfl, _, rfl, z⟩) (if_eq (fun e0 => ?_) fun e0 => ?_) | (refine ⟨_, rfl, _, rfl, le, _, _, _, rfl, rfl, SqL.of hle2, atI_nat (nvs_at hv), rfl, _, rfl, ?_⟩; refine if_eq (fun e0 => ?_) fun e0 => ?_)
      · refine ⟨_, rfl, _, rfl, _, rfl, _, rfl, ?_⟩
        refine ⟨a, _, deed, la, lb, kept, broken, rfl, ⟨dx, hca2⟩, Kept.one kt hla n2, Kept.one kt hlb n3, ?_⟩
        first | refine if_cutR (fun _ z => ⟨_, rfl, z⟩) (if_bl (fun hb => ?_) fun hb => ?_) | refine if_cut (fun _ z => ⟨_, rfl, z⟩) (if_bl (fun hb => ?_) fun hb => ?_) | refine ⟨_, rfl, if_bl (fun hb => ?_) fun hb => ?_⟩
        · refine ⟨_, rfl, a, _, dx, _, _, rfl, hca2, T.cl_Clause, T.n_Clause_days, Clause_get_days, _, rfl, _, rfl, le, _, _, i, rfl, rfl, hle2, ?_, ?_⟩
          · rw [nvs_len, KP.mix_len hC]; exact ix_nat (by omega)
          · refine zn _ _ ⟨_, _, rfl, kt.upd (by simp), ?_⟩
            rw [upd_same, nvs_set, KP.mix_set hC]
            rw [hA, if_pos ⟨by omega, hb⟩]
        · refine zn _ _ ⟨_, _, rfl, kt, ?_⟩
          rw [← KP.mix_same hC (i := i) (by rw [hA, if_neg (by rw [hb]; simp), KP.at_getD (by omega)]) (by omega)]
          exact hle2
      · refine zn _ _ ⟨_, _, rfl, kt, ?_⟩
        rw [← KP.mix_same hC (i := i) (by rw [hA, if_neg (by omega), KP.at_getD (by omega)]) (by omega)]
        exact hle2
    · rintro σ H1 ⟨v5, v6, rfl, k1, h1⟩
      rw [List.length_map, hcl.len, show d.clauses.length = (Kp195.callUp d left deed kept broken).length by rw [hC, hlen], KP.mix_full hC] at h1
      exact k H1 k1 h1
end KT

namespace KT
open PySem PySem.Spec PyProof.Rows L2
open Kp195 (Deal)
theorem mV_eq (b : Bool) : decide (mV b = V.int 1) = b := by cases b <;> decide
theorem range_snoc (f : Nat → Bool) (i : Nat) (h : f i = true) : nvs ((List.range (i + 1)).filter f) = nvs ((List.range i).filter f) ++ [nv i] := by
  rw [KP.range_filter_succ, if_pos h, nvs_append]
  all_goals rfl
theorem range_skip (f : Nat → Bool) (i : Nat) (h : f i = false) : (List.range (i + 1)).filter f = (List.range i).filter f := by
  rw [KP.range_filter_succ, if_neg (by rw [h]; exact Bool.false_ne_true), List.append_nil]
theorem take_snoc' (f : Nat → Bool) {l : List Nat} {i x : Nat} (e : l[i]? = some x) (h : f x = true) : nvs ((l.take (i + 1)).filter f) = nvs ((l.take i).filter f) ++ [nv x] := by
  rw [KP.filter_take_succ f e, if_pos h, nvs_append]
  all_goals rfl
theorem take_skip' (f : Nat → Bool) {l : List Nat} {i x : Nat} (e : l[i]? = some x) (h : f x = false) : (l.take (i + 1)).filter f = (l.take i).filter f := by
  rw [KP.filter_take_succ f e, if_neg (by rw [h]; exact Bool.false_ne_true), List.append_nil]
theorem filter_small {f : Nat → Bool} {l : List Nat} (h : l.length < 1000000) : (nvs (l.filter f)).length < sizeLine := by
  rw [nvs_len]
  exact size_lt (Nat.lt_of_le_of_lt (List.length_filter_le _ _) h)
theorem ClsAt.get {A : Ad} {H : Hp} {l : Addr} {as : List Addr} {d : Deal} (h : ClsAt A H l as d.clauses) {k : Nat} (hk : k < d.clauses.length) : ∃ a dx, as[k]? = some a ∧ H a = some (ClauseO A dx (Kp195.clause d k)) := by
  obtain ⟨a, e, dx, e2⟩ := h.at_ k _ (KP.at_clause hk)
  exact ⟨a, dx, e, e2⟩
noncomputable def sp_do_act (A : Ad) (K : PySem.W.Frag) : Sp := fun vs H Q _ => ∃ cl le as d left deed, vs = [.ref cl, .ref le, nv deed] ∧ ClsAt A H cl as d.clauses ∧ H le = some (.lst (nvs left)) ∧ left.length = d.clauses.length ∧ d.clauses.length ≤ 8 ∧ le ≠ cl ∧
  ∀ H' lb, Kept [le] H H' → H' le = some (.lst (nvs (Kp195.doAct d left deed).left)) → H lb = none → H' lb = some (.lst (nvs (KP.brokenA d left deed))) → Q (.ref lb) H'
theorem ok_do_act {P : Program} {w : World} {K : PySem.W.Frag} {mg : Str → Option Value} {base : Heap} {A : Ad} (T : Txt K mg A) : FnOk P w K mg base CX0 3 A.f_do_act A.d_do_act ["clauses", "left", "deed"] (sp_do_act A K) := by
  refine T.F_do_act.ok sc_do_act (fun vs H Q E h => ?_) (fun cdv A1 outer s H vs Q E hr h => ?_)
  · obtain ⟨cl, le, as, d, left, deed, rfl, _⟩ := h
    rfl
  · obtain ⟨cl, le, as, d, left, deed, rfl, hcl, hle, hlen, h8, n1, k⟩ := h
    refine ⟨_, (pss_cons (ps_setLc (i := 3) rfl sc_do_act.nd rfl rfl (sw_true rfl rfl rfl rfl) (pi_enum rfl T.no_enumerate (pa_cons (hs := st_name) (pv 0) pa_nil)) (blkOk_by (own := [("number", 6), ("clause", 7)]) (by show blkC ["clauses", "left", "deed", "met", "kept", "broken", "number", "clause"] (defScope s_do_act) _ _ = true; decide +kernel)) (fun _ _ _ _ _ => (pg_tupK (n := 2) K rfl (pg_tup rfl (pgs_cons (pg_name (i := 6) sc_do_act.nd rfl (by first | exact Or.inl rfl | exact Or.inr rfl)) (pgs_cons (pg_name (i := 7) sc_do_act.nd rfl (by first | exact Or.inl rfl | exact Or.inr rfl)) pgs_nil))))) (fun _ _ _ _ _ => pts_one (PW.pt (pw_and (pt_cmpR op_gt (pe_ix (ix_listK K rfl) (pv 1) (pv 6) (fun _ _ => rfl)) pe_int (nomark _)) (pw_and1 (pt_cmpR op_eq (pe_fldK K rfl (pv 7) rfl) (pv 2) (nomark _)))))) (fun _ _ _ _ _ => (pv 6)))
      (pss_cons (ps_setLc (i := 4) rfl sc_do_act.nd rfl rfl (sw_true rfl rfl rfl rfl) (pi_list (pv 3)) (blkOk_by (own := [("number", 6)]) (by show blkC ["clauses", "left", "deed", "met", "kept", "broken", "number", "clause"] (defScope s_do_act) _ _ = true; decide +kernel)) (fun _ _ _ _ _ => (pg_name (i := 6) sc_do_act.nd rfl (by first | exact Or.inl rfl | exact Or.inr rfl))) (fun _ _ _ _ _ => pts_one (pt_cmpR op_eq (pe_fldK K rfl (pe_ix (ix_listK K rfl) (pv 0) (pv 6) (fun _ _ => rfl)) rfl) (pe_con_MUST T (by rfl)) (nomark _))) (fun _ _ _ _ _ => (pv 6)))
      (pss_cons (ps_setLc (i := 5) rfl sc_do_act.nd rfl rfl (sw_true rfl rfl rfl rfl) (pi_list (pv 3)) (blkOk_by (own := [("number", 6)]) (by show blkC ["clauses", "left", "deed", "met", "kept", "broken", "number", "clause"] (defScope s_do_act) _ _ = true; decide +kernel)) (fun _ _ _ _ _ => (pg_name (i := 6) sc_do_act.nd rfl (by first | exact Or.inl rfl | exact Or.inr rfl))) (fun _ _ _ _ _ => pts_one (pt_cmpR op_ne (pe_fldK K rfl (pe_ix (ix_listK K rfl) (pv 0) (pv 6) (fun _ _ => rfl)) rfl) (pe_con_MUST T (by rfl)) (nomark _))) (fun _ _ _ _ _ => (pv 6)))
      (pss_cons (ps_for PassesOwn.never rfl (pi_list (pv 3)) (pg_name (i := 6) sc_do_act.nd rfl (by first | exact Or.inl rfl | exact Or.inr rfl))
        (pss_one (ps_asg pe_int (pg_sub (pv 1) (pv 6) set_list))))
      (pss_cons (ps_expr (pe_call (he := st_name) (ok_call_up T) (hr.mono (by decide)) rfl T.mg_call_up T.F_call_up.kp (b_call_up T) .nil pass0 (pa_cons (hs := st_name) (pv 0) (pa_cons (hs := st_name) (pv 1) (pa_cons (hs := st_name) (pv 2) (pa_cons (hs := st_name) (pv 4) (pa_cons (hs := st_name) (pv 5) pa_nil)))))))
      (pss_one (ps_ret (pv 5)))))))), ?_⟩
    try dsimp only [cx_K]
    -- met
    refine ⟨_, rfl, cl, _, rfl, SqL.of hcl.lst, fun m hm => lc_enum (K := K) (a := cl) (xs := as.map V.ref)
      (fun i H' => Same H H' ∧ H' m = some (.lst (nvs ((List.range i).filter fun k => decide (0 < left.getD k 0) && (Kp195.clause d k).act == deed))))
      ⟨(Same.refl H).at hm, upd_same⟩ (fun i H' _ ⟨s1, _⟩ => SqL.of (s1 _ _ hcl.lst)) ?_ ?_⟩
    · rintro i y H1 t hi ⟨s1, h1⟩ ht
      obtain ⟨a, hai, rfl⟩ := refs_get hi
      have hil : i < d.clauses.length := by rw [← hcl.len]; exact (List.getElem?_eq_some_iff.mp hai).1
      obtain ⟨a', dx, ha', hca⟩ := hcl.get hil
      obtain rfl : a = a' := Option.some.inj (hai.symm.trans ha')
      have st : Same H (upd H1 t (.tup [nv i, .ref a])) := s1.new ht
      have hm2 := (upd_ne (o := .tup [nv i, .ref a]) (ne_of_none h1 ht)).trans h1
      refine ⟨t, _, rfl, SqT.of upd_same, rfl, _, _, rfl, _, _, rfl, rfl, rfl, ?_⟩
      first | refine if_cutR (fun _ z => ⟨_, rfl, _, rfl, le, _, _, _, rfl, rfl, SqL.of (st _ _ hle), atI_nat (nvs_at (KP.at_getD (by omega))), _, _, rfl, rfl, _, rfl, z⟩) (if_dec (fun e0 => ?_) fun e0 => ?_) | refine if_cut (fun _ z => ⟨_, rfl, _, rfl, le, _, _, _, rfl, rfl, SqL.of (st _ _ hle), atI_nat (nvs_at (KP.at_getD (by omega))), _, _, rfl, rfl, _, rfl, z⟩) (if_dec (fun e0 => ?_) fun e0 => ?_) | (refine ⟨_, rfl, _, rfl, le, _, _, _, rfl, rfl, SqL.of (st _ _ hle), atI_nat (nvs_at (KP.at_getD (by omega))), _, _, rfl, rfl, _, rfl, ?_⟩; refine if_dec (fun e0 => ?_) fun e0 => ?_)
      · refine ⟨_, rfl, a, _, dx, _, _, rfl, st _ _ hca, T.cl_Clause, T.n_Clause_deed, Clause_get_deed, _, rfl, rfl, _, rfl, ?_⟩
        rw [dec_nv]
        refine if_bl (fun hb => ?_) fun hb => ?_
        · refine ⟨_, rfl, _, hm2, filter_small (by rw [List.length_range]; omega), st.at hm, ?_⟩
          rw [upd_same, range_snoc _ i (by rw [hb, decide_eq_true (by omega)]; rfl)]
        · refine ⟨st, ?_⟩
          rw [range_skip _ i (by rw [hb]; simp)]
          exact hm2
      · refine if_bl (fun hb => by cases hb) fun _ => ⟨st, ?_⟩
        rw [range_skip _ i (by rw [decide_eq_false (by omega)]; rfl)]
        exact hm2
    · rintro H1 ⟨s1, h1⟩
      rw [List.length_map, hcl.len] at h1
      have h1 : H1 m = some (.lst (nvs (KP.metL d left deed))) := h1
      have hmem : ∀ {i k : Nat}, (KP.metL d left deed)[i]? = some k → k < d.clauses.length := fun e => (KP.metL_mem (List.mem_of_getElem? e)).1
      have hml : (KP.metL d left deed).length ≤ 8 := by
        unfold KP.metL Kp195.numbers
        exact Nat.le_trans (List.length_filter_le _ _) (by rw [List.length_range]; exact h8)
      have nlm : le ≠ m := ne_of_none hle hm
      -- kept
      refine ⟨_, rfl, m, rfl, ⟨_, SqL.of h1⟩, fun ka hka => lc_list (K := K) (a := m) (xs := nvs (KP.metL d left deed))
        (fun i H' => Same H1 H' ∧ H' ka = some (.lst (nvs (((KP.metL d left deed).take i).filter fun k => (Kp195.clause d k).must))))
        ⟨(Same.refl H1).at hka, upd_same⟩ (fun i H' _ ⟨s2, _⟩ => SqL.of (s2 _ _ h1)) ?_ ?_⟩
      · rintro i y H2 hi ⟨s2, h2⟩
        obtain ⟨n, hn, rfl⟩ := nvs_get hi
        obtain ⟨a, dx, ha, hca⟩ := hcl.get (hmem hn)
        refine ⟨rfl, ?_⟩
        refine ⟨_, rfl, _, rfl, cl, _, _, _, rfl, rfl, SqL.of (s2 _ _ (s1 _ _ hcl.lst)), atI_nat (refs_at' ha), a, _, dx, _, _, rfl, s2 _ _ (s1 _ _ hca), T.cl_Clause, T.n_Clause_must, Clause_get_must, rfl, _, rfl, ?_⟩
        rw [mV_eq]
        refine if_bl (fun hb => ?_) fun hb => ?_
        · refine ⟨_, rfl, _, h2, filter_small (by rw [List.length_take]; omega), s2.at hka, ?_⟩
          rw [upd_same, take_snoc' _ hn hb]
        · refine ⟨s2, ?_⟩
          rw [take_skip' _ hn hb]
          exact h2
      · rintro H2 ⟨s2, h2⟩
        rw [nvs_len, List.take_length] at h2
        have h2 : H2 ka = some (.lst (nvs (KP.keptA d left deed))) := h2
        -- broken
        refine ⟨_, rfl, m, rfl, ⟨_, SqL.of (s2 _ _ h1)⟩, fun ba hba => lc_list (K := K) (a := m) (xs := nvs (KP.metL d left deed))
          (fun i H' => Same H2 H' ∧ H' ba = some (.lst (nvs (((KP.metL d left deed).take i).filter fun k => !(Kp195.clause d k).must))))
          ⟨(Same.refl H2).at hba, upd_same⟩ (fun i H' _ ⟨s3, _⟩ => SqL.of (s3 _ _ (s2 _ _ h1))) ?_ ?_⟩
        · rintro i y H3 hi ⟨s3, h3⟩
          obtain ⟨n, hn, rfl⟩ := nvs_get hi
          obtain ⟨a, dx, ha, hca⟩ := hcl.get (hmem hn)
          refine ⟨rfl, ?_⟩
          refine ⟨_, rfl, _, rfl, cl, _, _, _, rfl, rfl, SqL.of (s3 _ _ (s2 _ _ (s1 _ _ hcl.lst))), atI_nat (refs_at' ha), a, _, dx, _, _, rfl, s3 _ _ (s2 _ _ (s1 _ _ hca)), T.cl_Clause, T.n_Clause_must, Clause_get_must, rfl, _, rfl, ?_⟩
          rw [mV_eq]
          refine if_bl (fun hb => ?_) fun hb => ?_
          · refine ⟨_, rfl, _, h3, filter_small (by rw [List.length_take]; omega), s3.at hba, ?_⟩
            rw [upd_same, take_snoc' _ hn hb]
          · refine ⟨s3, ?_⟩
            rw [take_skip' _ hn hb]
            exact h3
        · rintro H3 ⟨s3, h3⟩
          rw [nvs_len, List.take_length] at h3
          have h3 : H3 ba = some (.lst (nvs (KP.brokenA d left deed))) := h3
          have s03 : Same H H3 := (s1.trans s2).trans s3
          have nla : le ≠ ka := ne_of_none (s1 _ _ hle) hka
          have nlb : le ≠ ba := ne_of_none (s2 _ _ (s1 _ _ hle)) hba
          -- for number in met
          refine ⟨_, rfl, m, rfl, ⟨_, SqL.of (s3 _ _ (s2 _ _ h1))⟩, for_list (K := K) (a := m) (xs := nvs (KP.metL d left deed))
            (fun i σ H' => ∃ v6, σ = [some (.ref cl), some (.ref le), some (nv deed), some (.ref m), some (.ref ka), some (.ref ba), v6, none] ∧ Kept [le] H3 H' ∧ H' le = some (.lst (nvs (Kp195.without d left ((KP.metL d left deed).take i)))))
            ⟨none, rfl, Kept.refl _ _, by rw [List.take_zero, KP.without_nil hlen]; exact s03 _ _ hle⟩ (fun i σ H' _ ⟨_, _, k4, _⟩ => SqL.of (Kept.one k4 (s3 _ _ (s2 _ _ h1)) nlm)) ?_ ?_⟩
          · rintro i y σ H4 hi ⟨v6, rfl, k4, h4⟩
            refine ends_abs0 fun Dz zn _ _ _ => ?_
            obtain ⟨n, hn, rfl⟩ := nvs_get hi
            refine ⟨_, rfl, _, rfl, le, _, _, n, rfl, rfl, h4, ?_, ?_⟩
            · rw [nvs_len, KP.without_len]; exact ix_nat (hmem hn)
            · refine zn _ _ ⟨_, rfl, k4.upd (by simp), ?_⟩
              rw [upd_same]
              show some (HO.lst ((nvs (Kp195.without d left ((KP.metL d left deed).take i))).set n (nv 0))) = _
              rw [nvs_set, KP.without_step hn]
          · rintro σ H4 ⟨v6, rfl, k4, h4⟩
            rw [nvs_len, List.take_length] at h4
            -- call_up
            refine ⟨_, rfl, _, rfl, _, rfl, _, rfl, _, rfl, cl, le, ka, ba, as, d, _, deed, _, _, rfl, (hcl.keep (NG.same s03)).k1 k4 n1 (s03 _ _ hle), h4, KP.without_len _ _ _, Kept.one k4 (s3 _ _ h2) nla, Kept.one k4 h3 nlb, n1, nla, nlb, fun H5 k5 h5 => ?_⟩
            refine ⟨_, rfl, k H5 ba (((Kept.same s03).trans k4).trans k5) ?_ ((s1.trans s2).free hba) (Kept.one k5 (Kept.one k4 h3 nlb) nlb)⟩
            rw [KP.doAct_eq]
            exact h5
end KT

namespace KT
open PySem PySem.Spec PyProof.Rows L2
open Kp195 (Deal)
theorem max0 (x : Nat) : V.int (if (0 : Int) > (x : Int) - 1 then 0 else (x : Int) - 1) = nv (x - 1) := by
  congr 1
  split <;> omega
noncomputable def sp_end_day (A : Ad) (K : PySem.W.Frag) : Sp := fun vs H Q _ => ∃ cl le as d left, vs = [.ref cl, .ref le] ∧ KS.GoodDeal d ∧ ClsAt A H cl as d.clauses ∧ H le = some (.lst (nvs left)) ∧ left.length = d.clauses.length ∧ le ≠ cl ∧
  ∀ H' lb, Kept [le] H H' → H' le = some (.lst (nvs (Kp195.dayOver d left).left)) → H lb = none → H' lb = some (.lst (nvs (KP.brokenD d left))) → Q (.ref lb) H'
theorem ok_end_day {P : Program} {w : World} {K : PySem.W.Frag} {mg : Str → Option Value} {base : Heap} {A : Ad} (T : Txt K mg A) : FnOk P w K mg base CX0 3 A.f_end_day A.d_end_day ["clauses", "left"] (sp_end_day A K) := by
  refine T.F_end_day.ok sc_end_day (fun vs H Q E h => ?_) (fun cdv A1 outer s H vs Q E hr h => ?_)
  · obtain ⟨cl, le, as, d, left, rfl, _⟩ := h
    rfl
  · obtain ⟨cl, le, as, d, left, rfl, gd, hcl, hle, hlen, n1, k⟩ := h
    have h8 := gd.cl
    have hal : (as.map V.ref).length = d.clauses.length := by rw [List.length_map, hcl.len]
    refine ⟨_, (pss_cons (ps_setLc (i := 2) rfl sc_end_day.nd rfl rfl (sw_true rfl rfl rfl rfl) (pi_range1 rfl T.no_range (pa_cons (hs := st_call) (pe_callB (he := st_name) call_len_seq (by rfl) T.no_len PySem.boot_len (pa_cons (hs := st_name) (pv 0) pa_nil)) pa_nil)) (blkOk_by (own := [("number", 5)]) (by show blkC ["clauses", "left", "ended", "kept", "broken", "number"] (defScope s_end_day) _ _ = true; decide +kernel)) (fun _ _ _ _ _ => (pg_name (i := 5) sc_end_day.nd rfl (by first | exact Or.inl rfl | exact Or.inr rfl))) (fun _ _ _ _ _ => pts_one (pt_cmpR op_eq (pe_ix (ix_listK K rfl) (pv 1) (pv 5) (fun _ _ => rfl)) pe_int (nomark _))) (fun _ _ _ _ _ => (pv 5)))
      (pss_cons (ps_setLc (i := 3) rfl sc_end_day.nd rfl rfl (sw_true rfl rfl rfl rfl) (pi_list (pv 2)) (blkOk_by (own := [("number", 5)]) (by show blkC ["clauses", "left", "ended", "kept", "broken", "number"] (defScope s_end_day) _ _ = true; decide +kernel)) (fun _ _ _ _ _ => (pg_name (i := 5) sc_end_day.nd rfl (by first | exact Or.inl rfl | exact Or.inr rfl))) (fun _ _ _ _ _ => pts_one (pt_cmpR op_ne (pe_fldK K rfl (pe_ix (ix_listK K rfl) (pv 0) (pv 5) (fun _ _ => rfl)) rfl) (pe_con_MUST T (by rfl)) (nomark _))) (fun _ _ _ _ _ => (pv 5)))
      (pss_cons (ps_setLc (i := 4) rfl sc_end_day.nd rfl rfl (sw_true rfl rfl rfl rfl) (pi_list (pv 2)) (blkOk_by (own := [("number", 5)]) (by show blkC ["clauses", "left", "ended", "kept", "broken", "number"] (defScope s_end_day) _ _ = true; decide +kernel)) (fun _ _ _ _ _ => (pg_name (i := 5) sc_end_day.nd rfl (by first | exact Or.inl rfl | exact Or.inr rfl))) (fun _ _ _ _ _ => pts_one (pt_cmpR op_eq (pe_fldK K rfl (pe_ix (ix_listK K rfl) (pv 0) (pv 5) (fun _ _ => rfl)) rfl) (pe_con_MUST T (by rfl)) (nomark _))) (fun _ _ _ _ _ => (pv 5)))
      (pss_cons (ps_for PassesOwn.never rfl (pi_range1 rfl T.no_range (pa_cons (hs := st_call) (pe_callB (he := st_name) call_len_seq (by rfl) T.no_len PySem.boot_len (pa_cons (hs := st_name) (pv 0) pa_nil)) pa_nil)) (pg_name (i := 5) sc_end_day.nd rfl (by first | exact Or.inl rfl | exact Or.inr rfl))
        (pss_one (ps_asg (pe_callB (he := st_bin) (call_max2 rfl) (by rfl) T.no_max boot_max_ (pa_cons (hs := st_bin) (pe_op op_sub (pe_ix ix_list (pv 1) (pv 5) (fun _ _ => rfl)) pe_int) (pa_cons (hs := st_const) pe_int pa_nil))) (pg_sub (pv 1) (pv 5) set_list))))
      (pss_cons (ps_expr (pe_call (he := st_name) (ok_call_up T) (hr.mono (by decide)) rfl T.mg_call_up T.F_call_up.kp (b_call_up T) .nil pass0 (pa_cons (hs := st_name) (pv 0) (pa_cons (hs := st_name) (pv 1) (pa_cons (hs := st_name) (pe_con_NO_ACT T (by rfl)) (pa_cons (hs := st_name) (pv 3) (pa_cons (hs := st_name) (pv 4) pa_nil)))))))
      (pss_one (ps_ret (pv 4)))))))), ?_⟩
    try dsimp only [cx_K]
    -- ended
    refine ⟨_, rfl, cl, _, rfl, .inl (SqL.of hcl.lst), _, rfl, by rw [hal]; omega, by rw [hal]; omega, fun m hm => lc_range (lo := 0) (n := (as.map V.ref).length)
      (fun i H' => Same H H' ∧ H' m = some (.lst (nvs ((List.range i).filter fun k => left.getD k 0 == 1))))
      ⟨(Same.refl H).at hm, upd_same⟩ ?_ ?_⟩
    · rintro i H1 hi ⟨s1, h1⟩
      rw [hal] at hi
      rw [Int.zero_add]
      refine ⟨rfl, ?_⟩
      first | refine if_cutR (fun _ z => ⟨_, rfl, _, rfl, le, _, _, _, rfl, rfl, SqL.of (s1 _ _ hle), atI_nat (nvs_at (KP.at_getD (by omega))), rfl, _, rfl, z⟩) (if_eq (fun e0 => ?_) fun e0 => ?_) | refine if_cut (fun _ z => ⟨_, rfl, _, rfl, le, _, _, _, rfl, rfl, SqL.of (s1 _ _ hle), atI_nat (nvs_at (KP.at_getD (by omega))), rfl, _, rfl, z⟩) (if_eq (fun e0 => ?_) fun e0 => ?_) | (refine ⟨_, rfl, _, rfl, le, _, _, _, rfl, rfl, SqL.of (s1 _ _ hle), atI_nat (nvs_at (KP.at_getD (by omega))), rfl, _, rfl, ?_⟩; refine if_eq (fun e0 => ?_) fun e0 => ?_)
      · refine ⟨_, rfl, _, h1, filter_small (by rw [List.length_range]; omega), s1.at hm, ?_⟩
        rw [upd_same, range_snoc _ i (by rw [beq_iff_eq]; omega)]
      · refine ⟨s1, ?_⟩
        rw [range_skip _ i (by rw [beq_eq_false_iff_ne]; omega)]
        exact h1
    · rintro H1 ⟨s1, h1⟩
      rw [hal] at h1
      have h1 : H1 m = some (.lst (nvs (KP.endedL d left))) := h1
      have hmem : ∀ {i k : Nat}, (KP.endedL d left)[i]? = some k → k < d.clauses.length := fun e => by
        have := (List.mem_filter.mp (List.mem_of_getElem? e)).1
        unfold Kp195.numbers at this
        exact List.mem_range.mp this
      have hml : (KP.endedL d left).length ≤ 8 := by
        unfold KP.endedL Kp195.numbers
        exact Nat.le_trans (List.length_filter_le _ _) (by rw [List.length_range]; exact h8)
      -- kept
      refine ⟨_, rfl, m, rfl, ⟨_, SqL.of h1⟩, fun ka hka => lc_list (K := K) (a := m) (xs := nvs (KP.endedL d left))
        (fun i H' => Same H1 H' ∧ H' ka = some (.lst (nvs (((KP.endedL d left).take i).filter fun k => !(Kp195.clause d k).must))))
        ⟨(Same.refl H1).at hka, upd_same⟩ (fun i H' _ ⟨s2, _⟩ => SqL.of (s2 _ _ h1)) ?_ ?_⟩
      · rintro i y H2 hi ⟨s2, h2⟩
        obtain ⟨n, hn, rfl⟩ := nvs_get hi
        obtain ⟨a, dx, ha, hca⟩ := hcl.get (hmem hn)
        refine ⟨rfl, ?_⟩
        refine ⟨_, rfl, _, rfl, cl, _, _, _, rfl, rfl, SqL.of (s2 _ _ (s1 _ _ hcl.lst)), atI_nat (refs_at' ha), a, _, dx, _, _, rfl, s2 _ _ (s1 _ _ hca), T.cl_Clause, T.n_Clause_must, Clause_get_must, rfl, _, rfl, ?_⟩
        rw [mV_eq]
        refine if_bl (fun hb => ?_) fun hb => ?_
        · refine ⟨_, rfl, _, h2, filter_small (by rw [List.length_take]; omega), s2.at hka, ?_⟩
          rw [upd_same, take_snoc' _ hn hb]
        · refine ⟨s2, ?_⟩
          rw [take_skip' _ hn hb]
          exact h2
      · rintro H2 ⟨s2, h2⟩
        rw [nvs_len, List.take_length] at h2
        have h2 : H2 ka = some (.lst (nvs (KP.keptD d left))) := h2
        -- broken
        refine ⟨_, rfl, m, rfl, ⟨_, SqL.of (s2 _ _ h1)⟩, fun ba hba => lc_list (K := K) (a := m) (xs := nvs (KP.endedL d left))
          (fun i H' => Same H2 H' ∧ H' ba = some (.lst (nvs (((KP.endedL d left).take i).filter fun k => (Kp195.clause d k).must))))
          ⟨(Same.refl H2).at hba, upd_same⟩ (fun i H' _ ⟨s3, _⟩ => SqL.of (s3 _ _ (s2 _ _ h1))) ?_ ?_⟩
        · rintro i y H3 hi ⟨s3, h3⟩
          obtain ⟨n, hn, rfl⟩ := nvs_get hi
          obtain ⟨a, dx, ha, hca⟩ := hcl.get (hmem hn)
          refine ⟨rfl, ?_⟩
          refine ⟨_, rfl, _, rfl, cl, _, _, _, rfl, rfl, SqL.of (s3 _ _ (s2 _ _ (s1 _ _ hcl.lst))), atI_nat (refs_at' ha), a, _, dx, _, _, rfl, s3 _ _ (s2 _ _ (s1 _ _ hca)), T.cl_Clause, T.n_Clause_must, Clause_get_must, rfl, _, rfl, ?_⟩
          rw [mV_eq]
          refine if_bl (fun hb => ?_) fun hb => ?_
          · refine ⟨_, rfl, _, h3, filter_small (by rw [List.length_take]; omega), s3.at hba, ?_⟩
            rw [upd_same, take_snoc' _ hn hb]
          · refine ⟨s3, ?_⟩
            rw [take_skip' _ hn hb]
            exact h3
        · rintro H3 ⟨s3, h3⟩
          rw [nvs_len, List.take_length] at h3
          have h3 : H3 ba = some (.lst (nvs (KP.brokenD d left))) := h3
          have s03 : Same H H3 := (s1.trans s2).trans s3
          have nla : le ≠ ka := ne_of_none (s1 _ _ hle) hka
          have nlb : le ≠ ba := ne_of_none (s2 _ _ (s1 _ _ hle)) hba
          have hM : (left.map fun x => x - 1).length = left.length := List.length_map _
          -- for number in range(len(clauses))
          refine ⟨_, rfl, cl, _, rfl, .inl (SqL.of (s03 _ _ hcl.lst)), _, rfl, by rw [hal]; omega, by rw [hal]; omega, for_range (lo := 0) (n := (as.map V.ref).length)
            (fun i σ H' => ∃ v5, σ = [some (.ref cl), some (.ref le), some (.ref m), some (.ref ka), some (.ref ba), v5] ∧ Kept [le] H3 H' ∧ H' le = some (.lst (nvs (KP.mixL (left.map fun x => x - 1) left i))))
            ⟨none, rfl, Kept.refl _ _, by rw [KP.mix_zero]; exact s03 _ _ hle⟩ ?_ ?_⟩
          · rintro i σ H4 hi ⟨v5, rfl, k4, h4⟩
            refine ends_abs0 fun Dz zn _ _ _ => ?_
            rw [hal] at hi
            rw [Int.zero_add]
            have hv : (KP.mixL (left.map fun x => x - 1) left i)[i]? = some (left.getD i 0) := by rw [KP.mix_at hM (by omega), KP.at_getD (by omega)]
            refine ⟨_, rfl, _, rfl, le, _, _, _, rfl, rfl, SqL.of h4, atI_nat (nvs_at hv), _, _, rfl, rfl, _, _, rfl, ?_⟩
            refine ⟨_, rfl, _, rfl, le, _, _, i, rfl, rfl, h4, ?_, ?_⟩
            · rw [nvs_len, KP.mix_len hM]; exact ix_nat (by omega)
            · refine zn _ _ ⟨_, rfl, k4.upd (by simp), ?_⟩
              rw [upd_same, max0, nvs_set, KP.mix_set hM]
              rw [List.getElem?_map, KP.at_getD (by omega)]
              all_goals rfl
          · rintro σ H4 ⟨v5, rfl, k4, h4⟩
            rw [hal, show d.clauses.length = (left.map fun x => x - 1).length by rw [hM, hlen], KP.mix_full hM] at h4
            -- call_up
            refine ⟨_, rfl, _, rfl, _, rfl, _, rfl, cl, le, ka, ba, as, d, _, 255, _, _, rfl, (hcl.keep (NG.same s03)).k1 k4 n1 (s03 _ _ hle), h4, hM.trans hlen, Kept.one k4 (s3 _ _ h2) nla, Kept.one k4 h3 nlb, n1, nla, nlb, fun H5 k5 h5 => ?_⟩
            refine ⟨_, rfl, k H5 ba (((Kept.same s03).trans k4).trans k5) ?_ ((s1.trans s2).free hba) (Kept.one k5 (Kept.one k4 h3 nlb) nlb)⟩
            rw [KP.dayOver_eq gd]
            exact h5
theorem Course_no' {m : Str} {v0 v1 v2 v3 : V} (h : m = "first_place" ∨ m = "moves" ∨ m = "outcome" ∨ m = "outcomes" ∨ m = "different_outcomes") : List.lookup m (CourseF v0 v1 v2 v3) = none := by
  rcases h with h | h | h | h | h <;> subst h <;> exact Course_no (by decide +kernel) (by decide +kernel) (by decide +kernel) (by decide +kernel)
noncomputable def sp_Course_first_place (A : Ad) (K : PySem.W.Frag) : Sp := fun vs H Q _ => ∃ c d n, vs = [.ref c.co] ∧ CourseAt A H c d n ∧ d.clauses.length ≤ 8 ∧ ∀ H' pl, Same H H' → PlAt H' pl (Kp195.first d) → Q (.ref pl) H'
theorem first_at {d : Deal} {i : Nat} (h : i < d.clauses.length) : (Kp195.first d).left[i]? = some (if (Kp195.clause d i).when_ = 0 then (Kp195.clause d i).days else 0) := by
  show ((Kp195.numbers d).map _)[i]? = _
  unfold Kp195.numbers
  rw [List.getElem?_map, List.getElem?_range h]
  rfl
theorem first_len (d : Deal) : (Kp195.first d).left.length = d.clauses.length := by
  show ((Kp195.numbers d).map _).length = _
  unfold Kp195.numbers
  rw [List.length_map, List.length_range]
theorem take_snoc1 {l : List Nat} {i x : Nat} (e : l[i]? = some x) : nvs (l.take (i + 1)) = nvs (l.take i) ++ [nv x] := by
  rw [List.take_add_one, e, nvs_append]
  all_goals rfl
theorem ptup_nvs (p : Pl) : nvs (KP.ptup p) = nv p.turn :: nvs p.left := rfl
theorem ok_Course_first_place {P : Program} {w : World} {K : PySem.W.Frag} {mg : Str → Option Value} {base : Heap} {A : Ad} (T : Txt K mg A) : FnOk P w K mg base CX0 1 A.f_Course_first_place A.d_Course_first_place ["self"] (sp_Course_first_place A K) := by
  refine T.F_Course_first_place.ok sc_Course_first_place (fun vs H Q E h => ?_) (fun cdv A1 outer s H vs Q E hr h => ?_)
  · obtain ⟨c, d, n, rfl, _⟩ := h
    rfl
  · obtain ⟨c, d, n, rfl, hco, h8, k⟩ := h
    obtain ⟨dx, ho⟩ := hco.obj
    obtain ⟨as, hcl⟩ := hco.deal.cls
    refine ⟨_, (pss_one (ps_ret (pe_op op_catT (pe_tup (pa_cons (hs := st_const) pe_int pa_nil)) (pe_callTy (he := st_lc) call_tuple_of (by rfl) T.no_tuple boot_tuple_ (pa_cons (hs := st_lc) (pe_lc rfl sc_Course_first_place.nd (pi_list (pe_fld (pv 0) rfl)) (blkOk_by (own := [("clause", 1)]) (by show blkC ["self", "clause"] (defScope s_Course_first_place) _ _ = true; decide +kernel)) (fun _ _ _ _ _ => (pg_name (i := 1) sc_Course_first_place.nd rfl (by first | exact Or.inl rfl | exact Or.inr rfl))) (fun _ _ _ _ _ => pts_nil) (fun _ _ _ _ _ => (pe_ifExp (pt_cmpR op_eq (pe_fldK K rfl (pv 1) rfl) (pe_con_AT_THE_BEGINNING T (by rfl)) (nomark _)) (pe_fldK K rfl (pv 1) rfl) pe_int))) pa_nil))))), ?_⟩
    try dsimp only [cx_K]
    refine ⟨(by show 1 ≤ sizeLine; decide), fun t0 ht0 => ?_⟩
    have s0 : Same H (upd H t0 (.tup [nv 0])) := (Same.refl H).new ht0
    refine ⟨_, rfl, c.co, _, dx, _, _, rfl, s0 _ _ ho, T.cl_Course, T.n_Course_clauses, Course_get_clauses, c.cl, rfl, ⟨_, SqL.of (s0 _ _ hcl.lst)⟩, fun D hD => lc_list (K := K) (a := c.cl) (xs := as.map V.ref)
      (fun i H' => Same (upd H t0 (.tup [nv 0])) H' ∧ H' D = some (.lst (nvs ((Kp195.first d).left.take i))))
      ⟨(Same.refl _).at hD, upd_same⟩ (fun i H' _ ⟨s1, _⟩ => SqL.of (s1 _ _ (s0 _ _ hcl.lst))) ?_ ?_⟩
    · rintro i y H1 hi ⟨s1, h1⟩
      obtain ⟨a, hai, rfl⟩ := refs_get hi
      have hil : i < d.clauses.length := by rw [← hcl.len]; exact (List.getElem?_eq_some_iff.mp hai).1
      obtain ⟨a', dx', ha', hca⟩ := hcl.get hil
      obtain rfl : a = a' := Option.some.inj (hai.symm.trans ha')
      have hca := s1 _ _ (s0 _ _ hca)
      have hl : (nvs ((Kp195.first d).left.take i)).length < sizeLine := by
        rw [nvs_len, List.length_take]
        exact size_lt (by omega)
      have hf := first_at hil
      refine ⟨rfl, ?_⟩
      unfold tYes
      refine iteT ?_
      first | refine if_cutR (fun _ z => ⟨_, rfl, a, _, dx', _, _, rfl, hca, T.cl_Clause, T.n_Clause_when, Clause_get_when, rfl, _, rfl, z⟩) (if_eq (fun e => ?_) fun e => ?_) | refine if_cut (fun _ z => ⟨_, rfl, a, _, dx', _, _, rfl, hca, T.cl_Clause, T.n_Clause_when, Clause_get_when, rfl, _, rfl, z⟩) (if_eq (fun e => ?_) fun e => ?_) | refine ⟨_, rfl, a, _, dx', _, _, rfl, hca, T.cl_Clause, T.n_Clause_when, Clause_get_when, rfl, _, rfl, if_eq (fun e => ?_) fun e => ?_⟩
      · refine ⟨_, rfl, a, _, dx', _, _, rfl, hca, T.cl_Clause, T.n_Clause_days, Clause_get_days, _, h1, hl, s1.at hD, ?_⟩
        rw [if_pos (by omega)] at hf
        rw [upd_same, take_snoc1 hf]
      · refine ⟨_, h1, hl, s1.at hD, ?_⟩
        rw [if_neg (by omega)] at hf
        rw [upd_same, take_snoc1 hf]
        all_goals rfl
    · rintro H1 ⟨s1, h1⟩
      rw [List.length_map, hcl.len, ← first_len, List.take_length] at h1
      refine ⟨D, _, rfl, .inl ⟨SqL.of h1, fun t1 ht1 => ?_⟩⟩
      have ht0' : H1 t0 = some (.tup [nv 0]) := s1 _ _ upd_same
      have s2 : Same H H1 := s0.trans s1
      refine ⟨t0, t1, _, _, rfl, rfl, SqT.of ((upd_ne (ne_of_none ht0' ht1)).trans ht0'), SqT.of upd_same, (by simp), ?_, fun e => ?_, fun e t2 ht2 => ?_⟩
      · rw [nvs_len, first_len]
        exact Nat.le_of_lt (size_lt (by show 1 + d.clauses.length < 1000000; omega))
      · refine k _ t0 (s2.new ht1) ?_
        have e : (Kp195.first d).left = [] := by
          have := congrArg List.length e
          rw [nvs_len] at this
          exact List.eq_nil_of_length_eq_zero this
        show (upd H1 t1 _) t0 = some (.tup (nvs (KP.ptup (Kp195.first d))))
        rw [upd_ne (ne_of_none ht0' ht1), ht0', ptup_nvs, e]
        all_goals rfl
      · exact k _ t2 ((s2.new ht1).new ht2) (upd_same.trans rfl)
noncomputable def movesT (d : Deal) (t : Nat) : List Nat := 255 :: (List.range 16).filter fun a => d.owners.getD a 99 == t
theorem moves_eq (d : Deal) (p : Pl) : Kp195.moves d p = movesT d p.turn := rfl
noncomputable def sp_Course_moves (A : Ad) (K : PySem.W.Frag) : Sp := fun vs H Q _ => ∃ c d n t, vs = [.ref c.co, nv t] ∧ CourseAt A H c d n ∧ KS.GoodDeal d ∧ ∀ H' l, Same H H' → H l = none → H' l = some (.lst (nvs (movesT d t))) → Q (.ref l) H'
theorem ok_Course_moves {P : Program} {w : World} {K : PySem.W.Frag} {mg : Str → Option Value} {base : Heap} {A : Ad} (T : Txt K mg A) : FnOk P w K mg base CX0 1 A.f_Course_moves A.d_Course_moves ["self", "p"] (sp_Course_moves A K) := by
  refine T.F_Course_moves.ok sc_Course_moves (fun vs H Q E h => ?_) (fun cdv A1 outer s H vs Q E hr h => ?_)
  · obtain ⟨c, d, n, t, rfl, _⟩ := h
    rfl
  · obtain ⟨c, d, n, t, rfl, hco, gd, k⟩ := h
    obtain ⟨dx, ho⟩ := hco.obj
    refine ⟨_, (pss_one (ps_ret (pe_op op_cat (pe_lst (pa_cons (hs := st_name) (pe_con_NO_ACT T (by rfl)) pa_nil)) (pe_lc rfl sc_Course_moves.nd (pi_range1 rfl T.no_range (pa_cons (hs := st_name) (pe_con_ACT_COUNT T (by rfl)) pa_nil)) (blkOk_by (own := [("a", 2)]) (by show blkC ["self", "p", "a"] (defScope s_Course_moves) _ _ = true; decide +kernel)) (fun _ _ _ _ _ => (pg_name (i := 2) sc_Course_moves.nd rfl (by first | exact Or.inl rfl | exact Or.inr rfl))) (fun _ _ _ _ _ => pts_one (pt_cmpR op_eq (pe_ix (ix_listK K rfl) (pe_fldK K rfl (pv 0) rfl) (pv 2) (fun _ _ => rfl)) (pv 1) (nomark _))) (fun _ _ _ _ _ => (pv 2)))))), ?_⟩
    try dsimp only [cx_K]
    refine ⟨(by show 1 ≤ sizeLine; decide), fun l0 hl0 => ?_⟩
    have s0 : Same H (upd H l0 (.lst [V.int 255])) := (Same.refl H).new hl0
    refine ⟨16, rfl, by decide, by decide, fun D hD => lc_range (lo := 0) (n := 16)
      (fun i H' => Same (upd H l0 (.lst [V.int 255])) H' ∧ H' D = some (.lst (nvs ((List.range i).filter fun a => d.owners.getD a 99 == t))))
      ⟨(Same.refl _).at hD, upd_same⟩ ?_ ?_⟩
    · rintro i H1 hi ⟨s1, h1⟩
      rw [Int.zero_add]
      have s2 : Same H H1 := s0.trans s1
      have hoi : d.owners[i]? = some (d.owners.getD i 99) := by rw [List.getD_eq_getElem?_getD, List.getElem?_eq_getElem (by rw [gd.ol]; exact hi)]; rfl
      refine ⟨rfl, ?_⟩
      refine ⟨_, rfl, c.co, _, dx, _, _, rfl, s2 _ _ ho, T.cl_Course, T.n_Course_owners, Course_get_owners, _, rfl, c.ow, _, _, _, rfl, rfl, SqL.of (s2 _ _ hco.deal.own), atI_nat (nvs_at hoi), _, rfl, rfl, _, rfl, ?_⟩
      rw [dec_nv]
      refine if_bl (fun hb => ?_) fun hb => ?_
      · refine ⟨_, rfl, _, h1, filter_small (by rw [List.length_range]; omega), s1.at hD, ?_⟩
        rw [upd_same, range_snoc _ i hb]
      · refine ⟨s1, ?_⟩
        rw [range_skip _ i hb]
        exact h1
    · rintro H1 ⟨s1, h1⟩
      have s2 : Same H H1 := s0.trans s1
      refine ⟨l0, D, _, _, rfl, rfl, s1 _ _ upd_same, h1, ?_, fun l hl => ?_⟩
      · rw [nvs_len]
        have := List.length_filter_le (fun a => d.owners.getD a 99 == t) (List.range 16)
        rw [List.length_range] at this
        exact Nat.le_of_lt (size_lt (by show 1 + _ < 1000000; omega))
      · exact k _ l (s2.new hl) (s2.free hl) (upd_same.trans rfl)
end KT

namespace KT
open PySem PySem.Spec PyProof.Rows L2
open Kp195 (Deal)
theorem cut1 (x : V) (l : List V) : cutV (x :: l) (some 1) none = l := by
  unfold cutV
  rw [show (1 : Int) = ((1 : Nat) : Int) from rfl, HT.sIx_nat, HT.sIx_none, List.length_cons, show min 1 (l.length + 1) = 1 by omega]
  show l.take (l.length + 1 - 1) = l
  rw [Nat.add_sub_cancel, List.take_length]
theorem cut1_not (x : V) (l : List V) : ¬ (HT.sIx (x :: l).length 0 (some 1) = 0 ∧ HT.sIx (x :: l).length (x :: l).length none = (x :: l).length) := by
  rw [show (1 : Int) = ((1 : Nat) : Int) from rfl, HT.sIx_nat, List.length_cons]
  omega
noncomputable def sp_Course_outcome (A : Ad) (K : PySem.W.Frag) : Sp := fun vs H Q _ => ∃ c pl d n p deed, vs = [.ref c.co, .ref pl, nv deed] ∧ CourseAt A H c d n ∧ KS.GoodDeal d ∧ KS.GoodPlace d p ∧ PlAt H pl p ∧
  ∀ H' o, Same H H' → OutAt A H' o d p deed → H o = none → Q (.ref o) H'
theorem ok_Course_outcome {P : Program} {w : World} {K : PySem.W.Frag} {mg : Str → Option Value} {base : Heap} {A : Ad} (T : Txt K mg A) : FnOk P w K mg base CX0 4 A.f_Course_outcome A.d_Course_outcome ["self", "place", "deed"] (sp_Course_outcome A K) := by
  refine T.F_Course_outcome.ok sc_Course_outcome (fun vs H Q E h => ?_) (fun cdv A1 outer s H vs Q E hr h => ?_)
  · obtain ⟨c, pl, d, n, p, deed, rfl, _⟩ := h
    rfl
  · obtain ⟨c, pl, d, n, p, deed, rfl, hco, gd, gp, hpl, k⟩ := h
    obtain ⟨dx, ho⟩ := hco.obj
    obtain ⟨as, hcl⟩ := hco.deal.cls
    have h8 := gd.cl
    have hpl : H pl = some (.tup (nv p.turn :: nvs p.left)) := hpl
    refine ⟨_, (pss_cons (ps_set (i := 3) sc_Course_outcome.nd rfl (by first | exact Or.inl rfl | exact Or.inr rfl) (pe_callTy (he := st_sub) call_list_of (by rfl) T.no_list boot_list_ (pa_cons (hs := st_sub) (pe_slice sl_tup (pv 1) (po_some pe_int) po_none) pa_nil)))
      (pss_cons (ps_set (i := 4) sc_Course_outcome.nd rfl (by first | exact Or.inl rfl | exact Or.inr rfl) (pe_call (he := st_attr) (ok_do_act T) (hr.mono (by decide)) rfl T.mg_do_act T.F_do_act.kp (b_do_act T) .nil pass0 (pa_cons (hs := st_attr) (pe_fld (pv 0) rfl) (pa_cons (hs := st_name) (pv 3) (pa_cons (hs := st_name) (pv 2) pa_nil)))))
      (pss_cons (ps_set (i := 5) sc_Course_outcome.nd rfl (by first | exact Or.inl rfl | exact Or.inr rfl) (pe_op op_add (pe_ix ix_tup (pv 1) pe_int (fun _ _ => rfl)) pe_int))
      (pss_join (ps_if (pt_cmpR op_eq (pv 5) (pe_fld (pv 0) rfl) (nomark _))
        (pss_cons (ps_set (i := 5) sc_Course_outcome.nd rfl (by first | exact Or.inl rfl | exact Or.inr rfl) pe_int)
        (pss_one (ps_set (i := 4) sc_Course_outcome.nd rfl (by first | exact Or.inl rfl | exact Or.inr rfl) (pe_op op_cat (pv 4) (pe_call (he := st_attr) (ok_end_day T) (hr.mono (by decide)) rfl T.mg_end_day T.F_end_day.kp (b_end_day T) .nil pass0 (pa_cons (hs := st_attr) (pe_fld (pv 0) rfl) (pa_cons (hs := st_name) (pv 3) pa_nil)))))))
        pss_nil)
      (pss_cons (ps_set (i := 6) sc_Course_outcome.nd rfl (by first | exact Or.inl rfl | exact Or.inr rfl) (pe_lc rfl sc_Course_outcome.nd (pi_list (pv 4)) (blkOk_by (own := [("number", 8)]) (by show blkC ["self", "place", "deed", "left", "broken", "turn", "blamed", "broke", "number", "p"] (defScope s_Course_outcome) _ _ = true; decide +kernel)) (fun _ _ _ _ _ => (pg_name (i := 8) sc_Course_outcome.nd rfl (by first | exact Or.inl rfl | exact Or.inr rfl))) (fun _ _ _ _ _ => pts_nil) (fun _ _ _ _ _ => (pe_fldK K rfl (pe_ix (ix_listK K rfl) (pe_fldK K rfl (pv 0) rfl) (pv 8) (fun _ _ => rfl)) rfl))))
      (pss_cons (ps_set (i := 7) sc_Course_outcome.nd rfl (by first | exact Or.inl rfl | exact Or.inr rfl) (pe_callTy (he := st_lc) call_tuple_of (by rfl) T.no_tuple boot_tuple_ (pa_cons (hs := st_lc) (pe_lc rfl sc_Course_outcome.nd (pi_range1 rfl T.no_range (pa_cons (hs := st_attr) (pe_fld (pv 0) rfl) pa_nil)) (blkOk_by (own := [("p", 9)]) (by show blkC ["self", "place", "deed", "left", "broken", "turn", "blamed", "broke", "number", "p"] (defScope s_Course_outcome) _ _ = true; decide +kernel)) (fun _ _ _ _ _ => (pg_name (i := 9) sc_Course_outcome.nd rfl (by first | exact Or.inl rfl | exact Or.inr rfl))) (fun _ _ _ _ _ => pts_one (pt_cmpR (op_in_seqK K rfl) (pv 9) (pv 6) (by with_unfolding_all rfl))) (fun _ _ _ _ _ => (pv 9))) pa_nil)))
      (pss_one (ps_ret (pe_make (he := st_name) T.M_Outcome (ok_Outcome_init T) (hr.mono (by decide)) rfl T.mg_Outcome (b_Outcome_init T) .nil pass0 (pa_cons (hs := st_name) (pv 2) (pa_cons (hs := st_bin) (pe_op op_catT (pe_tup (pa_cons (hs := st_name) (pv 5) pa_nil)) (pe_callTy (he := st_name) call_tuple_of (by rfl) T.no_tuple boot_tuple_ (pa_cons (hs := st_name) (pv 3) pa_nil))) (pa_cons (hs := st_name) (pv 7) pa_nil)))))))))))), ?_⟩
    try dsimp only [cx_K]
    -- left
    refine ⟨_, rfl, 1, rfl, pl, _, rfl, SqT.of hpl, cut1_not _ _, fun t0 ht0 => ?_⟩
    rw [cut1]
    refine ⟨t0, _, rfl, .inr (SqT.of upd_same), fun le hle0 => ?_⟩
    have s0 : Same H (upd H t0 (.tup (nvs p.left))) := (Same.refl H).new ht0
    have hleH : H le = none := s0.free hle0
    have s1 : Same H (upd (upd H t0 (.tup (nvs p.left))) le (.lst (nvs p.left))) := s0.new hle0
    have hcl1 := hcl.keep (NG.same s1)
    have n1 : le ≠ c.cl := fun z => by rw [z, hcl.lst] at hleH; cases hleH
    -- do_act
    refine ⟨_, rfl, c.co, _, dx, _, _, rfl, s1 _ _ ho, T.cl_Course, T.n_Course_clauses, Course_get_clauses, _, rfl, _, rfl, ?_⟩
    refine ⟨c.cl, le, as, d, p.left, deed, rfl, hcl1, upd_same, gp.len, h8, n1, fun H2 ba k2 h2 hba h2b => ?_⟩
    have s2 : Same H H2 := fun b o e => Kept.one k2 (s1 _ _ e) (fun z => by rw [z, e] at hleH; cases hleH)
    have hbaH : H ba = none := s1.free hba
    have nlb : le ≠ ba := ne_of_none (upd_same (H := upd H t0 (.tup (nvs p.left))) (a := le) (o := .lst (nvs p.left))) hba
    -- turn
    refine ⟨_, rfl, pl, _, _, _, rfl, rfl, SqT.of (s2 _ _ hpl), atI_nat (j := 0) rfl, _, _, rfl, rfl, ?_⟩
    -- if turn == self.parties
    refine ⟨fun σ' H' => ∃ (ba' : Addr), σ' = [some (.ref c.co), some (.ref pl), some (nv deed), some (.ref le), some (.ref ba'), some (nv (Kp195.move d p deed).1.turn), none, none, none, none] ∧ Same H H' ∧
      H' le = some (.lst (nvs (Kp195.move d p deed).1.left)) ∧ H' ba' = some (.lst (nvs (KP.brokenM d p deed))), ?_, ?_⟩
    · first | refine if_cutR (fun _ z => ⟨_, rfl, _, rfl, c.co, _, dx, _, _, rfl, s2 _ _ ho, T.cl_Course, T.n_Course_parties, Course_get_parties, rfl, _, rfl, z⟩) (if_eq (fun e => ?_) fun e => ?_) | refine if_cut (fun _ z => ⟨_, rfl, _, rfl, c.co, _, dx, _, _, rfl, s2 _ _ ho, T.cl_Course, T.n_Course_parties, Course_get_parties, rfl, _, rfl, z⟩) (if_eq (fun e => ?_) fun e => ?_) | refine ⟨_, rfl, _, rfl, c.co, _, dx, _, _, rfl, s2 _ _ ho, T.cl_Course, T.n_Course_parties, Course_get_parties, rfl, _, rfl, if_eq (fun e => ?_) fun e => ?_⟩
      · have e : p.turn + 1 = d.parties := by omega
        refine ⟨_, rfl, _, rfl, c.co, _, dx, _, _, rfl, s2 _ _ ho, T.cl_Course, T.n_Course_clauses, Course_get_clauses, _, rfl, ?_⟩
        refine ⟨c.cl, le, as, d, _, rfl, gd, hcl.keep (NG.same s2), h2, KS.doAct_len _ _ _, n1, fun H3 bb k3 h3 hbb h3b => ?_⟩
        have s3 : Same H H3 := fun b o e => Kept.one k3 (s2 _ _ e) (fun z => by rw [z, e] at hleH; cases hleH)
        refine ⟨ba, bb, _, _, rfl, rfl, Kept.one k3 h2b nlb, h3b, ?_, fun bc hbc => ?_⟩
        · rw [← List.length_append, ← nvs_append, nvs_len]
          have hA : (KP.brokenA d p.left deed).length ≤ 8 := by
            refine Nat.le_trans (List.length_filter_le _ _) (Nat.le_trans (List.length_filter_le _ _) ?_)
            unfold Kp195.numbers
            rw [List.length_range]; exact h8
          have hD : (KP.brokenD d (Kp195.doAct d p.left deed).left).length ≤ 8 := by
            refine Nat.le_trans (List.length_filter_le _ _) (Nat.le_trans (List.length_filter_le _ _) ?_)
            unfold Kp195.numbers
            rw [List.length_range]; exact h8
          rw [List.length_append]
          exact Nat.le_of_lt (size_lt (by omega))
        · refine ⟨bc, ?_, s3.new hbc, ?_, ?_⟩
          · rw [KP.move_last gd gp deed e]
            rfl
          · rw [upd_ne (ne_of_none h3 hbc), h3, KP.move_last gd gp deed e]
          · rw [upd_same, ← nvs_append]
            unfold KP.brokenM
            rw [if_pos e]
      · have e : ¬ p.turn + 1 = d.parties := by omega
        refine ⟨ba, ?_, s2, ?_, ?_⟩
        · rw [KP.move_next gd gp deed e]
          rfl
        · rw [h2, KP.move_next gd gp deed e]
        · rw [h2b]
          unfold KP.brokenM
          rw [if_neg e]
    · rintro σ' H4 ⟨ba', rfl, s4, h4, h4b⟩
      have hwl : (Kp195.whoOf d (KP.brokenM d p deed)).length = (KP.brokenM d p deed).length := List.length_map _
      have hbl : (KP.brokenM d p deed).length < 1000 := by
        have hA : (KP.brokenA d p.left deed).length ≤ 8 := by
          refine Nat.le_trans (List.length_filter_le _ _) (Nat.le_trans (List.length_filter_le _ _) ?_)
          unfold Kp195.numbers
          rw [List.length_range]; exact h8
        have hD : (KP.brokenD d (Kp195.doAct d p.left deed).left).length ≤ 8 := by
          refine Nat.le_trans (List.length_filter_le _ _) (Nat.le_trans (List.length_filter_le _ _) ?_)
          unfold Kp195.numbers
          rw [List.length_range]; exact h8
        unfold KP.brokenM
        split
        · rw [List.length_append]; omega
        · omega
      -- blamed
      refine ⟨_, rfl, ba', rfl, ⟨_, SqL.of h4b⟩, fun bl hbl0 => lc_list (K := K) (a := ba') (xs := nvs (KP.brokenM d p deed))
        (fun i H' => Same H4 H' ∧ H' bl = some (.lst (nvs ((Kp195.whoOf d (KP.brokenM d p deed)).take i))))
        ⟨(Same.refl H4).at hbl0, upd_same⟩ (fun i H' _ ⟨s5, _⟩ => SqL.of (s5 _ _ h4b)) ?_ ?_⟩
      · rintro i y H5 hi ⟨s5, h5⟩
        obtain ⟨m, hm, rfl⟩ := nvs_get hi
        obtain ⟨a, dx', ha, hca⟩ := hcl.get (KP.brokenM_mem (List.mem_of_getElem? hm))
        have s45 := s4.trans s5
        refine ⟨rfl, ?_⟩
        unfold tYes
        refine iteT ?_
        refine ⟨_, rfl, c.co, _, dx, _, _, rfl, s45 _ _ ho, T.cl_Course, T.n_Course_clauses, Course_get_clauses, _, rfl, c.cl, _, _, _, rfl, rfl, SqL.of (s45 _ _ hcl.lst), atI_nat (refs_at' ha), a, _, dx', _, _, rfl, s45 _ _ hca, T.cl_Clause, T.n_Clause_who, Clause_get_who, _, h5, ?_, s5.at hbl0, ?_⟩
        · rw [nvs_len, List.length_take]
          exact size_lt (by omega)
        · rw [upd_same, take_snoc1 (x := (Kp195.clause d m).who)]
          unfold Kp195.whoOf
          rw [List.getElem?_map, hm]
          rfl
      · rintro H5 ⟨s5, h5⟩
        rw [nvs_len, ← hwl, List.take_length, ← KP.move_who gd gp deed] at h5
        have s45 := s4.trans s5
        -- broke
        refine ⟨_, rfl, c.co, _, dx, _, _, rfl, s45 _ _ ho, T.cl_Course, T.n_Course_parties, Course_get_parties, _, rfl, by have := gd.p4; omega, by have := gd.p4; omega, fun D hD => lc_range (lo := 0) (n := d.parties)
          (fun i H' => Same H5 H' ∧ H' D = some (.lst (nvs ((List.range i).filter (Kp195.move d p deed).2.contains))))
          ⟨(Same.refl H5).at hD, upd_same⟩ ?_ ?_⟩
        · rintro i H6 hi ⟨s6, h6⟩
          rw [Int.zero_add]
          refine ⟨rfl, ?_⟩
          refine ⟨_, rfl, _, rfl, bl, _, rfl, .inl (SqL.of (s6 _ _ h5)), rfl, nvs_flat _, _, rfl, ?_⟩
          show if inV (nv i) (nvs (Kp195.move d p deed).2) = true then _ else _
          rw [nvs_in]
          refine if_bl (fun hb => ?_) fun hb => ?_
          · refine ⟨_, rfl, _, h6, filter_small (by rw [List.length_range]; have := gd.p4; omega), s6.at hD, ?_⟩
            rw [upd_same, range_snoc _ i hb]
          · refine ⟨s6, ?_⟩
            rw [range_skip _ i hb]
            exact h6
        · rintro H6 ⟨s6, h6⟩
          have h6 : H6 D = some (.lst (nvs (KL.bring d p deed).2)) := h6
          refine ⟨D, _, rfl, .inl ⟨SqL.of h6, fun br hbr => ?_⟩⟩
          have s67 : Same H6 (upd H6 br (.tup (nvs (KL.bring d p deed).2))) := (Same.refl H6).new hbr
          have s7 : Same H (upd H6 br (.tup (nvs (KL.bring d p deed).2))) := (s45.trans s6).new hbr
          have h7le := s67 _ _ (s6 _ _ (s5 _ _ h4))
          -- the end
          have fin : ∀ pa H8, Same (upd H6 br (.tup (nvs (KL.bring d p deed).2))) H8 → PlAt H8 pa (Kp195.move d p deed).1 → ∀ x dx', H8 x = none → H8 dx' = none → dx' ≠ x →
              sp_Outcome_init A K [.ref x, nv deed, .ref pa, .ref br] (upd (upd H8 dx' (.own x)) x (.ins A.c_Outcome dx' [])) (fun v H9 => v = .non ∧ Q (.ref x) H9) E0 := by
            intro pa H8 s8 h8p x dx' hx hdx nx
            refine ⟨x, dx', _, _, _, rfl, upd_same, fun H9 h9 off => ⟨rfl, ?_⟩⟩
            have s89 : Same H8 H9 := fun b o e => by
              have b1 : b ≠ x := ne_of_none e hx
              have b2 : b ≠ dx' := ne_of_none e hdx
              rw [off b b1, upd_ne b1, upd_ne b2]
              exact e
            refine k H9 x ((s7.trans s8).trans s89) ⟨dx', pa, br, h9, s89 _ _ h8p, s89 _ _ (s8 _ _ upd_same)⟩ ((s7.trans s8).free hx)
          refine ⟨_, rfl, _, rfl, (by show 1 ≤ sizeLine; decide), fun t1 ht1 => ?_⟩
          have s8 : Same (upd H6 br (.tup (nvs (KL.bring d p deed).2))) (upd (upd H6 br (.tup (nvs (KL.bring d p deed).2))) t1 (.tup [nv (Kp195.move d p deed).1.turn])) := (Same.refl _).new ht1
          refine ⟨_, rfl, le, _, rfl, .inl ⟨SqL.of (s8 _ _ h7le), fun t2 ht2 => ?_⟩⟩
          have s9 := s8.new (o := .tup (nvs (Kp195.move d p deed).1.left)) ht2
          have ht1' : (upd (upd (upd H6 br (.tup (nvs (KL.bring d p deed).2))) t1 (.tup [nv (Kp195.move d p deed).1.turn])) t2 (.tup (nvs (Kp195.move d p deed).1.left))) t1 = some (.tup [nv (Kp195.move d p deed).1.turn]) := by
            rw [upd_ne (ne_of_none upd_same ht2), upd_same]
          have gm := KS.move_good gd gp deed
          refine ⟨t1, t2, _, _, rfl, rfl, SqT.of ht1', SqT.of upd_same, (by simp), ?_, fun e => ?_, fun e t3 ht3 => ?_⟩
          · rw [nvs_len, gm.len]
            exact Nat.le_of_lt (size_lt (by show 1 + d.clauses.length < 1000000; omega))
          · refine ⟨_, rfl, fin t1 _ s9 ?_⟩
            have e : (Kp195.move d p deed).1.left = [] := by
              have := congrArg List.length e
              rw [nvs_len] at this
              exact List.eq_nil_of_length_eq_zero this
            show _ = some (HO.tup (nvs (KP.ptup _)))
            rw [ht1', ptup_nvs, e]
            all_goals rfl
          · exact ⟨_, rfl, fin t3 _ (s9.new ht3) (upd_same.trans rfl)⟩
noncomputable def bk (d : Deal) (p : Pl) (m : Nat) : GK := .two (zs (KP.ptup (KL.bring d p m).1)) (zs (KL.bring d p m).2)
theorem bk_eq {d : Deal} {p : Pl} {a b : Nat} : bk d p a = bk d p b ↔ KL.bring d p a = KL.bring d p b := by
  constructor
  · intro h
    unfold bk at h
    injection h with h1 h2
    exact Prod.ext (KP.ptup_inj (zs_inj h1)) (zs_inj h2)
  · intro h
    unfold bk
    rw [h]
noncomputable def tab (d : Deal) (p : Pl) : List Nat → List Addr → List (GK × V)
  | m :: ms, a :: as => (bk d p m, .ref a) :: tab d p ms as
  | _, _ => []
theorem tab_len {d : Deal} {p : Pl} : ∀ {ms : List Nat} {as : List Addr}, as.length = ms.length → (tab d p ms as).length = ms.length
  | [], [], _ => rfl
  | _ :: ms, _ :: as, h => by
    show (tab d p ms as).length + 1 = ms.length + 1
    rw [tab_len (by simpa using h)]
  | [], _ :: _, h => by simp at h
  | _ :: _, [], h => by simp at h
theorem tab_vals {d : Deal} {p : Pl} : ∀ {ms : List Nat} {as : List Addr}, as.length = ms.length → (tab d p ms as).map (·.2) = as.map V.ref
  | [], [], _ => rfl
  | _ :: ms, a :: as, h => by
    show V.ref a :: (tab d p ms as).map (·.2) = V.ref a :: as.map V.ref
    rw [tab_vals (by simpa using h)]
  | [], _ :: _, h => by simp at h
  | _ :: _, [], h => by simp at h
theorem tab_snoc {d : Deal} {p : Pl} {m : Nat} {a : Addr} : ∀ {ms : List Nat} {as : List Addr}, as.length = ms.length → tab d p (ms ++ [m]) (as ++ [a]) = tab d p ms as ++ [(bk d p m, .ref a)]
  | [], [], _ => rfl
  | x :: ms, y :: as, h => by
    show (bk d p x, V.ref y) :: tab d p (ms ++ [m]) (as ++ [a]) = (bk d p x, V.ref y) :: (tab d p ms as ++ _)
    rw [tab_snoc (by simpa using h)]
  | [], _ :: _, h => by simp at h
  | _ :: _, [], h => by simp at h
theorem tab_val {d : Deal} {p : Pl} {m : Nat} : ∀ {ms : List Nat} {as : List Addr}, as.length = ms.length → (valV (tab d p ms as) (bk d p m)).isSome = ms.any fun k => decide (KL.bring d p k = KL.bring d p m)
  | [], [], _ => rfl
  | x :: ms, y :: as, h => by
    have ih := tab_val (d := d) (p := p) (m := m) (ms := ms) (as := as) (by simpa using h)
    show (valV ((bk d p x, V.ref y) :: tab d p ms as) (bk d p m)).isSome = (decide (KL.bring d p x = KL.bring d p m) || _)
    by_cases e : KL.bring d p x = KL.bring d p m
    · rw [valV_pos (bk_eq.mpr e), decide_eq_true e]
      rfl
    · rw [valV_neg (fun z => e (bk_eq.mp z)), decide_eq_false e, Bool.false_or]
      exact ih
  | [], _ :: _, h => by simp at h
  | _ :: _, [], h => by simp at h
noncomputable def sp_Course_different_outcomes (A : Ad) (K : PySem.W.Frag) : Sp := fun vs H Q _ => ∃ c pl d n p, vs = [.ref c.co, .ref pl] ∧ CourseAt A H c d n ∧ KS.GoodDeal d ∧ KS.GoodPlace d p ∧ PlAt H pl p ∧
  ∀ H' l as, Same H H' → OutsAt A H' l d p (KL.diffs d p) as → Q (.ref l) H'
theorem ok_Course_different_outcomes {P : Program} {w : World} {K : PySem.W.Frag} {mg : Str → Option Value} {base : Heap} {A : Ad} (T : Txt K mg A) : FnOk P w K mg base CX0 5 A.f_Course_different_outcomes A.d_Course_different_outcomes ["self", "place"] (sp_Course_different_outcomes A K) := by
  refine T.F_Course_different_outcomes.ok sc_Course_different_outcomes (fun vs H Q E h => ?_) (fun cdv A1 outer s H vs Q E hr h => ?_)
  · obtain ⟨c, pl, d, n, p, rfl, _⟩ := h
    rfl
  · obtain ⟨c, pl, d, n, p, rfl, hco, gd, gp, hpl, k⟩ := h
    obtain ⟨dx, ho⟩ := hco.obj
    refine ⟨_, (pss_cons (ps_set (i := 2) sc_Course_different_outcomes.nd rfl (by first | exact Or.inl rfl | exact Or.inr rfl) pe_gnew)
      (pss_cons (ps_for PassesOwn.never rfl (pi_list (pe_meth (hst := st_sub) (pv 0) T.cl_Course T.m_Course_moves (ok_Course_moves T) (hr.mono (by decide)) (b_Course_moves T) .nil pass0 (pa_cons (hs := st_sub) (pe_ix ix_tup (pv 1) pe_int (fun _ _ => rfl)) pa_nil))) (pg_name (i := 3) sc_Course_different_outcomes.nd rfl (by first | exact Or.inl rfl | exact Or.inr rfl))
        (pss_cons (ps_set (i := 4) sc_Course_different_outcomes.nd rfl (by first | exact Or.inl rfl | exact Or.inr rfl) (pe_meth (hst := st_name) (pv 0) T.cl_Course T.m_Course_outcome (ok_Course_outcome T) (hr.mono (by decide)) (b_Course_outcome T) .nil pass0 (pa_cons (hs := st_name) (pv 1) (pa_cons (hs := st_name) (pv 3) pa_nil))))
        (pss_one (ps_expr (pe_bm PySem.F.plainAttrs_dict PySem.F.slot_dict_setdefault PySem.F.type_dict_setdefault (mt_setdefault (hu4 hr)) (pv 2) (pa_cons (hs := st_tup) (pe_tup (pa_cons (hs := st_attr) (pe_fld (pv 4) rfl) (pa_cons (hs := st_attr) (pe_fld (pv 4) rfl) pa_nil))) (pa_cons (hs := st_name) (pv 4) pa_nil)))))))
      (pss_one (ps_ret (pe_callTy (he := st_call) (call_listVals rfl) (by rfl) T.no_list boot_list_ (pa_cons (hs := st_call) (pe_bm0 PySem.F.plainAttrs_dict PySem.F.slot_dict_values PySem.F.type_dict_values mt_values (pv 2)) pa_nil)))))), ?_⟩
    try dsimp only [cx_K]
    intro f hf
    have s0 : Same H (upd H f (.dG [])) := (Same.refl H).new hf
    refine ⟨_, rfl, c.co, dx, _, rfl, s0 _ _ ho, Course_no' (.inr (.inl rfl)), _, rfl, pl, _, _, _, rfl, rfl, SqT.of (s0 _ _ hpl), atI_nat (j := 0) (v := nv p.turn) rfl, ?_⟩
    refine ⟨c, d, n, p.turn, rfl, hco.same s0, gd, fun H1 ml s1 hml h1 => ?_⟩
    have hmv : (movesT d p.turn).length ≤ 17 := by
      unfold movesT
      have := List.length_filter_le (fun a => d.owners.getD a 99 == p.turn) (List.range 16)
      rw [List.length_range] at this
      rw [List.length_cons]; omega
    refine ⟨ml, rfl, ⟨_, SqL.of h1⟩, for_list (K := K) (a := ml) (xs := nvs (movesT d p.turn))
      (fun i σ H' => ∃ v3 v4 as, σ = [some (.ref c.co), some (.ref pl), some (.ref f), v3, v4] ∧ Same H H' ∧ H' ml = some (.lst (nvs (movesT d p.turn))) ∧ as.length = (KL.diffsOf d p ((movesT d p.turn).take i)).length ∧
        H' f = some (.dG (tab d p (KL.diffsOf d p ((movesT d p.turn).take i)) as)) ∧ ∀ (j m : Nat), (KL.diffsOf d p ((movesT d p.turn).take i))[j]? = some m → ∃ a, as[j]? = some a ∧ OutAt A H' a d p m)
      ⟨none, none, [], rfl, s0.trans s1, h1, rfl, s1 _ _ upd_same, fun j m e => by cases j <;> cases e⟩ (fun i σ H' _ ⟨_, _, _, _, _, h2, _⟩ => SqL.of h2) ?_ ?_⟩
    · rintro i y σ H2 hi ⟨v3, v4, as, rfl, s2, h2m, hal, h2f, h2o⟩
      refine ends_abs0 fun Dz zn _ _ _ => ?_
      obtain ⟨m, hm, rfl⟩ := nvs_get hi
      have hst : KL.diffsOf d p ((movesT d p.turn).take (i + 1)) = KL.dstep d p (KL.diffsOf d p ((movesT d p.turn).take i)) m := by
        unfold KL.diffsOf
        rw [List.take_add_one, hm, List.foldl_append]
        rfl
      have hdl : (KL.diffsOf d p ((movesT d p.turn).take i)).length ≤ 17 := by
        have h := KL.fold_len (d := d) (p := p) ((movesT d p.turn).take i) []
        rw [List.length_nil, List.length_take] at h
        unfold KL.diffsOf
        omega
      -- outcome = self.outcome(place, deed)
      refine ⟨_, rfl, c.co, dx, _, rfl, s2 _ _ ho, Course_no' (.inr (.inr (.inl rfl))), _, rfl, _, rfl, ?_⟩
      refine ⟨c, pl, d, n, p, m, rfl, hco.same s2, gd, gp, s2 _ _ hpl, fun H3 o s3 ho3 hon => ?_⟩
      obtain ⟨dx', pa, ba, e1, e2, e3⟩ := id ho3
      have s23 := s2.trans s3
      -- setdefault
      refine ⟨_, rfl, .inr (.inr (.inl ⟨rfl, .inr (.inr ⟨_, s3 _ _ h2f⟩)⟩)), ?_⟩
      refine ⟨_, rfl, o, _, dx', _, _, rfl, e1, T.cl_Outcome, T.n_Outcome_place, Outcome_get_place, _, rfl, o, _, dx', _, _, rfl, e1, T.cl_Outcome, T.n_Outcome_broke, Outcome_get_broke, (by show 2 ≤ sizeLine; decide), fun t ht => ?_⟩
      have s4 : Same H3 (upd H3 t (.tup [.ref pa, .ref ba])) := (Same.refl H3).new ht
      have ho4 : OutAt A (upd H3 t (.tup [.ref pa, .ref ba])) o d p m := ho3.keep (NG.same s4)
      refine ⟨_, rfl, f, _, bk d p m, _, _, rfl, rfl, s4 _ _ (s3 _ _ h2f), GA.two upd_same (s4 _ _ e2) (s4 _ _ e3), ?_, fun r hr => ?_, fun hr => ?_⟩
      · rw [tab_len hal]; exact size_lt (by omega)
      · have hany : ((KL.diffsOf d p ((movesT d p.turn).take i)).any fun k => decide (KL.bring d p k = KL.bring d p m)) = true := by rw [← tab_val hal, hr]; rfl
        have e : KL.diffsOf d p ((movesT d p.turn).take (i + 1)) = KL.diffsOf d p ((movesT d p.turn).take i) := by
          rw [hst]
          unfold KL.dstep
          rw [if_pos hany]
        refine zn _ _ ⟨_, _, as, rfl, s23.trans s4, s4 _ _ (s3 _ _ h2m), ?_, ?_, fun j m' ej => ?_⟩
        · rw [e]; exact hal
        · rw [e]; exact s4 _ _ (s3 _ _ h2f)
        · rw [e] at ej
          obtain ⟨a, ha, hoa⟩ := h2o j m' ej
          exact ⟨a, ha, hoa.keep (NG.same (s3.trans s4))⟩
      · have hany : ¬ ((KL.diffsOf d p ((movesT d p.turn).take i)).any fun k => decide (KL.bring d p k = KL.bring d p m)) = true := by rw [← tab_val hal, hr]; exact Bool.false_ne_true
        have e : KL.diffsOf d p ((movesT d p.turn).take (i + 1)) = KL.diffsOf d p ((movesT d p.turn).take i) ++ [m] := by
          rw [hst]
          unfold KL.dstep
          rw [if_neg hany]
        have ng : NG H2 (upd (upd H3 t (.tup [.ref pa, .ref ba])) f (.dG (tab d p (KL.diffsOf d p ((movesT d p.turn).take i)) as ++ [(bk d p m, .ref o)]))) := fun b ob hb hg => by
          rw [upd_ne (fun z => by rw [z, h2f] at hb; cases hb; cases hg)]
          exact s4 _ _ (s3 _ _ hb)
        have ng4 : NG (upd H3 t (.tup [.ref pa, .ref ba])) (upd (upd H3 t (.tup [.ref pa, .ref ba])) f (.dG (tab d p (KL.diffsOf d p ((movesT d p.turn).take i)) as ++ [(bk d p m, .ref o)]))) := fun b ob hb hg => by
          rw [upd_ne (fun z => by rw [z, s4 _ _ (s3 _ _ h2f)] at hb; cases hb; cases hg)]
          exact hb
        refine zn _ _ ⟨_, _, as ++ [o], rfl, (s23.trans s4).at hf, ng _ _ h2m rfl, ?_, ?_, fun j m' ej => ?_⟩
        · rw [e, List.length_append, List.length_append, hal]
          rfl
        · rw [e, tab_snoc hal]; exact upd_same
        · rw [e] at ej
          by_cases c : j < (KL.diffsOf d p ((movesT d p.turn).take i)).length
          · rw [List.getElem?_append_left c] at ej
            obtain ⟨a, ha, hoa⟩ := h2o j m' ej
            exact ⟨a, by rw [List.getElem?_append_left (by omega)]; exact ha, hoa.keep ng⟩
          · rw [List.getElem?_append_right (by omega)] at ej
            have cj : j - (KL.diffsOf d p ((movesT d p.turn).take i)).length = 0 := by
              rcases Nat.eq_zero_or_pos (j - (KL.diffsOf d p ((movesT d p.turn).take i)).length) with z | z
              · exact z
              · rw [List.getElem?_eq_none (by show 1 ≤ _; omega)] at ej; cases ej
            rw [cj] at ej
            have em : m = m' := Option.some.inj ej
            subst em
            exact ⟨o, by rw [List.getElem?_append_right (by omega), hal, cj]; rfl, ho4.keep ng4⟩
    · rintro σ H2 ⟨v3, v4, as, rfl, s2, h2m, hal, h2f, h2o⟩
      rw [nvs_len, List.take_length] at hal h2f h2o
      have hD : KL.diffsOf d p (movesT d p.turn) = KL.diffs d p := rfl
      rw [hD] at hal h2f h2o
      refine ⟨_, rfl, .inr (.inr (.inl ⟨rfl, .inr (.inr ⟨_, h2f⟩)⟩)), f, _, rfl, rfl, h2f, fun vw hvw => ?_⟩
      refine ⟨vw, f, _, rfl, upd_same, (upd_ne (ne_of_none h2f hvw)).trans h2f, fun l hl => ?_⟩
      have s3 : Same H2 (upd (upd H2 vw (ValO vw f)) l (.lst ((tab d p (KL.diffs d p) as).map (·.2)))) := ((Same.refl H2).new hvw).new hl
      refine k _ l as (s2.trans s3) ⟨?_, hal, fun j m ej => ?_⟩
      · rw [upd_same, tab_vals hal]
      · obtain ⟨a, ha, hoa⟩ := h2o j m ej
        exact ⟨a, ha, hoa.keep (NG.same s3)⟩
noncomputable def sp_Course_outcomes (A : Ad) (K : PySem.W.Frag) : Sp := fun vs H Q _ => ∃ c pl d n p, vs = [.ref c.co, .ref pl] ∧ CourseAt A H c d n ∧ KS.GoodDeal d ∧ KS.GoodPlace d p ∧ PlAt H pl p ∧ n < 900000 ∧
  ∀ H' l as, Kept [c.kn] H H' → CourseAt A H' c d (n + 1) → OutsAt A H' l d p (KL.diffs d p) as → Q (.ref l) H'
theorem ok_Course_outcomes {P : Program} {w : World} {K : PySem.W.Frag} {mg : Str → Option Value} {base : Heap} {A : Ad} (T : Txt K mg A) : FnOk P w K mg base CX0 6 A.f_Course_outcomes A.d_Course_outcomes ["self", "place"] (sp_Course_outcomes A K) := by
  refine T.F_Course_outcomes.ok sc_Course_outcomes (fun vs H Q E h => ?_) (fun cdv A1 outer s H vs Q E hr h => ?_)
  · obtain ⟨c, pl, d, n, p, rfl, _⟩ := h
    rfl
  · obtain ⟨c, pl, d, n, p, rfl, hco, gd, gp, hpl, hn, k⟩ := h
    obtain ⟨dx, ho⟩ := hco.obj
    obtain ⟨kvs, hk1, hk2, hk3⟩ := hco.known.dict
    refine ⟨_, (pss_join (ps_if (pt_cmp (pc_gnotin (hu4 hr) (pv 1) (pe_fld (pv 0) rfl)) (by with_unfolding_all rfl))
        (pss_one (ps_gput (hu4 hr) (pe_fld (pv 0) rfl) (pv 1) (pe_meth (hst := st_name) (pv 0) T.cl_Course T.m_Course_different_outcomes (ok_Course_different_outcomes T) (hr.mono (by decide)) (b_Course_different_outcomes T) .nil pass0 (pa_cons (hs := st_name) (pv 1) pa_nil)) rfl))
        pss_nil)
      (pss_one (ps_ret (pe_gget (hu4 hr) (pe_fld (pv 0) rfl) (pv 1) (fun _ _ => rfl))))), ?_⟩
    try dsimp only [cx_K]
    refine ⟨fun σ' H' => σ' = [some (.ref c.co), some (.ref pl)] ∧ Kept [c.kn] H H' ∧ CourseAt A H' c d (n + 1) ∧ ∃ kvs l as, H' c.kn = some (.dG kvs) ∧ valV kvs (pk p) = some (.ref l) ∧ OutsAt A H' l d p (KL.diffs d p) as, ?_, ?_⟩
    · first | refine if_cutR (fun _ z => ⟨_, rfl, _, rfl, c.co, _, dx, _, _, rfl, ho, T.cl_Course, T.n_Course_known, Course_get_known, c.kn, kvs, pk p, rfl, hk1, PlAt.ga hpl, _, rfl, z⟩) (if_bl (fun hb => ?_) fun hb => ?_) | refine if_cut (fun _ z => ⟨_, rfl, _, rfl, c.co, _, dx, _, _, rfl, ho, T.cl_Course, T.n_Course_known, Course_get_known, c.kn, kvs, pk p, rfl, hk1, PlAt.ga hpl, _, rfl, z⟩) (if_bl (fun hb => ?_) fun hb => ?_) | refine ⟨_, rfl, _, rfl, c.co, _, dx, _, _, rfl, ho, T.cl_Course, T.n_Course_known, Course_get_known, c.kn, kvs, pk p, rfl, hk1, PlAt.ga hpl, _, rfl, if_bl (fun hb => ?_) fun hb => ?_⟩
      · have hv : valV kvs (pk p) = none := by
          cases e : valV kvs (pk p) with
          | none => rfl
          | some v => rw [e] at hb; cases hb
        refine ⟨_, rfl, c.co, dx, _, rfl, ho, Course_no' (.inr (.inr (.inr (.inr rfl)))), _, rfl, c, pl, d, n, p, rfl, hco, gd, gp, hpl, fun H1 l as s1 h1 => ?_⟩
        refine ⟨_, rfl, c.co, _, dx, _, _, rfl, s1 _ _ ho, T.cl_Course, T.n_Course_known, Course_get_known, _, rfl, c.kn, kvs, pk p, rfl, s1 _ _ hk1, PlAt.ga (s1 _ _ hpl), size_lt (by omega), ?_⟩
        have kp : Kept [c.kn] H (upd H1 c.kn (.dG (putK kvs (pk p) (.ref l)))) := (Kept.same s1).upd (by simp)
        have ng1 : NG H1 (upd H1 c.kn (.dG (putK kvs (pk p) (.ref l)))) := NG.kept ((Kept.refl [c.kn] H1).upd (by simp)) (s1 _ _ hk1)
        have h1' := h1.keep ng1
        refine ⟨rfl, kp, ⟨⟨dx, ng1 _ _ (s1 _ _ ho) rfl⟩, (hco.deal.keep (NG.same s1)).keep ng1, _, upd_same, ?_, fun q v e => ?_⟩, _, l, as, upd_same, ?_, h1'⟩
        · have := length_putK kvs (pk p) (V.ref l)
          omega
        · rw [valV_put] at e
          split at e
          · rename_i c
            cases pk_inj c
            cases e
            exact ⟨l, as, rfl, h1'⟩
          · obtain ⟨l', as', e1, e2⟩ := hk3 q v e
            exact ⟨l', as', e1, (e2.keep (NG.same s1)).keep ng1⟩
        · rw [valV_put, if_pos rfl]
      · cases e : valV kvs (pk p) with
        | none => rw [e] at hb; cases hb
        | some v =>
          obtain ⟨l, as, e1, e2⟩ := hk3 p v e
          subst e1
          exact ⟨rfl, Kept.refl _ _, hco.more (Nat.le_succ n), kvs, l, as, hk1, e, e2⟩
    · rintro σ' H1 ⟨rfl, k1, hc1, kvs', l, as, e1, e2, e3⟩
      obtain ⟨dx1, ho1⟩ := hc1.obj
      exact ⟨_, rfl, c.co, _, dx1, _, _, rfl, ho1, T.cl_Course, T.n_Course_known, Course_get_known, _, rfl, c.kn, kvs', pk p, _, rfl, e1, PlAt.ga (Kept.one k1 hpl (ne_of hk1 hpl (fun z => nomatch z))), e2, k H1 l as k1 hc1 e3⟩
end KT

namespace KT
open PySem PySem.Spec PyProof.Rows L2
open Kp195 (Deal)
noncomputable def sp_end_for (A : Ad) (K : PySem.W.Frag) : Sp := fun vs H Q _ => ∃ o d q m x, vs = [.ref o, nv x] ∧ OutAt A H o d q m ∧ ∀ v, GA H (ek (KL.endOf d x q m)) v → Q v H
theorem ok_end_for {P : Program} {w : World} {K : PySem.W.Frag} {mg : Str → Option Value} {base : Heap} {A : Ad} (T : Txt K mg A) : FnOk P w K mg base CX0 1 A.f_end_for A.d_end_for ["outcome", "p"] (sp_end_for A K) := by
  refine T.F_end_for.ok sc_end_for (fun vs H Q E h => ?_) (fun cdv A1 outer s H vs Q E hr h => ?_)
  · obtain ⟨o, d, q, m, x, rfl, _⟩ := h
    rfl
  · obtain ⟨o, d, q, m, x, rfl, ⟨dx, pa, ba, e1, e2, e3⟩, k⟩ := h
    refine ⟨_, (pss_one (ps_ret (pe_ifExp (pt_cmpR op_in_seq (pv 1) (pe_fld (pv 0) rfl) (by with_unfolding_all rfl)) (pe_con_BROKEN T (by rfl)) (pe_fld (pv 0) rfl)))), ?_⟩
    try dsimp only [cx_K]
    refine ⟨_, rfl, _, rfl, o, _, dx, _, _, rfl, e1, T.cl_Outcome, T.n_Outcome_broke, Outcome_get_broke, ba, _, rfl, .inr (SqT.of e3), rfl, nvs_flat _, _, rfl, ?_⟩
    show if inV (nv x) (nvs (KL.bring d q m).2) = true then _ else _
    rw [nvs_in]
    have hx : (KL.bring d q m).2.contains x = true ↔ x ∈ Kp195.rising d.parties (Kp195.move d q m).2 := List.contains_iff_mem
    refine if_bl (fun hb => ?_) fun hb => ?_
    · refine k .non ?_
      unfold KL.endOf
      rw [if_pos (hx.mp hb)]
      exact GA.none
    · refine ⟨_, rfl, o, _, dx, _, _, rfl, e1, T.cl_Outcome, T.n_Outcome_place, Outcome_get_place, k (.ref pa) ?_⟩
      unfold KL.endOf
      rw [if_neg (fun z => by rw [hx.mpr z] at hb; cases hb)]
      exact PlAt.ga e2
structure PlsAt (H : Hp) (l : Addr) (L : List Pl) (as : List Addr) : Prop where
  lst : H l = some (.lst (as.map V.ref))
  len : as.length = L.length
  at_ : ∀ (i : Nat) (q : Pl), L[i]? = some q → ∃ a, as[i]? = some a ∧ PlAt H a q
theorem PlsAt.keep {H H' : Hp} {l : Addr} {L : List Pl} {as : List Addr} (h : PlsAt H l L as) (k : NG H H') : PlsAt H' l L as :=
  ⟨k _ _ h.lst rfl, h.len, fun i q e => let ⟨a, e1, e2⟩ := h.at_ i q e; ⟨a, e1, k _ _ e2 rfl⟩⟩
theorem at_snoc {α β : Type} {L : List α} {as : List β} (hl : as.length = L.length) {R : α → β → Prop} (h : ∀ (i : Nat) (q : α), L[i]? = some q → ∃ a, as[i]? = some a ∧ R q a) {q : α} {a : β} (hq : R q a) :
    ∀ (i : Nat) (r : α), (L ++ [q])[i]? = some r → ∃ b, (as ++ [a])[i]? = some b ∧ R r b := by
  intro i r e
  by_cases c : i < L.length
  · rw [List.getElem?_append_left c] at e
    obtain ⟨b, hb, hr⟩ := h i r e
    exact ⟨b, by rw [List.getElem?_append_left (by omega)]; exact hb, hr⟩
  · have hi : i = L.length := by
      have := (List.getElem?_eq_some_iff.mp e).1
      rw [List.length_append, List.length_singleton] at this
      omega
    subst hi
    rw [List.getElem?_append_right (Nat.le_refl _), Nat.sub_self] at e
    have e : q = r := Option.some.inj e
    subst e
    refine ⟨a, ?_, hq⟩
    rw [← hl, List.getElem?_append_right (Nat.le_refl _), Nat.sub_self]
    rfl
noncomputable def plK (L : List Pl) : List (GK × V) := L.map fun q => (pk q, V.bl true)
theorem plK_val (L : List Pl) (q : Pl) : (valV (plK L) (pk q)).isSome = decide (q ∈ L) := by
  rw [← valV_any, Bool.eq_iff_iff, decide_eq_true_iff]
  unfold plK
  rw [List.any_map, List.any_eq_true]
  constructor
  · rintro ⟨r, hr, e⟩
    have e : pk r = pk q := of_decide_eq_true e
    rw [← pk_inj e]; exact hr
  · intro h
    exact ⟨q, h, decide_eq_true rfl⟩
theorem plK_none {L : List Pl} {q : Pl} (h : q ∉ L) : valV (plK L) (pk q) = none := by
  have := plK_val L q
  rw [decide_eq_false h] at this
  cases e : valV (plK L) (pk q) with
  | none => rfl
  | some v => rw [e] at this; cases this
theorem reach_good {d : Deal} (gd : KS.GoodDeal d) {p q : Pl} (gp : KS.GoodPlace d p) (h : KM.Reach d p q) : KS.GoodPlace d q := by
  induction h with
  | here => exact gp
  | next _ _ ih => exact KS.move_good gd ih _
theorem add1_new {d : Deal} {q : Pl} {L : List Pl} {m : Nat} (h : (Kp195.move d q m).1 ∉ L) : KM.add1 d q L m = L ++ [(Kp195.move d q m).1] := by
  unfold KM.add1
  dsimp only
  rw [KM.find_none.mpr h]
theorem add1_old {d : Deal} {q : Pl} {L : List Pl} {m : Nat} (h : (Kp195.move d q m).1 ∈ L) : KM.add1 d q L m = L := by
  obtain ⟨k, e⟩ := KM.find_mem h
  unfold KM.add1
  dsimp only
  rw [e]
theorem add1_len {d : Deal} {q : Pl} {L : List Pl} {m : Nat} : (KM.add1 d q L m).length ≤ L.length + 1 := by
  unfold KM.add1
  dsimp only
  split
  · omega
  · rw [List.length_append]; exact Nat.le_refl _
theorem fold_add_len {d : Deal} {q : Pl} : ∀ (ms : List Nat) (L : List Pl), (ms.foldl (KM.add1 d q) L).length ≤ L.length + ms.length
  | [], L => Nat.le_refl _
  | m :: ms, L => by
    rw [List.foldl_cons, List.length_cons]
    have h1 := fold_add_len (d := d) (q := q) ms (KM.add1 d q L m)
    have h2 := add1_len (d := d) (q := q) (L := L) (m := m)
    omega
noncomputable def sp_places_from (A : Ad) (K : PySem.W.Frag) : Sp := fun vs H Q _ => ∃ c pl d n p, vs = [.ref c.co, .ref pl] ∧ CourseAt A H c d n ∧ KS.GoodDeal d ∧ KS.GoodPlace d p ∧ PlAt H pl p ∧ n < 800000 ∧
  (∀ H', Kept [c.kn] H H' → CourseAt A H' c d (n + 300) → KM.TooMany d p → Q .non H') ∧
  ∀ H' l L as, Kept [c.kn] H H' → CourseAt A H' c d (n + 300) → PlsAt H' l L as → KM.ClosedL d L → L.Nodup → p ∈ L → L.length ≤ 300 → (∀ q ∈ L, KM.Reach d p q) → H l = none → Q (.ref l) H'
theorem ok_places_from {P : Program} {w : World} {K : PySem.W.Frag} {mg : Str → Option Value} {base : Heap} {A : Ad} (T : Txt K mg A) : FnOk P w K mg base CX0 7 A.f_places_from A.d_places_from ["course", "start"] (sp_places_from A K) := by
  refine T.F_places_from.ok sc_places_from (fun vs H Q E h => ?_) (fun cdv A1 outer s H vs Q E hr h => ?_)
  · obtain ⟨c, pl, d, n, p, rfl, _⟩ := h
    rfl
  · obtain ⟨c, pl, d, n, p, rfl, hco, gd, gp, hpl, hn, kN, kL⟩ := h
    obtain ⟨kvs0, hkn⟩ := hco.hasG
    refine ⟨_, (pss_cons (ps_set (i := 2) sc_places_from.nd rfl (by first | exact Or.inl rfl | exact Or.inr rfl) (pe_gdisp (hu4 hr) (pv 1) pe_bl))
      (pss_cons (ps_set (i := 3) sc_places_from.nd rfl (by first | exact Or.inl rfl | exact Or.inr rfl) (pe_lst (pa_cons (hs := st_name) (pv 1) pa_nil)))
      (pss_cons (ps_set (i := 4) sc_places_from.nd rfl (by first | exact Or.inl rfl | exact Or.inr rfl) pe_int)
      (pss_cons (ps_while PassesOwn.never (pt_cmpR op_lt (pv 4) (pe_callB (he := st_name) call_len_seq (by rfl) T.no_len PySem.boot_len (pa_cons (hs := st_name) (pv 3) pa_nil)) (nomark _))
        (pss_cons (ps_set (i := 5) sc_places_from.nd rfl (by first | exact Or.inl rfl | exact Or.inr rfl) (pe_ix ix_list (pv 3) (pv 4) (fun _ _ => rfl)))
        (pss_cons (ps_for PassesOwn.never rfl (pi_list (pe_meth (hst := st_name) (pv 0) T.cl_Course T.m_Course_outcomes (ok_Course_outcomes T) (hr.mono (by decide)) (b_Course_outcomes T) .nil pass0 (pa_cons (hs := st_name) (pv 5) pa_nil))) (pg_name (i := 6) sc_places_from.nd rfl (by first | exact Or.inl rfl | exact Or.inr rfl))
          (pss_one (ps_if (pt_cmp (pc_gnotin (hu4 hr) (pe_fld (pv 6) rfl) (pv 2)) (by with_unfolding_all rfl))
            (pss_cons (ps_gput (hu4 hr) (pv 2) (pe_fld (pv 6) rfl) pe_bl rfl)
            (pss_one (ps_expr (pe_bm PySem.F.plainAttrs_list PySem.F.slot_list_append PySem.F.type_list_append mt_append (pv 3) (pa_cons (hs := st_attr) (pe_fld (pv 6) rfl) pa_nil)))))
            pss_nil)))
        (pss_cons (ps_if (pt_cmpR op_gt (pe_callB (he := st_name) call_len_seq (by rfl) T.no_len PySem.boot_len (pa_cons (hs := st_name) (pv 3) pa_nil)) (pe_con_MOST_PLACES T (by rfl)) (nomark _))
          (pss_one (ps_ret pe_non))
          pss_nil)
        (pss_one (ps_set (i := 4) sc_places_from.nd rfl (by first | exact Or.inl rfl | exact Or.inr rfl) (pe_op op_add (pv 4) pe_int)))))))
      (pss_one (ps_ret (pv 3))))))), ?_⟩
    try dsimp only [cx_K]
    -- found
    intro f hf
    have s0 : Same H (upd H f (.dG [])) := (Same.refl H).new hf
    refine ⟨_, rfl, pk p, PlAt.ga (s0 _ _ hpl), upd_same, ?_⟩
    have s1 : Same H (upd (upd H f (.dG [])) f (.dG [(pk p, V.bl true)])) := s0.at hf
    -- order
    refine ⟨_, rfl, (by show 1 ≤ sizeLine; decide), fun od hod => ?_⟩
    have s2 : Same H (upd (upd (upd H f (.dG [])) f (.dG [(pk p, V.bl true)])) od (.lst [.ref pl])) := s1.new hod
    have hodH : H od = none := s1.free hod
    have nfo : f ≠ od := ne_of_none upd_same hod
    have nkf : c.kn ≠ f := fun z => by rw [z, hf] at hkn; cases hkn
    -- while
    refine ⟨fun m σ' H' => ∃ (sn : Nat) (L : List Pl) (as : List Addr) (v5 v6 : Option V), m = 300 - sn ∧ σ' = [some (.ref c.co), some (.ref pl), some (.ref f), some (.ref od), some (nv sn), v5, v6] ∧ Kept [c.kn] H H' ∧ CourseAt A H' c d (n + sn) ∧
      PlsAt H' od L as ∧ H' f = some (.dG (plK L)) ∧ KM.Seen d p sn L ∧ sn ≤ L.length ∧ L.length ≤ 300, ⟨300, 0, [p], [pl], none, none, rfl, rfl, Kept.same s2, hco.same s2, ⟨upd_same, rfl, fun i q e => ?_⟩, ?_, KM.seen0 d p, Nat.zero_le _, (by show 1 ≤ 300; decide)⟩, ?_⟩
    · cases i with
      | zero =>
        cases e
        exact ⟨pl, rfl, s2 _ _ hpl⟩
      | succ i => cases e
    · rw [upd_ne nfo, upd_same]
      all_goals rfl
    · rintro m σ' H1 ⟨sn, L, as, v5, v6, rfl, rfl, k1, hc1, hL1, hf1, seen, hsn, h300⟩
      have hal : (as.map V.ref).length = L.length := by rw [List.length_map, hL1.len]
      first | refine if_cutR (fun _ z => ⟨_, rfl, _, rfl, od, _, rfl, .inl (SqL.of hL1.lst), _, _, rfl, rfl, _, rfl, z⟩) (if_dec (fun hlt => ?_) fun hlt => ?_) | refine if_cut (fun _ z => ⟨_, rfl, _, rfl, od, _, rfl, .inl (SqL.of hL1.lst), _, _, rfl, rfl, _, rfl, z⟩) (if_dec (fun hlt => ?_) fun hlt => ?_) | refine ⟨_, rfl, _, rfl, od, _, rfl, .inl (SqL.of hL1.lst), _, _, rfl, rfl, _, rfl, if_dec (fun hlt => ?_) fun hlt => ?_⟩
      · rw [hal] at hlt
        have hlt : sn < L.length := by omega
        obtain ⟨q, hq⟩ : ∃ q, L[sn]? = some q := ⟨_, List.getElem?_eq_getElem hlt⟩
        obtain ⟨qa, hqa, hqp⟩ := hL1.at_ sn q hq
        have gq : KS.GoodPlace d q := reach_good gd gp (seen.from_ q (List.mem_of_getElem? hq))
        obtain ⟨dx1, ho1⟩ := hc1.obj
        refine ⟨fun σ' H' => ∃ (L : List Pl) (as : List Addr) (v5 v6 : Option V), σ' = [some (.ref c.co), some (.ref pl), some (.ref f), some (.ref od), some (nv (sn + 1)), v5, v6] ∧ Kept [c.kn] H H' ∧ CourseAt A H' c d (n + (sn + 1)) ∧
          PlsAt H' od L as ∧ H' f = some (.dG (plK L)) ∧ KM.Seen d p (sn + 1) L ∧ sn + 1 ≤ L.length ∧ L.length ≤ 300, ?_, ?_⟩
        · rintro σ'' H'' ⟨L', as', w5, w6, rfl, q1, q2, q3, q4, q5, q6, q7⟩
          exact ⟨300 - (sn + 1), by omega, sn + 1, L', as', w5, w6, rfl, rfl, q1, q2, q3, q4, q5, q6, q7⟩
        -- place = order[seen]
        refine ends_absS fun Dz zm zr _ _ => ?_
        refine ⟨_, rfl, _, rfl, od, _, _, _, rfl, rfl, SqL.of hL1.lst, atI_nat (refs_at' hqa), ?_⟩
        -- for outcome in course.outcomes(place)
        refine ⟨_, rfl, c.co, dx1, _, rfl, ho1, Course_no' (.inr (.inr (.inr (.inl rfl)))), _, rfl, ?_⟩
        refine ⟨c, qa, d, n + sn, q, rfl, hc1, gd, gq, hqp, by omega, fun H2 ol oas k2 hc2 ho2 => ?_⟩
        have nkod : c.kn ≠ od := fun z => by rw [z, hodH] at hkn; cases hkn
        have ng2 : NG H1 H2 := hc1.ng k2
        have hL2 := hL1.keep ng2
        have hf2 : H2 f = some (.dG (plK L)) := Kept.one k2 hf1 nkf
        have k02 : Kept [c.kn] H H2 := k1.trans k2
        have nol : ∀ {b : Addr} {o : HO}, H2 b = some o → isG o = false → b ≠ f := fun {b o} e g z => by rw [z, hf2] at e; cases e; cases g
        have pl2 : PlL H2 od := ⟨_, hL2.lst, fun v e => by
          obtain ⟨a, ha, ev⟩ := refs_get e
          subst ev
          obtain ⟨r, hr⟩ : ∃ r, L[0]? = some r := ⟨_, List.getElem?_eq_getElem (by omega)⟩
          obtain ⟨a', ha', hp⟩ := hL2.at_ 0 r hr
          cases ha.symm.trans ha'
          exact ⟨a, _, rfl, hp⟩⟩
        have nolod : ol ≠ od := ho2.notPl pl2
        have ncl : od ≠ c.cl := fun z => by
          obtain ⟨as0, hcl0⟩ := hco.deal.cls
          rw [z, hcl0.lst] at hodH
          cases hodH
        refine ⟨ol, rfl, ⟨_, SqL.of ho2.lst⟩, for_list (K := K) (a := ol) (xs := oas.map V.ref)
          (fun j σ' H' => ∃ (as' : List Addr) (v6 : Option V), σ' = [some (.ref c.co), some (.ref pl), some (.ref f), some (.ref od), some (nv sn), some (.ref qa), v6] ∧ Kept [f, od] H2 H' ∧
            PlsAt H' od (((KL.diffs d q).take j).foldl (KM.add1 d q) L) as' ∧ H' f = some (.dG (plK (((KL.diffs d q).take j).foldl (KM.add1 d q) L))))
          ⟨as, v6, rfl, Kept.refl _ _, hL2, hf2⟩ (fun j σ' H' _ ⟨_, _, _, k3, _⟩ => SqL.of (k3 _ _ ho2.lst (by
            simp only [List.mem_cons, List.not_mem_nil, or_false, not_or]
            exact ⟨nol ho2.lst rfl, nolod⟩))) ?_ ?_⟩
        · rintro j y σ' H3 hj ⟨as', w6, rfl, k3, hL3, hf3⟩
          refine ends_abs0 fun Dz zn _ _ _ => ?_
          obtain ⟨oa, hoa, rfl⟩ := refs_get hj
          have hjl : j < (KL.diffs d q).length := by rw [← ho2.len]; exact (List.getElem?_eq_some_iff.mp hoa).1
          obtain ⟨m, hm⟩ : ∃ m, (KL.diffs d q)[j]? = some m := ⟨_, List.getElem?_eq_getElem hjl⟩
          obtain ⟨oa', hoa', hout⟩ := ho2.at_ j m hm
          obtain rfl : oa = oa' := Option.some.inj (hoa.symm.trans hoa')
          obtain ⟨dxo, pa, ba, e1, e2, e3⟩ := hout
          have nl : ∀ {b : Addr} {o : HO}, H2 b = some o → (∀ xs, o ≠ .lst xs) → isG o = false → b ∉ [f, od] := fun {b o} e h1 g => by
            simp only [List.mem_cons, List.not_mem_nil, or_false, not_or]
            exact ⟨nol e g, fun z => by rw [z, hL2.lst] at e; cases e; exact h1 _ rfl⟩
          have e1' := k3 _ _ e1 (nl e1 (fun _ z => nomatch z) rfl)
          have e2' : PlAt H3 pa (Kp195.move d q m).1 := k3 _ _ e2 (nl e2 (fun _ z => nomatch z) rfl)
          have hst : ((KL.diffs d q).take (j + 1)).foldl (KM.add1 d q) L = KM.add1 d q (((KL.diffs d q).take j).foldl (KM.add1 d q) L) m := by
            rw [List.take_add_one, hm, List.foldl_append]
            rfl
          have hlen : (((KL.diffs d q).take j).foldl (KM.add1 d q) L).length < 1000 := by
            have h1 := fold_add_len (d := d) (q := q) ((KL.diffs d q).take j) L
            have h2 := KL.diffs_len (d := d) (p := q)
            rw [List.length_take] at h1
            omega
          refine ⟨_, rfl, oa, _, dxo, _, _, rfl, e1', T.cl_Outcome, T.n_Outcome_place, Outcome_get_place, _, rfl, f, _, pk (Kp195.move d q m).1, rfl, hf3, PlAt.ga e2', _, rfl, ?_⟩
          rw [plK_val]
          refine if_bl (fun hb => ?_) fun hb => ?_
          · have hnot : (Kp195.move d q m).1 ∉ ((KL.diffs d q).take j).foldl (KM.add1 d q) L := fun z => by
              rw [decide_eq_true z] at hb
              cases hb
            refine ⟨_, rfl, _, rfl, oa, _, dxo, _, _, rfl, e1', T.cl_Outcome, T.n_Outcome_place, Outcome_get_place, f, _, pk (Kp195.move d q m).1, rfl, hf3, PlAt.ga e2', ?_, ?_⟩
            · unfold plK
              rw [List.length_map]
              exact size_lt (by omega)
            rw [putK_new _ (plK_none hnot)]
            have ng4 : NG H3 (upd H3 f (.dG (plK (((KL.diffs d q).take j).foldl (KM.add1 d q) L) ++ [(pk (Kp195.move d q m).1, V.bl true)]))) := NG.kept ((Kept.refl [f] H3).upd (by simp)) hf3
            have hL4 := hL3.keep ng4
            refine ⟨_, rfl, .inl ⟨rfl, _, SqL.of hL4.lst⟩, _, rfl, oa, _, dxo, _, _, rfl, ng4 _ _ e1' rfl, T.cl_Outcome, T.n_Outcome_place, Outcome_get_place, od, _, _, rfl, rfl, hL4.lst, ?_, ?_⟩
            · rw [List.length_map, hL4.len]
              exact size_lt (by omega)
            refine zn _ _ ⟨as' ++ [pa], _, rfl, (k3.upd (by simp)).upd (by simp), ?_, ?_⟩
            · rw [hst, add1_new hnot]
              have ng5 : ∀ {b : Addr} {r : Pl}, PlAt (upd H3 f (.dG (plK (((KL.diffs d q).take j).foldl (KM.add1 d q) L) ++ [(pk (Kp195.move d q m).1, V.bl true)]))) b r →
                  PlAt (upd (upd H3 f (.dG (plK (((KL.diffs d q).take j).foldl (KM.add1 d q) L) ++ [(pk (Kp195.move d q m).1, V.bl true)]))) od (.lst (as'.map V.ref ++ [.ref pa]))) b r := fun {b r} e =>
                (upd_ne (ne_of e hL4.lst (fun z => nomatch z))).trans e
              refine ⟨?_, ?_, at_snoc hL4.len (R := fun q a => PlAt _ a q) (fun i r e => let ⟨b, e1, e2⟩ := hL4.at_ i r e; ⟨b, e1, ng5 e2⟩) (ng5 (ng4 _ _ e2' rfl))⟩
              · rw [upd_same, List.map_append]
                all_goals rfl
              · rw [List.length_append, List.length_append, hL4.len]
                all_goals rfl
            · rw [upd_ne nfo, upd_same, hst, add1_new hnot]
              unfold plK
              rw [List.map_append]
              all_goals rfl
          · have hin : (Kp195.move d q m).1 ∈ ((KL.diffs d q).take j).foldl (KM.add1 d q) L := by
              cases hd : decide ((Kp195.move d q m).1 ∈ ((KL.diffs d q).take j).foldl (KM.add1 d q) L) with
              | true => exact of_decide_eq_true hd
              | false => rw [hd] at hb; cases hb
            refine zn _ _ ⟨as', _, rfl, k3, ?_, ?_⟩
            · rw [hst, add1_old hin]; exact hL3
            · rw [hst, add1_old hin]; exact hf3
        · rintro σ' H3 ⟨as', w6, rfl, k3, hL3, hf3⟩
          rw [List.length_map, ho2.len, List.take_length] at hL3 hf3
          have seen' := KL.seen_turn seen hq
          have k03 : Kept [c.kn] H H3 := fun b o e nb => by
            have e2 := k02 b o e nb
            exact k3 b o e2 (by
              simp only [List.mem_cons, List.not_mem_nil, or_false, not_or]
              exact ⟨fun z => (by rw [z, hf] at e; cases e), fun z => (by rw [z, hodH] at e; cases e)⟩)
          have ng3 : ∀ b o, H2 b = some o → isG o = false → b ≠ od → H3 b = some o := fun b o e g nb => k3 b o e (by
            simp only [List.mem_cons, List.not_mem_nil, or_false, not_or]
            exact ⟨nol e g, nb⟩)
          have hc3 : CourseAt A H3 c d (n + (sn + 1)) := hc2.off gd.ol pl2 ncl ng3 ((k3 _ _ (hc2.hasG.choose_spec) (by
            simp only [List.mem_cons, List.not_mem_nil, or_false, not_or]
            exact ⟨nkf, nkod⟩)).trans hc2.hasG.choose_spec.symm)
          have hal3 : (as'.map V.ref).length = ((KL.diffs d q).foldl (KM.add1 d q) L).length := by rw [List.length_map, hL3.len]
          -- if len(order) > MOST_PLACES
          first | refine if_cutR (fun _ z => ⟨_, rfl, od, _, rfl, .inl (SqL.of hL3.lst), _, _, rfl, rfl, _, rfl, z⟩) (if_dec (fun hgt => ?_) fun hgt => ?_) | refine if_cut (fun _ z => ⟨_, rfl, od, _, rfl, .inl (SqL.of hL3.lst), _, _, rfl, rfl, _, rfl, z⟩) (if_dec (fun hgt => ?_) fun hgt => ?_) | refine ⟨_, rfl, od, _, rfl, .inl (SqL.of hL3.lst), _, _, rfl, rfl, _, rfl, if_dec (fun hgt => ?_) fun hgt => ?_⟩
          · rw [hal3] at hgt
            exact zr _ _ (kN H3 k03 (hc3.more (by omega)) (KL.seen_many seen' (by omega)))
          · rw [hal3] at hgt
            refine ⟨_, rfl, _, _, rfl, rfl, zm _ _ ⟨(KL.diffs d q).foldl (KM.add1 d q) L, as', _, _, rfl, k03, hc3, hL3, hf3, seen', ?_, by omega⟩⟩
            obtain ⟨ex, hex⟩ := KM.fold_sub (d := d) (p := q) (ms := KL.diffs d q) (a := L)
            rw [hex, List.length_append]; omega
      · rw [hal] at hlt
        refine ⟨_, rfl, kL H1 od L as k1 (hc1.more (by omega)) hL1 (KL.seen_closed seen (by omega)) seen.nodup seen.start h300 seen.from_ hodH⟩
end KT

namespace KT
open PySem PySem.Spec PyProof.Rows L2
open Kp195 (Deal)
noncomputable def etab : List (Option Pl) → List Addr → List (GK × V)
  | e :: ks, a :: es => (ek e, .ref a) :: etab ks es
  | _, _ => []
theorem etab_snoc {e : Option Pl} {a : Addr} : ∀ {ks : List (Option Pl)} {es : List Addr}, es.length = ks.length → etab (ks ++ [e]) (es ++ [a]) = etab ks es ++ [(ek e, .ref a)]
  | [], [], _ => rfl
  | x :: ks, y :: es, h => by
    show (ek x, V.ref y) :: etab (ks ++ [e]) (es ++ [a]) = (ek x, V.ref y) :: (etab ks es ++ _)
    rw [etab_snoc (by simpa using h)]
  | [], _ :: _, h => by simp at h
  | _ :: _, [], h => by simp at h
theorem etab_len : ∀ {ks : List (Option Pl)} {es : List Addr}, es.length = ks.length → (etab ks es).length = ks.length
  | [], [], _ => rfl
  | x :: ks, y :: es, h => by
    show (etab ks es).length + 1 = ks.length + 1
    rw [etab_len (by simpa using h)]
  | [], _ :: _, h => by simp at h
  | _ :: _, [], h => by simp at h
theorem etab_none {e : Option Pl} : ∀ {ks : List (Option Pl)} {es : List Addr}, e ∉ ks → valV (etab ks es) (ek e) = none
  | [], _, _ => by cases ‹List Addr› <;> rfl
  | _ :: _, [], _ => rfl
  | x :: ks, y :: es, h => by
    show valV ((ek x, V.ref y) :: etab ks es) (ek e) = none
    rw [valV_neg (fun z => h (by rw [ek_inj z]; simp))]
    exact etab_none (fun z => h (List.mem_cons_of_mem _ z))
theorem etab_val {e : Option Pl} : ∀ {ks : List (Option Pl)} {es : List Addr} {j : Nat} {a : Addr}, ks.Nodup → ks[j]? = some e → es[j]? = some a → valV (etab ks es) (ek e) = some (.ref a)
  | [], _, _, _, _, h, _ => by simp at h
  | _ :: _, [], _, _, _, _, h => by simp at h
  | x :: ks, y :: es, 0, a, _, h1, h2 => by
    cases h1
    cases h2
    exact valV_pos rfl
  | x :: ks, y :: es, j + 1, a, nd, h1, h2 => by
    have h1 : ks[j]? = some e := h1
    show valV ((ek x, V.ref y) :: etab ks es) (ek e) = some (.ref a)
    rw [valV_neg (fun z => (List.nodup_cons.mp nd).1 (by rw [ek_inj z]; exact List.mem_of_getElem? h1))]
    exact etab_val (List.nodup_cons.mp nd).2 h1 h2
structure RefsAt (H : Hp) (a : Addr) (ps : List Pl) (rs : List Addr) : Prop where
  lst : H a = some (.lst (rs.map V.ref))
  len : rs.length = ps.length
  at_ : ∀ (i : Nat) (q : Pl), ps[i]? = some q → ∃ b, rs[i]? = some b ∧ PlAt H b q
theorem RefsAt.keep {H H' : Hp} {a : Addr} {ps : List Pl} {rs : List Addr} (h : RefsAt H a ps rs) (k : NG H H') : RefsAt H' a ps rs :=
  ⟨k _ _ h.lst rfl, h.len, fun i q e => let ⟨b, e1, e2⟩ := h.at_ i q e; ⟨b, e1, k _ _ e2 rfl⟩⟩
theorem RefsAt.pl {H : Hp} {a : Addr} {ps : List Pl} {rs : List Addr} (h : RefsAt H a ps rs) : PlL H a := ⟨_, h.lst, fun v e => by
  obtain ⟨b, hb, ev⟩ := refs_get e
  subst ev
  obtain ⟨r, hr⟩ : ∃ r, ps[0]? = some r := ⟨_, List.getElem?_eq_getElem (by rw [← h.len]; exact (List.getElem?_eq_some_iff.mp hb).1)⟩
  obtain ⟨b', hb', hp⟩ := h.at_ 0 r hr
  cases hb.symm.trans hb'
  exact ⟨b, _, rfl, hp⟩⟩
theorem RefsAt.snoc {H : Hp} {a b : Addr} {ps : List Pl} {rs : List Addr} {q : Pl} (h : RefsAt H a ps rs) (hb : PlAt H b q) : RefsAt (upd H a (.lst (rs.map V.ref ++ [.ref b]))) a (ps ++ [q]) (rs ++ [b]) := by
  have ng : ∀ {x : Addr} {r : Pl}, PlAt H x r → PlAt (upd H a (.lst (rs.map V.ref ++ [.ref b]))) x r := fun {x r} e => (upd_ne (ne_of e h.lst (fun z => nomatch z))).trans e
  refine ⟨?_, ?_, at_snoc h.len (R := fun q a => PlAt _ a q) (fun i r e => let ⟨c, e1, e2⟩ := h.at_ i r e; ⟨c, e1, ng e2⟩) (ng hb)⟩
  · rw [upd_same, List.map_append]
    all_goals rfl
  · rw [List.length_append, List.length_append, h.len]
    all_goals rfl
structure EntAt (H : Hp) (en : Addr) (ks : List (Option Pl)) (es : List Addr) (cont : Option Pl → List Pl) : Prop where
  dict : H en = some (.dG (etab ks es))
  len : es.length = ks.length
  nd : es.Nodup
  kd : ks.Nodup
  at_ : ∀ (j : Nat) (e : Option Pl), ks[j]? = some e → ∃ a rs, es[j]? = some a ∧ RefsAt H a (cont e) rs
theorem EntAt.keep {H H' : Hp} {en : Addr} {ks : List (Option Pl)} {es : List Addr} {cont : Option Pl → List Pl} (h : EntAt H en ks es cont) (k : NG H H') (e : H' en = H en) : EntAt H' en ks es cont :=
  ⟨e.trans h.dict, h.len, h.nd, h.kd, fun j e q => let ⟨a, rs, e1, e2⟩ := h.at_ j e q; ⟨a, rs, e1, e2.keep k⟩⟩
theorem EntAt.push {H : Hp} {en : Addr} {ks : List (Option Pl)} {es : List Addr} {cont : Option Pl → List Pl} (h : EntAt H en ks es cont) {j : Nat} {e : Option Pl} {a b : Addr} {rs : List Addr} {q : Pl} (hj : ks[j]? = some e) (ha : es[j]? = some a) (hr : RefsAt H a (cont e) rs) (hb : PlAt H b q) :
    EntAt (upd H a (.lst (rs.map V.ref ++ [.ref b]))) en ks es (fun e' => if e' = e then cont e' ++ [q] else cont e') := by
  refine ⟨?_, h.len, h.nd, h.kd, fun i e' hi => ?_⟩
  · rw [upd_ne (ne_of h.dict hr.lst (fun z => nomatch z))]
    exact h.dict
  · by_cases c : i = j
    · subst c
      cases hj.symm.trans hi
      refine ⟨a, rs ++ [b], ha, ?_⟩
      rw [if_pos rfl]
      exact hr.snoc hb
    · have ne : e' ≠ e := fun z => c (by
        subst z
        exact (List.getElem?_inj (List.getElem?_eq_some_iff.mp hi).1 h.kd).mp (hi.trans hj.symm))
      obtain ⟨a', rs', e1, e2⟩ := h.at_ i e' hi
      have na : a' ≠ a := fun z => c (by
        subst z
        exact (List.getElem?_inj (List.getElem?_eq_some_iff.mp e1).1 h.nd).mp (e1.trans ha.symm))
      refine ⟨a', rs', e1, ?_⟩
      rw [if_neg ne]
      exact ⟨(upd_ne na).trans e2.lst, e2.len, fun i q e => let ⟨x, e1, e3⟩ := e2.at_ i q e; ⟨x, e1, (upd_ne (ne_of e3 hr.lst (fun z => nomatch z))).trans e3⟩⟩
noncomputable def keysOf (L : List Pl) : List (Option Pl) := none :: L.map some
theorem keys_nd {L : List Pl} (h : L.Nodup) : (keysOf L).Nodup := by
  unfold keysOf
  rw [List.nodup_cons]
  refine ⟨by simp, ?_⟩
  rw [List.Nodup, List.pairwise_map]
  exact h.imp fun hne z => hne (Option.some.inj z)
theorem mem_keys {L : List Pl} {e : Option Pl} : e ∈ keysOf L ↔ e = none ∨ ∃ q ∈ L, e = some q := by
  unfold keysOf
  rw [List.mem_cons, List.mem_map]
  exact ⟨fun h => h.imp id fun ⟨q, h1, h2⟩ => ⟨q, h1, h2.symm⟩, fun h => h.imp id fun ⟨q, h1, h2⟩ => ⟨q, h1, h2.symm⟩⟩
theorem end_in {d : Deal} {x : Nat} {L : List Pl} (hc : KM.ClosedL d L) {q : Pl} (hq : q ∈ L) {m : Nat} (hm : m ∈ KL.diffs d q) : KL.endOf d x q m ∈ keysOf L := by
  rw [mem_keys]
  unfold KL.endOf
  split
  · exact .inl rfl
  · exact .inr ⟨_, hc q hq m (KL.diffs_sub hm), rfl⟩
noncomputable def sp_entries_of (A : Ad) (K : PySem.W.Frag) : Sp := fun vs H Q _ => ∃ c pl d n L as x, vs = [.ref c.co, .ref pl, nv x] ∧ CourseAt A H c d n ∧ KS.GoodDeal d ∧ PlsAt H pl L as ∧ (∀ q ∈ L, KS.GoodPlace d q) ∧ KM.ClosedL d L ∧ L.Nodup ∧ L.length ≤ 300 ∧ n < 800000 ∧
  ∀ H' en es, Kept [c.kn] H H' → CourseAt A H' c d (n + 300) → EntAt H' en (keysOf L) es (KL.entriesL d x L) → H en = none → (∀ a ∈ es, H a = none) → Q (.ref en) H'
theorem entries_take {d : Deal} {x : Nat} {L : List Pl} {i : Nat} {q : Pl} (h : L[i]? = some q) (e : Option Pl) :
    KL.entriesL d x (L.take (i + 1)) e = KL.entriesL d x (L.take i) e ++ ((KL.outs d x q).filter fun o => decide (o = e)).map fun _ => q := by
  unfold KL.entriesL
  rw [List.take_add_one, h, List.flatMap_append]
  show _ ++ (((KL.outs d x q).filter fun o => decide (o = e)).map (fun _ => q) ++ []) = _
  rw [List.append_nil]
theorem ok_entries_of {P : Program} {w : World} {K : PySem.W.Frag} {mg : Str → Option Value} {base : Heap} {A : Ad} (T : Txt K mg A) : FnOk P w K mg base CX0 7 A.f_entries_of A.d_entries_of ["course", "places", "p"] (sp_entries_of A K) := by
  refine T.F_entries_of.ok sc_entries_of (fun vs H Q E h => ?_) (fun cdv A1 outer s H vs Q E hr h => ?_)
  · obtain ⟨c, pl, d, n, L, as, x, rfl, _⟩ := h
    rfl
  · obtain ⟨c, pl, d, n, L, as, x, rfl, hco, gd, hL, gL, hcl, hnd, h300, hn, k⟩ := h
    obtain ⟨kvs0, hkn⟩ := hco.hasG
    refine ⟨_, (pss_cons (ps_set (i := 3) sc_entries_of.nd rfl (by first | exact Or.inl rfl | exact Or.inr rfl) (pe_gdisp (hu4 hr) (pe_con_BROKEN T (by rfl)) (pe_lst pa_nil)))
      (pss_cons (ps_for PassesOwn.never rfl (pi_list (pv 1)) (pg_name (i := 4) sc_entries_of.nd rfl (by first | exact Or.inl rfl | exact Or.inr rfl))
        (pss_one (ps_gput (hu4 hr) (pv 3) (pv 4) (pe_lst pa_nil) rfl)))
      (pss_cons (ps_for PassesOwn.never rfl (pi_list (pv 1)) (pg_name (i := 4) sc_entries_of.nd rfl (by first | exact Or.inl rfl | exact Or.inr rfl))
        (pss_one (ps_for PassesOwn.never rfl (pi_list (pe_meth (hst := st_name) (pv 0) T.cl_Course T.m_Course_outcomes (ok_Course_outcomes T) (hr.mono (by decide)) (b_Course_outcomes T) .nil pass0 (pa_cons (hs := st_name) (pv 4) pa_nil))) (pg_name (i := 5) sc_entries_of.nd rfl (by first | exact Or.inl rfl | exact Or.inr rfl))
          (pss_one (ps_expr (pe_bm PySem.F.plainAttrs_list PySem.F.slot_list_append PySem.F.type_list_append mt_append (pe_gget (hu4 hr) (pv 3) (pe_call (he := st_name) (ok_end_for T) (hr.mono (by decide)) rfl T.mg_end_for T.F_end_for.kp (b_end_for T) .nil pass0 (pa_cons (hs := st_name) (pv 5) (pa_cons (hs := st_name) (pv 2) pa_nil))) (fun _ _ => rfl)) (pa_cons (hs := st_name) (pv 4) pa_nil)))))))
      (pss_one (ps_ret (pv 3)))))), ?_⟩
    try dsimp only [cx_K]
    intro en hen
    have s0 : Same H (upd H en (.dG [])) := (Same.refl H).new hen
    refine ⟨Nat.zero_le _, fun l0 hl0 => ?_⟩
    have nel : en ≠ l0 := ne_of_none upd_same hl0
    have hl0H : H l0 = none := s0.free hl0
    refine ⟨.non, GA.none, (upd_ne nel).trans upd_same, ?_⟩
    have s1 : Same H (upd (upd (upd H en (.dG [])) l0 (.lst [])) en (.dG [(GK.non, .ref l0)])) := ((s0.new hl0)).at hen
    have nke : c.kn ≠ en := fun z => by rw [z, hen] at hkn; cases hkn
    -- for place in places: entries[place] = []
    refine ⟨_, rfl, pl, rfl, ⟨_, SqL.of (s1 _ _ hL.lst)⟩, for_list (K := K) (a := pl) (xs := as.map V.ref)
      (fun i σ' H' => ∃ (es : List Addr) (v4 : Option V), σ' = [some (.ref c.co), some (.ref pl), some (nv x), some (.ref en), v4, none] ∧ Same H H' ∧ EntAt H' en (keysOf (L.take i)) es (fun _ => []) ∧ ∀ a ∈ es, H a = none)
      ⟨[l0], none, rfl, s1, ⟨upd_same, rfl, by simp, by simp [keysOf], fun j e hj => ?_⟩, fun a ha => ?_⟩ (fun i σ' H' _ ⟨_, _, _, s2, _⟩ => SqL.of (s2 _ _ hL.lst)) ?_ ?_⟩
    · cases j with
      | zero => exact ⟨l0, [], rfl, (upd_ne nel.symm).trans upd_same, rfl, fun i q e => by cases e⟩
      | succ j => cases hj
    · rw [List.mem_singleton] at ha
      rw [ha]; exact hl0H
    · rintro i y σ' H1 hi ⟨es, v4, rfl, s2, h1, hf⟩
      refine ends_abs0 fun Dz zn _ _ _ => ?_
      obtain ⟨a, ha, rfl⟩ := refs_get hi
      have hil : i < L.length := by rw [← hL.len]; exact (List.getElem?_eq_some_iff.mp ha).1
      obtain ⟨q, hq⟩ : ∃ q, L[i]? = some q := ⟨_, List.getElem?_eq_getElem hil⟩
      obtain ⟨a', ha', hqp⟩ := hL.at_ i q hq
      obtain rfl : a = a' := Option.some.inj (ha.symm.trans ha')
      have htk : L.take (i + 1) = L.take i ++ [q] := by rw [List.take_add_one, hq]; rfl
      have hqn : q ∉ L.take i := fun z => by
        have := hnd.sublist (List.take_sublist (i + 1) L)
        rw [htk, List.nodup_append] at this
        exact this.2.2 q z q (by simp) rfl
      have hkn' : some q ∉ keysOf (L.take i) := fun z => by
        rcases mem_keys.mp z with w | ⟨r, hr, w⟩
        · cases w
        · cases w; exact hqn hr
      refine ⟨Nat.zero_le _, fun l1 hl1 => ?_⟩
      have s3 : Same H1 (upd H1 l1 (.lst [])) := (Same.refl H1).new hl1
      refine ⟨_, rfl, _, rfl, en, _, pk q, rfl, s3 _ _ h1.dict, PlAt.ga (s3 _ _ (s2 _ _ hqp)), ?_, ?_⟩
      · rw [etab_len h1.len]
        unfold keysOf
        rw [List.length_cons, List.length_map, List.length_take]
        exact size_lt (by omega)
      · have hnone : valV (etab (keysOf (L.take i)) es) (pk q) = none := etab_none (e := some q) hkn'
        rw [putK_new _ hnone]
        have nl1 : en ≠ l1 := ne_of_none h1.dict hl1
        have hks : keysOf (L.take (i + 1)) = keysOf (L.take i) ++ [some q] := by
          unfold keysOf
          rw [htk, List.map_append]
          rfl
        have ng : NG H1 (upd (upd H1 l1 (.lst [])) en (.dG (etab (keysOf (L.take i)) es ++ [(pk q, .ref l1)]))) := (NG.same s3).trans (NG.kept ((Kept.refl [en] _).upd (by simp)) (s3 _ _ h1.dict))
        refine zn _ _ ⟨es ++ [l1], _, rfl, (s2.trans s3).at hen, ⟨?_, ?_, ?_, ?_, ?_⟩, ?_⟩
        · rw [upd_same, hks, etab_snoc h1.len]
          rfl
        · rw [hks, List.length_append, List.length_append, h1.len]
          rfl
        · rw [List.nodup_append]
          refine ⟨h1.nd, by simp, fun b hb b' hb' => ?_⟩
          rw [List.mem_singleton] at hb'
          subst hb'
          intro z
          subst z
          obtain ⟨j, hj⟩ := List.getElem?_of_mem hb
          obtain ⟨e, he⟩ : ∃ e, (keysOf (L.take i))[j]? = some e := ⟨_, List.getElem?_eq_getElem (by rw [← h1.len]; exact (List.getElem?_eq_some_iff.mp hj).1)⟩
          obtain ⟨b2, rs, e1, e2⟩ := h1.at_ j e he
          cases hj.symm.trans e1
          rw [e2.lst] at hl1
          cases hl1
        · exact keys_nd (hnd.sublist (List.take_sublist _ _))
        · rw [hks]
          intro j e he
          have := at_snoc (L := keysOf (L.take i)) (as := es) h1.len (R := fun e a => ∃ rs, RefsAt (upd (upd H1 l1 (.lst [])) en (.dG (etab (keysOf (L.take i)) es ++ [(pk q, .ref l1)]))) a ([] : List Pl) rs)
            (fun j e he => let ⟨a, rs, e1, e2⟩ := h1.at_ j e he; ⟨a, e1, rs, e2.keep ng⟩) (q := some q) (a := l1) ⟨[], (upd_ne nl1.symm).trans upd_same, rfl, fun i q e => by cases e⟩ j e he
          obtain ⟨a, e1, rs, e2⟩ := this
          exact ⟨a, rs, e1, e2⟩
        · intro b hb
          rcases List.mem_append.mp hb with z | z
          · exact hf b z
          · rw [List.mem_singleton] at z
            rw [z]; exact s2.free hl1
    · rintro σ' H1 ⟨es, v4, rfl, s2, h1, hf⟩
      rw [List.length_map, hL.len, List.take_length] at h1
      have hcat : ∀ {j : Nat} {a : Addr}, es[j]? = some a → a ≠ c.cl := fun {j a} e z => by
        have := hf a (List.mem_of_getElem? e)
        obtain ⟨as0, h0⟩ := hco.deal.cls
        rw [z, h0.lst] at this
        cases this
      have hpes : ∀ a ∈ es, a ≠ pl := fun a ha z => by
        have := hf a ha
        rw [z, hL.lst] at this
        cases this
      -- for place in places: for outcome in ..
      refine ⟨_, rfl, pl, rfl, ⟨_, SqL.of (s2 _ _ hL.lst)⟩, for_list (K := K) (a := pl) (xs := as.map V.ref)
        (fun i σ' H' => ∃ (v4 v5 : Option V), σ' = [some (.ref c.co), some (.ref pl), some (nv x), some (.ref en), v4, v5] ∧ Kept [c.kn] H H' ∧ CourseAt A H' c d (n + i) ∧ EntAt H' en (keysOf L) es (KL.entriesL d x (L.take i)))
        ⟨v4, none, rfl, Kept.same s2, hco.same s2, by rw [List.take_zero]; exact h1⟩ (fun i σ' H' _ ⟨_, _, _, k2, _⟩ => SqL.of (hco.ng k2 _ _ hL.lst rfl)) ?_ ?_⟩
      · rintro i y σ' H2 hi ⟨w4, w5, rfl, k2, hc2, h2⟩
        refine ends_abs0 fun Dz zm _ _ _ => ?_
        obtain ⟨a, ha, rfl⟩ := refs_get hi
        have hil : i < L.length := by rw [← hL.len]; exact (List.getElem?_eq_some_iff.mp ha).1
        obtain ⟨q, hq⟩ : ∃ q, L[i]? = some q := ⟨_, List.getElem?_eq_getElem hil⟩
        obtain ⟨a', ha', hqp⟩ := hL.at_ i q hq
        obtain rfl : a = a' := Option.some.inj (ha.symm.trans ha')
        have hqL : q ∈ L := List.mem_of_getElem? hq
        have hqp2 : PlAt H2 a q := hco.ng k2 _ _ hqp rfl
        obtain ⟨dx, ho⟩ := hc2.obj
        refine ⟨_, rfl, c.co, dx, _, rfl, ho, Course_no' (.inr (.inr (.inr (.inl rfl)))), _, rfl, ?_⟩
        refine ⟨c, a, d, n + i, q, rfl, hc2, gd, gL q hqL, hqp2, by omega, fun H3 ol oas k3 hc3 ho3 => ?_⟩
        have ng3 := hc2.ng k3
        have h3 : EntAt H3 en (keysOf L) es (KL.entriesL d x (L.take i)) := h2.keep ng3 ((Kept.one k3 h2.dict nke).trans h2.dict.symm)
        refine ⟨ol, rfl, ⟨_, SqL.of ho3.lst⟩, for_list (K := K) (a := ol) (xs := oas.map V.ref)
          (fun j σ' H' => ∃ (v5 : Option V), σ' = [some (.ref c.co), some (.ref pl), some (nv x), some (.ref en), some (.ref a), v5] ∧ Kept [c.kn] H H' ∧ CourseAt A H' c d (n + (i + 1)) ∧ OutsAt A H' ol d q (KL.diffs d q) oas ∧ PlAt H' a q ∧
            EntAt H' en (keysOf L) es (fun e => KL.entriesL d x (L.take i) e ++ (((KL.outs d x q).take j).filter fun o => decide (o = e)).map fun _ => q))
          ⟨w5, rfl, k2.trans k3, hc3, ho3, ng3 _ _ hqp2 rfl, ?_⟩ (fun j σ' H' _ ⟨_, _, _, _, o4, _⟩ => SqL.of o4.lst) ?_ ?_⟩
        · simpa using h3
        · rintro j y σ' H4 hj ⟨u5, rfl, k4, hc4, ho4, hqp4, h4⟩
          refine ends_abs0 fun Dz zn _ _ _ => ?_
          obtain ⟨oa, hoa, rfl⟩ := refs_get hj
          have hjl : j < (KL.diffs d q).length := by rw [← ho4.len]; exact (List.getElem?_eq_some_iff.mp hoa).1
          obtain ⟨m, hm⟩ : ∃ m, (KL.diffs d q)[j]? = some m := ⟨_, List.getElem?_eq_getElem hjl⟩
          obtain ⟨oa', hoa', hout⟩ := ho4.at_ j m hm
          obtain rfl : oa = oa' := Option.some.inj (hoa.symm.trans hoa')
          have hke := end_in (x := x) hcl hqL (List.mem_of_getElem? hm)
          obtain ⟨jj, hjj⟩ := List.getElem?_of_mem hke
          obtain ⟨ea, rs, hea, hrs⟩ := h4.at_ jj _ hjj
          have hnode : (KL.outs d x q)[j]? = some (KL.endOf d x q m) := by
            unfold KL.outs
            rw [List.getElem?_map, hm]
            rfl
          -- entries[end_for(outcome, p)].append(place)
          refine ⟨_, rfl, _, rfl, _, rfl, oa, d, q, m, x, rfl, hout, fun v hv => ?_⟩
          refine ⟨en, _, _, _, rfl, h4.dict, hv, etab_val h4.kd hjj hea, .inl ⟨rfl, _, SqL.of hrs.lst⟩, _, rfl, ea, _, _, rfl, rfl, hrs.lst, ?_, ?_⟩
          · rw [List.length_map, hrs.len]
            refine size_lt ?_
            have hb1 : (KL.entriesL d x (L.take i) (KL.endOf d x q m)).length ≤ 300 * 17 := by
              have := KL.entries_len (d := d) (x := x) (e := KL.endOf d x q m) (L.take i)
              rw [List.length_take] at this
              have hmin : min i L.length ≤ 300 := by omega
              have := Nat.le_trans this (Nat.mul_le_mul_right 17 hmin)
              exact this
            have hb2 : ((((KL.outs d x q).take j).filter fun o => decide (o = KL.endOf d x q m)).map fun _ => q).length ≤ 17 := by
              rw [List.length_map]
              refine Nat.le_trans (List.length_filter_le _ _) ?_
              rw [List.length_take]
              have := KL.diffs_len (d := d) (p := q)
              have e : (KL.outs d x q).length = (KL.diffs d q).length := List.length_map _
              omega
            rw [List.length_append]
            exact Nat.lt_of_le_of_lt (Nat.add_le_add hb1 hb2) (by decide)
          · have h5 := h4.push hjj hea hrs hqp4
            have nk : ∀ b o, H4 b = some o → isG o = false → b ≠ ea → (upd H4 ea (.lst (rs.map V.ref ++ [.ref a]))) b = some o := fun b o e _ nb => (upd_ne nb).trans e
            obtain ⟨kv4, hkn4⟩ := hc4.hasG
            have nkea : c.kn ≠ ea := ne_of hkn4 hrs.lst (fun z => nomatch z)
            refine zn _ _ ⟨_, rfl, k4.at (hf ea (List.mem_of_getElem? hea)), hc4.off gd.ol hrs.pl (hcat hea) nk (upd_ne nkea), ?_, (upd_ne (ne_of hqp4 hrs.lst (fun z => nomatch z))).trans hqp4, ?_⟩
            · have no := ho4.notPl hrs.pl
              refine ⟨(upd_ne no).trans ho4.lst, ho4.len, fun i2 m2 e2 => ?_⟩
              obtain ⟨b, e3, dx', pa, ba, e4, e5, e6⟩ := ho4.at_ i2 m2 e2
              exact ⟨b, e3, dx', pa, ba, (upd_ne (ne_of e4 hrs.lst (fun z => nomatch z))).trans e4, (upd_ne (ne_of e5 hrs.lst (fun z => nomatch z))).trans e5, (upd_ne (ne_of e6 hrs.lst (fun z => nomatch z))).trans e6⟩
            · have e : (fun e' => if e' = KL.endOf d x q m then (KL.entriesL d x (L.take i) e' ++ (((KL.outs d x q).take j).filter fun o => decide (o = e')).map fun _ => q) ++ [q] else KL.entriesL d x (L.take i) e' ++ (((KL.outs d x q).take j).filter fun o => decide (o = e')).map fun _ => q) =
                  fun e' => KL.entriesL d x (L.take i) e' ++ (((KL.outs d x q).take (j + 1)).filter fun o => decide (o = e')).map fun _ => q := by
                funext e'
                rw [List.take_add_one, hnode, List.filter_append, List.map_append]
                by_cases c2 : e' = KL.endOf d x q m
                · rw [if_pos c2, List.append_assoc]
                  congr 2
                  rw [c2]
                  simp
                · rw [if_neg c2]
                  congr 1
                  have : ([KL.endOf d x q m].filter fun o => decide (o = e')) = [] := by
                    rw [List.filter_cons_of_neg (by simpa using fun z => c2 z.symm)]
                    rfl
                  show _ = _ ++ ([KL.endOf d x q m].filter fun o => decide (o = e')).map (fun _ => q)
                  rw [this]
                  simp
              rw [e] at h5
              exact h5
        · rintro σ' H4 ⟨u5, rfl, k4, hc4, ho4, hqp4, h4⟩
          refine zm _ _ ⟨_, _, rfl, k4, hc4, ?_⟩
          have e : (fun e => KL.entriesL d x (L.take i) e ++ (((KL.outs d x q).take (oas.map V.ref).length).filter fun o => decide (o = e)).map fun _ => q) = KL.entriesL d x (L.take (i + 1)) := by
            funext e'
            have ht : (KL.outs d x q).take (KL.diffs d q).length = KL.outs d x q := List.take_of_length_le (Nat.le_of_eq (List.length_map _))
            rw [entries_take hq e', List.length_map, ho4.len, ht]
          rw [e] at h4
          exact h4
      · rintro σ' H2 ⟨w4, w5, rfl, k2, hc2, h2⟩
        rw [List.length_map, hL.len] at hc2 h2
        rw [List.take_length] at h2
        exact ⟨_, rfl, k H2 en es k2 (hc2.more (by omega)) h2 hen hf⟩
end KT

namespace KT
open PySem PySem.Spec PyProof.Rows L2
open Kp195 (Deal)
noncomputable def chK (L : List Pl) (ch : Pl → Int) : List (GK × V) := L.map fun q => (pk q, V.int (ch q))
theorem chK_val {L : List Pl} {ch : Pl → Int} {q : Pl} (h : q ∈ L) : valV (chK L ch) (pk q) = some (.int (ch q)) := by
  induction L with
  | nil => cases h
  | cons r L ih =>
    show valV ((pk r, V.int (ch r)) :: chK L ch) (pk q) = _
    by_cases e : r = q
    · subst e
      exact valV_pos rfl
    · rw [valV_neg (fun z => e (pk_inj z))]
      rcases List.mem_cons.mp h with z | z
      · exact absurd z.symm e
      · exact ih z
theorem chK_none {L : List Pl} {ch : Pl → Int} {q : Pl} (h : q ∉ L) : valV (chK L ch) (pk q) = none := by
  induction L with
  | nil => rfl
  | cons r L ih =>
    show valV ((pk r, V.int (ch r)) :: chK L ch) (pk q) = _
    rw [valV_neg (fun z => h (by rw [pk_inj z]; simp))]
    exact ih (fun z => h (List.mem_cons_of_mem _ z))
theorem chK_put {L : List Pl} {ch : Pl → Int} {q : Pl} {z : Int} (h : q ∈ L) : putK (chK L ch) (pk q) (.int z) = chK L (fun r => if r = q then z else ch r) := by
  unfold putK
  rw [valV_any, chK_val h]
  show (if true = true then _ else _) = _
  rw [if_pos rfl]
  unfold chK
  rw [List.map_map]
  apply List.map_congr_left
  intro r _
  show (if pk r = pk q then (pk r, V.int z) else (pk r, V.int (ch r))) = (pk r, V.int (if r = q then z else ch r))
  by_cases e : r = q
  · rw [if_pos (by rw [e]), if_pos e]
  · rw [if_neg (fun w => e (pk_inj w)), if_neg e]
theorem chK_len (L : List Pl) (ch : Pl → Int) : (chK L ch).length = L.length := List.length_map _
noncomputable def sp_chances_of (A : Ad) (K : PySem.W.Frag) : Sp := fun vs H Q _ => ∃ c pl d n L as x, vs = [.ref c.co, .ref pl, nv x] ∧ CourseAt A H c d n ∧ KS.GoodDeal d ∧ PlsAt H pl L as ∧ (∀ q ∈ L, KS.GoodPlace d q) ∧ L.Nodup ∧ L.length ≤ 300 ∧ n < 800000 ∧
  ∀ H' cn, Kept [c.kn] H H' → CourseAt A H' c d (n + 300) → H' cn = some (.dG (chK L (KL.init d x))) → H cn = none → Q (.ref cn) H'
theorem ok_chances_of {P : Program} {w : World} {K : PySem.W.Frag} {mg : Str → Option Value} {base : Heap} {A : Ad} (T : Txt K mg A) : FnOk P w K mg base CX0 7 A.f_chances_of A.d_chances_of ["course", "places", "p"] (sp_chances_of A K) := by
  refine T.F_chances_of.ok sc_chances_of (fun vs H Q E h => ?_) (fun cdv A1 outer s H vs Q E hr h => ?_)
  · obtain ⟨c, pl, d, n, L, as, x, rfl, _⟩ := h
    rfl
  · obtain ⟨c, pl, d, n, L, as, x, rfl, hco, gd, hL, gL, hnd, h300, hn, k⟩ := h
    obtain ⟨kvs0, hkn⟩ := hco.hasG
    refine ⟨_, (pss_cons (ps_set (i := 3) sc_chances_of.nd rfl (by first | exact Or.inl rfl | exact Or.inr rfl) pe_gnew)
      (pss_cons (ps_for PassesOwn.never rfl (pi_list (pv 1)) (pg_name (i := 4) sc_chances_of.nd rfl (by first | exact Or.inl rfl | exact Or.inr rfl))
        (pss_one (ps_gput (hu4 hr) (pv 3) (pv 4) (pe_ifExp (pt_cmpR op_eq (pe_ix ix_tup (pv 4) pe_int (fun _ _ => rfl)) (pv 2) (nomark _)) (pe_callB (he := st_call) call_len_seq (by rfl) T.no_len PySem.boot_len (pa_cons (hs := st_call) (pe_meth (hst := st_name) (pv 0) T.cl_Course T.m_Course_outcomes (ok_Course_outcomes T) (hr.mono (by decide)) (b_Course_outcomes T) .nil pass0 (pa_cons (hs := st_name) (pv 4) pa_nil)) pa_nil)) pe_int) rfl)))
      (pss_one (ps_ret (pv 3))))), ?_⟩
    try dsimp only [cx_K]
    intro cn hcn
    have s0 : Same H (upd H cn (.dG [])) := (Same.refl H).new hcn
    have nkc : c.kn ≠ cn := fun z => by rw [z, hcn] at hkn; cases hkn
    refine ⟨_, rfl, pl, rfl, ⟨_, SqL.of (s0 _ _ hL.lst)⟩, for_list (K := K) (a := pl) (xs := as.map V.ref)
      (fun i σ' H' => ∃ (v4 : Option V), σ' = [some (.ref c.co), some (.ref pl), some (nv x), some (.ref cn), v4] ∧ Kept [c.kn] H H' ∧ CourseAt A H' c d (n + i) ∧ H' cn = some (.dG (chK (L.take i) (KL.init d x))))
      ⟨none, rfl, Kept.same s0, hco.same s0, upd_same⟩ (fun i σ' H' _ ⟨_, _, k1, _⟩ => SqL.of (hco.ng k1 _ _ hL.lst rfl)) ?_ ?_⟩
    · rintro i y σ' H1 hi ⟨v4, rfl, k1, hc1, h1⟩
      refine ends_abs0 fun Dz zn _ _ _ => ?_
      obtain ⟨a, ha, rfl⟩ := refs_get hi
      have hil : i < L.length := by rw [← hL.len]; exact (List.getElem?_eq_some_iff.mp ha).1
      obtain ⟨q, hq⟩ : ∃ q, L[i]? = some q := ⟨_, List.getElem?_eq_getElem hil⟩
      obtain ⟨a', ha', hqp⟩ := hL.at_ i q hq
      obtain rfl : a = a' := Option.some.inj (ha.symm.trans ha')
      have hqp1 : PlAt H1 a q := hco.ng k1 _ _ hqp rfl
      have htk : L.take (i + 1) = L.take i ++ [q] := by rw [List.take_add_one, hq]; rfl
      have hqn : q ∉ L.take i := fun z => by
        have := hnd.sublist (List.take_sublist (i + 1) L)
        rw [htk, List.nodup_append] at this
        exact this.2.2 q z q (by simp) rfl
      have hlen : (chK (L.take i) (KL.init d x)).length < sizeLine := by
        rw [chK_len, List.length_take]
        exact size_lt (by omega)
      have fin : ∀ H2 z, Kept [c.kn] H1 H2 → CourseAt A H2 c d (n + (i + 1)) → z = KL.init d x q → ∃ (v4 : Option V), [some (.ref c.co), some (.ref pl), some (nv x), some (.ref cn), some (.ref a)] = [some (.ref c.co), some (.ref pl), some (nv x), some (.ref cn), v4] ∧
          Kept [c.kn] H (upd H2 cn (.dG (putK (chK (L.take i) (KL.init d x)) (pk q) (.int z)))) ∧ CourseAt A (upd H2 cn (.dG (putK (chK (L.take i) (KL.init d x)) (pk q) (.int z)))) c d (n + (i + 1)) ∧ (upd H2 cn (.dG (putK (chK (L.take i) (KL.init d x)) (pk q) (.int z)))) cn = some (.dG (chK (L.take (i + 1)) (KL.init d x))) := by
        intro H2 z k2 hc2 ez
        have h2 : H2 cn = some (.dG (chK (L.take i) (KL.init d x))) := Kept.one k2 h1 nkc
        refine ⟨_, rfl, (k1.trans k2).at hcn, hc2.keep (NG.kept ((Kept.refl [cn] H2).upd (by simp)) h2) (upd_ne nkc), ?_⟩
        rw [upd_same, putK_new _ (chK_none hqn), htk, ez]
        unfold chK
        rw [List.map_append]
        rfl
      have hqt : H1 a = some (.tup (nv q.turn :: nvs q.left)) := hqp1
      first | refine if_cutR (fun _ z => ⟨_, rfl, a, _, _, _, rfl, rfl, SqT.of hqt, atI_nat (j := 0) (v := nv q.turn) rfl, _, rfl, rfl, _, rfl, z⟩) (if_eq (fun e => ?_) fun e => ?_) | refine if_cut (fun _ z => ⟨_, rfl, a, _, _, _, rfl, rfl, SqT.of hqt, atI_nat (j := 0) (v := nv q.turn) rfl, _, rfl, rfl, _, rfl, z⟩) (if_eq (fun e => ?_) fun e => ?_) | refine ⟨_, rfl, a, _, _, _, rfl, rfl, SqT.of hqt, atI_nat (j := 0) (v := nv q.turn) rfl, _, rfl, rfl, _, rfl, if_eq (fun e => ?_) fun e => ?_⟩
      · obtain ⟨dx, ho⟩ := hc1.obj
        refine ⟨_, rfl, c.co, dx, _, rfl, ho, Course_no' (.inr (.inr (.inr (.inl rfl)))), _, rfl, c, a, d, n + i, q, rfl, hc1, gd, gL q (List.mem_of_getElem? hq), hqp1, by omega, fun H2 ol oas k2 hc2 ho2 => ?_⟩
        refine ⟨ol, _, rfl, .inl (SqL.of ho2.lst), _, rfl, _, rfl, cn, _, pk q, rfl, Kept.one k2 h1 nkc, PlAt.ga (hc1.ng k2 _ _ hqp1 rfl), hlen, ?_⟩
        refine zn _ _ (fin H2 _ k2 hc2 ?_)
        unfold KL.init
        rw [if_pos (by omega), List.length_map, ho2.len]
      · refine ⟨_, rfl, _, rfl, cn, _, pk q, rfl, h1, PlAt.ga hqp1, hlen, ?_⟩
        refine zn _ _ (fin H1 _ (Kept.refl _ _) (hc1.more (by omega)) ?_)
        unfold KL.init
        rw [if_neg (by omega)]
    · rintro σ' H1 ⟨v4, rfl, k1, hc1, h1⟩
      rw [List.length_map, hL.len] at hc1 h1
      rw [List.take_length] at h1
      exact ⟨_, rfl, k H1 cn k1 (hc1.more (by omega)) h1 hcn⟩
noncomputable def loK (lost : List (Option Pl)) : List (GK × V) := lost.map fun e => (ek e, V.bl true)
theorem loK_val (lost : List (Option Pl)) (e : Option Pl) : (valV (loK lost) (ek e)).isSome = decide (e ∈ lost) := by
  rw [← valV_any, Bool.eq_iff_iff, decide_eq_true_iff]
  unfold loK
  rw [List.any_map, List.any_eq_true]
  constructor
  · rintro ⟨r, hr, z⟩
    have z : ek r = ek e := of_decide_eq_true z
    rw [← ek_inj z]; exact hr
  · intro h
    exact ⟨e, h, decide_eq_true rfl⟩
theorem loK_none {lost : List (Option Pl)} {e : Option Pl} (h : e ∉ lost) : valV (loK lost) (ek e) = none := by
  have := loK_val lost e
  rw [decide_eq_false h] at this
  cases z : valV (loK lost) (ek e) with
  | none => rfl
  | some v => rw [z] at this; cases this
theorem GA.ng {H H' : Hp} {e : Option Pl} {v : V} (g : GA H (ek e) v) (k : NG H H') : GA H' (ek e) v := by
  cases e with
  | none => exact g
  | some p => obtain ⟨a, e1, e2⟩ := g; exact ⟨a, e1, k _ _ e2 rfl⟩
structure SpAt (H : Hp) (sp : Addr) (spread : List (Option Pl)) (vs : List V) : Prop where
  lst : H sp = some (.lst vs)
  len : vs.length = spread.length
  at_ : ∀ (i : Nat) (e : Option Pl), spread[i]? = some e → ∃ v, vs[i]? = some v ∧ GA H (ek e) v
noncomputable def sp_lost_places (A : Ad) (K : PySem.W.Frag) : Sp := fun vs H Q _ => ∃ c pl d n L as x, vs = [.ref c.co, .ref pl, nv x] ∧ CourseAt A H c d n ∧ KS.GoodDeal d ∧ PlsAt H pl L as ∧ (∀ q ∈ L, KS.GoodPlace d q) ∧ KM.ClosedL d L ∧ L.Nodup ∧ L.length ≤ 300 ∧ n < 700000 ∧ x < d.parties ∧
  ∀ H' ld lost, Kept [c.kn] H H' → CourseAt A H' c d (n + 600) → H' ld = some (.dG (loK lost)) → (∀ q ∈ L, some q ∉ lost ↔ KM.CanKeep d x q) → none ∈ lost → H ld = none → Q (.ref ld) H'
theorem last_split {α : Type} {l : List α} (h : 0 < l.length) : ∃ r x, l = r ++ [x] := by
  have hne : l ≠ [] := fun z => by rw [z] at h; exact Nat.lt_irrefl _ h
  exact ⟨l.dropLast, l.getLast hne, (List.dropLast_concat_getLast hne).symm⟩
noncomputable def LostW (c : CA) (d : Deal) (x : Nat) (L : List Pl) (pl en cn ld sp : Addr) (H2 : Hp) (m : Nat) (σ' : L2.St) (H' : Hp) : Prop :=
  ∃ (Pd lost spread : List (Option Pl)) (ch : Pl → Int) (ws : List V) (v7 v8 : Option V), m = 2 * (L.length + 1 - lost.length) + spread.length ∧
    σ' = [some (.ref c.co), some (.ref pl), some (nv x), some (.ref en), some (.ref cn), some (.ref ld), some (.ref sp), v7, v8] ∧ Kept [cn, ld, sp] H2 H' ∧ SpAt H' sp spread ws ∧ H' cn = some (.dG (chK L ch)) ∧ H' ld = some (.dG (loK lost)) ∧
    KL.LInv d x L Pd [] [] lost spread ch
theorem kept3 {a b e : Addr} {H H' : Hp} (k : Kept [a, b, e] H H') {p : Addr} {o : HO} (h : H p = some o) (n1 : p ≠ a) (n2 : p ≠ b) (n3 : p ≠ e) : H' p = some o := k p o h (by
  simp only [List.mem_cons, List.not_mem_nil, or_false, not_or]
  exact ⟨n1, n2, n3⟩)
theorem SpAt.ng {H H' : Hp} {sp : Addr} {spread : List (Option Pl)} {vs : List V} (h : SpAt H sp spread vs) (k : NG H H') : SpAt H' sp spread vs := ⟨k _ _ h.lst rfl, h.len, fun i e q => let ⟨v, e1, e2⟩ := h.at_ i e q; ⟨v, e1, GA.ng e2 k⟩⟩
theorem ok_lost_places {P : Program} {w : World} {K : PySem.W.Frag} {mg : Str → Option Value} {base : Heap} {A : Ad} (T : Txt K mg A) : FnOk P w K mg base CX0 8 A.f_lost_places A.d_lost_places ["course", "places", "p"] (sp_lost_places A K) := by
  refine T.F_lost_places.ok sc_lost_places (fun vs H Q E h => ?_) (fun cdv A1 outer s H vs Q E hr h => ?_)
  · obtain ⟨c, pl, d, n, L, as, x, rfl, _⟩ := h
    rfl
  · obtain ⟨c, pl, d, n, L, as, x, rfl, hco, gd, hL, gL, hcl, hnd, h300, hn, hx, k⟩ := h
    obtain ⟨kvs0, hkn⟩ := hco.hasG
    refine ⟨_, (pss_cons (ps_set (i := 3) sc_lost_places.nd rfl (by first | exact Or.inl rfl | exact Or.inr rfl) (pe_call (he := st_name) (ok_entries_of T) (hr.mono (by decide)) rfl T.mg_entries_of T.F_entries_of.kp (b_entries_of T) .nil pass0 (pa_cons (hs := st_name) (pv 0) (pa_cons (hs := st_name) (pv 1) (pa_cons (hs := st_name) (pv 2) pa_nil)))))
      (pss_cons (ps_set (i := 4) sc_lost_places.nd rfl (by first | exact Or.inl rfl | exact Or.inr rfl) (pe_call (he := st_name) (ok_chances_of T) (hr.mono (by decide)) rfl T.mg_chances_of T.F_chances_of.kp (b_chances_of T) .nil pass0 (pa_cons (hs := st_name) (pv 0) (pa_cons (hs := st_name) (pv 1) (pa_cons (hs := st_name) (pv 2) pa_nil)))))
      (pss_cons (ps_set (i := 5) sc_lost_places.nd rfl (by first | exact Or.inl rfl | exact Or.inr rfl) (pe_gdisp (hu4 hr) (pe_con_BROKEN T (by rfl)) pe_bl))
      (pss_cons (ps_set (i := 6) sc_lost_places.nd rfl (by first | exact Or.inl rfl | exact Or.inr rfl) (pe_lst (pa_cons (hs := st_name) (pe_con_BROKEN T (by rfl)) pa_nil)))
      (pss_cons (ps_while PassesOwn.never (pt_cmpR op_gt (pe_callB (he := st_name) call_len_seq (by rfl) T.no_len PySem.boot_len (pa_cons (hs := st_name) (pv 6) pa_nil)) pe_int (nomark _))
        (pss_cons (ps_set (i := 7) sc_lost_places.nd rfl (by first | exact Or.inl rfl | exact Or.inr rfl) (pe_bm0 PySem.F.plainAttrs_list PySem.F.slot_list_pop PySem.F.type_list_pop mt_pop (pv 6)))
        (pss_one (ps_for PassesOwn.never rfl (pi_list (pe_gget (hu4 hr) (pv 3) (pv 7) (fun _ _ => rfl))) (pg_name (i := 8) sc_lost_places.nd rfl (by first | exact Or.inl rfl | exact Or.inr rfl))
          (pss_cons (ps_gput (hu4 hr) (pv 4) (pv 8) (pe_op op_sub (pe_gget (hu4 hr) (pv 4) (pv 8) (fun _ _ => rfl)) pe_int) rfl)
          (pss_one (ps_if (pt_cmpR op_eq (pe_gget (hu4 hr) (pv 4) (pv 8) (fun _ _ => rfl)) pe_int (nomark _))
            (pss_cons (ps_gput (hu4 hr) (pv 5) (pv 8) pe_bl rfl)
            (pss_one (ps_expr (pe_bm PySem.F.plainAttrs_list PySem.F.slot_list_append PySem.F.type_list_append mt_append (pv 6) (pa_cons (hs := st_name) (pv 8) pa_nil)))))
            pss_nil)))))))
      (pss_one (ps_ret (pv 5)))))))), ?_⟩
    try dsimp only [cx_K]
    refine ⟨_, rfl, _, rfl, _, rfl, c, pl, d, n, L, as, x, rfl, hco, gd, hL, gL, hcl, hnd, h300, by omega, fun H1 en es k1 hc1 h1 hen hes => ?_⟩
    have ng1 := hco.ng k1
    refine ⟨_, rfl, _, rfl, _, rfl, c, pl, d, n + 300, L, as, x, rfl, hc1, gd, hL.keep ng1, gL, hnd, h300, by omega, fun H2 cn k2 hc2 h2 hcn => ?_⟩
    have nken : c.kn ≠ en := fun z => by rw [z, hen] at hkn; cases hkn
    have k02 := k1.trans k2
    have h2e : EntAt H2 en (keysOf L) es (KL.entriesL d x L) := h1.keep (hc1.ng k2) ((Kept.one k2 h1.dict nken).trans h1.dict.symm)
    have free : ∀ {H' : Hp} {b : Addr} {n' : Nat}, Kept [c.kn] H H' → CourseAt A H' c d n' → H' b = none → H b = none := fun {H' b n'} kp hc hb => kp.free hb (by
      rw [List.mem_singleton]
      intro z
      obtain ⟨_, q⟩ := hc.hasG
      rw [z, q] at hb
      cases hb)
    have hcnH : H cn = none := free k1 hc1 hcn
    have nkcn : c.kn ≠ cn := fun z => by rw [z, hcnH] at hkn; cases hkn
    have necn : en ≠ cn := fun z => by rw [← z, h1.dict] at hcn; cases hcn
    -- lost = {BROKEN: True}; spreading = [BROKEN]
    intro ld hld
    refine ⟨.non, GA.none, upd_same, ?_⟩
    refine ⟨(by show 1 ≤ sizeLine; decide), fun sp hsp => ?_⟩
    have nls : ld ≠ sp := ne_of_none upd_same hsp
    have hldH : H ld = none := free k02 hc2 hld
    have hsp2 : H2 sp = none := by
      rw [upd_ne nls.symm, upd_ne nls.symm] at hsp
      exact hsp
    have hspH : H sp = none := free k02 hc2 hsp2
    have s3 : Same H2 (upd (upd (upd H2 ld (.dG [])) ld (.dG [(GK.non, V.bl true)])) sp (.lst [V.non])) := ((((Same.refl H2).new hld).at hld)).new hsp
    have nkl : c.kn ≠ ld := fun z => by rw [z, hldH] at hkn; cases hkn
    have nks : c.kn ≠ sp := fun z => by rw [z, hspH] at hkn; cases hkn
    have nel : en ≠ ld := fun z => by rw [← z, h2e.dict] at hld; cases hld
    have nes : en ≠ sp := fun z => by rw [← z, h2e.dict] at hsp2; cases hsp2
    have ncl : cn ≠ ld := fun z => by rw [← z, h2] at hld; cases hld
    have ncs : cn ≠ sp := fun z => by rw [← z, h2] at hsp2; cases hsp2
    -- what stays from H2 on
    have ngOf : ∀ {H' : Hp}, Kept [cn, ld, sp] H2 H' → NG H2 H' := fun {H'} kp b o e g => kept3 kp e (fun z => by rw [z, h2] at e; cases e; cases g) (fun z => by rw [z, hld] at e; cases e) (fun z => by rw [z, hsp2] at e; cases e)
    refine ⟨LostW c d x L pl en cn ld sp H2, ⟨_, [], [none], [none], KL.init d x, [V.non], none, none, rfl, rfl, Kept.same s3, ⟨upd_same, rfl, fun i e he => ?_⟩, s3 _ _ h2, ?_, KL.LInv.start d x L⟩, ?_⟩
    · cases i with
      | zero => cases he; exact ⟨_, rfl, GA.none⟩
      | succ i => cases he
    · rw [upd_ne nls, upd_same]
      rfl
    · rintro m σ' H4 ⟨Pd, lost, spread, ch, ws, v7, v8, rfl, rfl, k4, hsp4, hcn4, hld4, inv⟩
      have ng4 := ngOf k4
      first | refine if_cutR (fun _ z => ⟨_, rfl, sp, _, rfl, .inl (SqL.of hsp4.lst), _, _, rfl, rfl, _, rfl, z⟩) (if_dec (fun hgt => ?_) fun hgt => ?_) | refine if_cut (fun _ z => ⟨_, rfl, sp, _, rfl, .inl (SqL.of hsp4.lst), _, _, rfl, rfl, _, rfl, z⟩) (if_dec (fun hgt => ?_) fun hgt => ?_) | refine ⟨_, rfl, sp, _, rfl, .inl (SqL.of hsp4.lst), _, _, rfl, rfl, _, rfl, if_dec (fun hgt => ?_) fun hgt => ?_⟩
      · rw [hsp4.len] at hgt
        obtain ⟨sr, e, hse⟩ := last_split (l := spread) (by omega)
        subst hse
        have hwl : ws.length = sr.length + 1 := by rw [hsp4.len, List.length_append]; rfl
        obtain ⟨wr, v, hwe⟩ := last_split (l := ws) (by omega)
        subst hwe
        have hwrl : wr.length = sr.length := by
          rw [List.length_append, List.length_singleton] at hwl
          omega
        obtain ⟨v', hv', hga⟩ := hsp4.at_ sr.length e (by rw [List.getElem?_append_right (Nat.le_refl _), Nat.sub_self]; rfl)
        have ev : v = v' := by
          rw [← hwrl, List.getElem?_append_right (Nat.le_refl _), Nat.sub_self] at hv'
          exact Option.some.inj hv'
        subst ev
        have inv1 := inv.pop
        refine ⟨fun σ' H' => ∃ m', m' < 2 * (L.length + 1 - lost.length) + (sr ++ [e]).length ∧ LostW c d x L pl en cn ld sp H2 m' σ' H', fun σ' H' q => q, ?_⟩
        -- end = spreading.pop()
        refine ends_absS fun Dz zm _ _ _ => ?_
        refine ⟨_, rfl, .inl ⟨rfl, _, SqL.of hsp4.lst⟩, sp, _, v, rfl, rfl, hsp4.lst, ?_, ?_⟩
        · rw [List.length_append, List.length_singleton, Nat.add_sub_cancel, List.getElem?_append_right (Nat.le_refl _), Nat.sub_self]
          rfl
        rw [List.dropLast_concat]
        have k5 : Kept [cn, ld, sp] H2 (upd H4 sp (.lst wr)) := k4.upd (by simp)
        have ng5 := ngOf k5
        have ga5 : ∀ {e' : Option Pl} {u : V}, GA H4 (ek e') u → GA (upd H4 sp (.lst wr)) (ek e') u := fun {e' u} g => by
          cases e' with
          | none => exact g
          | some q => obtain ⟨a, e1, e2⟩ := g; exact ⟨a, e1, (upd_ne (ne_of e2 hsp4.lst (fun z => nomatch z))).trans e2⟩
        have hsp5 : SpAt (upd H4 sp (.lst wr)) sp sr wr := ⟨upd_same, hwrl, fun i e' he => by
          have hi := (List.getElem?_eq_some_iff.mp he).1
          obtain ⟨u, hu, gu⟩ := hsp4.at_ i e' (by rw [List.getElem?_append_left hi]; exact he)
          exact ⟨u, by rw [List.getElem?_append_left (by omega)] at hu; exact hu, ga5 gu⟩⟩
        have hke : e ∈ keysOf L := by
          have he : e ∈ lost := inv.perm.mem_iff.mpr (by simp)
          rw [mem_keys]
          cases e with
          | none => exact .inl rfl
          | some q => exact .inr ⟨q, inv.sub q he, rfl⟩
        obtain ⟨jj, hjj⟩ := List.getElem?_of_mem hke
        obtain ⟨ea, rs, hea, hrs⟩ := h2e.at_ jj _ hjj
        have hen5 : (upd H4 sp (.lst wr)) en = some (.dG (etab (keysOf L) es)) := kept3 k5 h2e.dict necn nel nes
        -- for place in entries[end]
        refine ⟨_, rfl, _, rfl, en, _, ek e, _, rfl, hen5, ga5 hga, etab_val h2e.kd hjj hea, ea, rfl, ⟨_, SqL.of (ng5 _ _ hrs.lst rfl)⟩, for_list (K := K) (a := ea) (xs := rs.map V.ref)
          (fun j σ' H' => ∃ (lost' spread' : List (Option Pl)) (ch' : Pl → Int) (ws' : List V) (v8 : Option V), σ' = [some (.ref c.co), some (.ref pl), some (nv x), some (.ref en), some (.ref cn), some (.ref ld), some (.ref sp), some v, v8] ∧
            Kept [cn, ld, sp] H2 H' ∧ SpAt H' sp spread' ws' ∧ H' cn = some (.dG (chK L ch')) ∧ H' ld = some (.dG (loK lost')) ∧ KL.LInv d x L Pd [e] ((KL.entriesL d x L e).take j) lost' spread' ch' ∧
            2 * (L.length + 1 - lost'.length) + spread'.length < 2 * (L.length + 1 - lost.length) + (sr ++ [e]).length)
          ⟨lost, sr, ch, wr, v8, rfl, k5, hsp5, (upd_ne ncs).trans hcn4, (upd_ne nls).trans hld4, inv1, by rw [List.length_append, List.length_singleton]; omega⟩
          (fun j σ' H' _ ⟨_, _, _, _, _, _, k6, _⟩ => SqL.of (ngOf k6 _ _ hrs.lst rfl)) ?_ ?_⟩
        · rintro j y σ' H6 hj ⟨lost', spread', ch', ws', w8, rfl, k6, hsp6, hcn6, hld6, inv6, hm6⟩
          refine ends_abs0 fun Dz zn _ _ _ => ?_
          obtain ⟨b, hb, rfl⟩ := refs_get hj
          have hjl : j < (KL.entriesL d x L e).length := by rw [← hrs.len]; exact (List.getElem?_eq_some_iff.mp hb).1
          obtain ⟨q, hq⟩ : ∃ q, (KL.entriesL d x L e)[j]? = some q := ⟨_, List.getElem?_eq_getElem hjl⟩
          obtain ⟨b', hb', hbp⟩ := hrs.at_ j q hq
          obtain rfl : b = b' := Option.some.inj (hb.symm.trans hb')
          have hqL : q ∈ L := KL.entries_mem (List.mem_of_getElem? hq)
          have hsplit : KL.entriesL d x L e = (KL.entriesL d x L e).take j ++ q :: (KL.entriesL d x L e).drop (j + 1) := by
            have h1 : (KL.entriesL d x L e).take j ++ (KL.entriesL d x L e).drop j = KL.entriesL d x L e := List.take_append_drop _ _
            have h2 : (KL.entriesL d x L e).drop j = q :: (KL.entriesL d x L e).drop (j + 1) := by
              rw [List.drop_eq_getElem_cons hjl]
              congr 1
              exact Option.some.inj ((List.getElem?_eq_getElem hjl).symm.trans hq)
            rw [← h2]
            exact h1.symm
          obtain ⟨stepN, stepZ⟩ := inv6.entry hx hnd hsplit
          have htk : (KL.entriesL d x L e).take (j + 1) = (KL.entriesL d x L e).take j ++ [q] := by rw [List.take_add_one, hq]; rfl
          have hbp6 : PlAt H6 b q := ngOf k6 _ _ hbp rfl
          have hclen : (chK L ch').length < sizeLine := by rw [chK_len]; exact size_lt (by omega)
          refine ⟨_, rfl, _, rfl, cn, _, pk q, _, rfl, hcn6, PlAt.ga hbp6, chK_val hqL, _, _, rfl, rfl, _, rfl, _, rfl, cn, _, pk q, rfl, hcn6, PlAt.ga hbp6, hclen, ?_⟩
          rw [chK_put hqL]
          have k7 : Kept [cn, ld, sp] H2 (upd H6 cn (.dG (chK L fun r => if r = q then ch' q - 1 else ch' r))) := k6.upd (by simp)
          have ng67 : NG H6 (upd H6 cn (.dG (chK L fun r => if r = q then ch' q - 1 else ch' r))) := NG.kept ((Kept.refl [cn] H6).upd (by simp)) hcn6
          have hbp7 := ngOf k7 _ _ hbp rfl
          have hsp7 := hsp6.ng ng67
          have hld7 : (upd H6 cn (.dG (chK L fun r => if r = q then ch' q - 1 else ch' r))) ld = some (.dG (loK lost')) := (upd_ne ncl.symm).trans hld6
          have hcv : valV (chK L fun r => if r = q then ch' q - 1 else ch' r) (pk q) = some (.int (ch' q - 1)) := by
            rw [chK_val hqL]
            show some (V.int (if q = q then ch' q - 1 else ch' q)) = _
            rw [if_pos rfl]
          first | refine if_cutR (fun _ z => ⟨_, rfl, _, rfl, cn, _, pk q, _, rfl, upd_same, PlAt.ga hbp7, hcv, rfl, _, rfl, z⟩) (if_eq (fun e0 => ?_) fun e0 => ?_) | refine if_cut (fun _ z => ⟨_, rfl, _, rfl, cn, _, pk q, _, rfl, upd_same, PlAt.ga hbp7, hcv, rfl, _, rfl, z⟩) (if_eq (fun e0 => ?_) fun e0 => ?_) | (refine ⟨_, rfl, _, rfl, cn, _, pk q, _, rfl, upd_same, PlAt.ga hbp7, hcv, rfl, _, rfl, ?_⟩; refine if_eq (fun e0 => ?_) fun e0 => ?_)
          · obtain ⟨hnot, inv7⟩ := stepZ e0
            rw [← htk] at inv7
            have hsz := inv7.size
            rw [List.length_append, List.length_singleton] at hsz
            refine ⟨_, rfl, _, rfl, ld, _, pk q, rfl, hld7, PlAt.ga hbp7, ?_, ?_⟩
            · unfold loK
              rw [List.length_map]
              exact size_lt (by omega)
            have hnone : valV (loK lost') (pk q) = none := loK_none (e := some q) hnot
            rw [putK_new _ hnone]
            have k8 := k7.upd (o := .dG (loK lost' ++ [(pk q, V.bl true)])) (show ld ∈ [cn, ld, sp] by simp)
            have ng78 : NG (upd H6 cn (.dG (chK L fun r => if r = q then ch' q - 1 else ch' r))) (upd (upd H6 cn (.dG (chK L fun r => if r = q then ch' q - 1 else ch' r))) ld (.dG (loK lost' ++ [(pk q, V.bl true)]))) := NG.kept ((Kept.refl [ld] _).upd (by simp)) hld7
            have hsp8 := hsp7.ng ng78
            refine ⟨_, rfl, .inl ⟨rfl, _, SqL.of hsp8.lst⟩, _, rfl, sp, _, _, rfl, rfl, hsp8.lst, ?_, ?_⟩
            · rw [hsp8.len]
              have h1 := inv7.perm.length_eq
              rw [List.length_append, List.length_append, List.length_append] at h1
              exact size_lt (by omega)
            have hbp8 := ngOf k8 _ _ hbp rfl
            have ga9 : ∀ {e' : Option Pl} {u : V}, GA (upd (upd H6 cn (.dG (chK L fun r => if r = q then ch' q - 1 else ch' r))) ld (.dG (loK lost' ++ [(pk q, V.bl true)]))) (ek e') u →
                GA (upd (upd (upd H6 cn (.dG (chK L fun r => if r = q then ch' q - 1 else ch' r))) ld (.dG (loK lost' ++ [(pk q, V.bl true)]))) sp (.lst (ws' ++ [.ref b]))) (ek e') u := fun {e' u} g => by
              cases e' with
              | none => exact g
              | some r => obtain ⟨a, e1, e2⟩ := g; exact ⟨a, e1, (upd_ne (ne_of e2 hsp8.lst (fun z => nomatch z))).trans e2⟩
            refine zn _ _ ⟨lost' ++ [some q], spread' ++ [some q], _, ws' ++ [.ref b], _, rfl, k8.upd (by simp), ⟨upd_same, ?_, ?_⟩, ?_, ?_, inv7, ?_⟩
            · rw [List.length_append, List.length_append, hsp8.len]
              rfl
            · exact at_snoc hsp8.len (R := fun e' u => GA _ (ek e') u) (fun i e' he => let ⟨u, h1, h2⟩ := hsp8.at_ i e' he; ⟨u, h1, ga9 h2⟩) (ga9 (e' := some q) (PlAt.ga hbp8))
            · rw [upd_ne ncs, upd_ne ncl, upd_same]
            · rw [upd_ne nls, upd_same]
              unfold loK
              rw [List.map_append]
              rfl
            · rw [List.length_append (as := lost'), List.length_append (as := spread'), List.length_singleton]
              omega
          · have inv7 := stepN e0
            rw [← htk] at inv7
            exact zn _ _ ⟨lost', spread', _, ws', _, rfl, k7, hsp7, upd_same, hld7, inv7, hm6⟩
        · rintro σ' H6 ⟨lost', spread', ch', ws', w8, rfl, k6, hsp6, hcn6, hld6, inv6, hm6⟩
          rw [List.length_map, hrs.len, List.take_length] at inv6
          exact zm _ _ ⟨_, hm6, e :: Pd, lost', spread', ch', ws', _, _, rfl, rfl, k6, hsp6, hcn6, hld6, inv6.close hnd⟩
      · rw [hsp4.len] at hgt
        have hs0 : spread = [] := List.eq_nil_of_length_eq_zero (by omega)
        subst hs0
        have k04 : Kept [c.kn] H H4 := fun b o e nb => kept3 k4 (k02 b o e nb) (fun z => by rw [z, hcnH] at e; cases e) (fun z => by rw [z, hldH] at e; cases e) (fun z => by rw [z, hspH] at e; cases e)
        obtain ⟨kv2, hkn2⟩ := hc2.hasG
        refine ⟨_, rfl, k H4 ld lost k04 (hc2.keep ng4 ((kept3 k4 hkn2 nkcn nkl nks).trans hkn2.symm)) hld4 (fun q hq => inv.fin hx hcl hq) inv.brk hldH⟩
noncomputable def keepsB (d : Deal) (x : Nat) (q : Pl) (lost : List (Option Pl)) (m : Nat) : Bool := !decide (KL.endOf d x q m ∈ lost)
noncomputable def sp_first_keeping_move (A : Ad) (K : PySem.W.Frag) : Sp := fun vs H Q _ => ∃ ol ld d q as lost x m0, vs = [.ref ol, .ref ld, nv x] ∧ OutsAt A H ol d q (KL.diffs d q) as ∧ H ld = some (.dG (loK lost)) ∧ (KL.diffs d q).find? (keepsB d x q lost) = some m0 ∧
  ∀ H', Same H H' → Q (nv m0) H'
theorem find_filter {f : Nat → Bool} : ∀ {l : List Nat} {m : Nat}, l.find? f = some m → (l.filter f)[0]? = some m
  | [], _, h => by cases h
  | a :: l, m, h => by
    rw [List.find?_cons] at h
    cases e : f a with
    | true =>
      rw [e] at h
      rw [List.filter_cons_of_pos e]
      exact h
    | false =>
      rw [e] at h
      rw [List.filter_cons_of_neg (by rw [e]; exact Bool.false_ne_true)]
      exact find_filter h
theorem ok_first_keeping_move {P : Program} {w : World} {K : PySem.W.Frag} {mg : Str → Option Value} {base : Heap} {A : Ad} (T : Txt K mg A) : FnOk P w K mg base CX0 2 A.f_first_keeping_move A.d_first_keeping_move ["outcomes", "lost", "p"] (sp_first_keeping_move A K) := by
  refine T.F_first_keeping_move.ok sc_first_keeping_move (fun vs H Q E h => ?_) (fun cdv A1 outer s H vs Q E hr h => ?_)
  · obtain ⟨ol, ld, d, q, as, lost, x, m0, rfl, _⟩ := h
    rfl
  · obtain ⟨ol, ld, d, q, as, lost, x, m0, rfl, ho, hld, hfind, k⟩ := h
    refine ⟨_, (pss_one (ps_ret (pe_ix ix_list (pe_lc rfl sc_first_keeping_move.nd (pi_list (pv 0)) (blkOk_by (own := [("outcome", 3)]) (by show blkC ["outcomes", "lost", "p", "outcome"] (defScope s_first_keeping_move) _ _ = true; decide +kernel)) (fun _ _ _ _ _ => (pg_name (i := 3) sc_first_keeping_move.nd rfl (by first | exact Or.inl rfl | exact Or.inr rfl))) (fun _ _ _ _ _ => pts_one (pt_cmp (pc_gnotin (hu4 hr) (pe_call (he := st_name) (ok_end_for T) (hr.mono (by decide)) rfl T.mg_end_for T.F_end_for.kp (b_end_for T) .nil pass0 (pa_cons (hs := st_name) (pv 3) (pa_cons (hs := st_name) (pv 2) pa_nil))) (pv 1)) (by with_unfolding_all rfl))) (fun _ _ _ _ _ => (pe_fldK K rfl (pv 3) rfl))) pe_int (fun _ _ => rfl)))), ?_⟩
    try dsimp only [cx_K]
    refine ⟨_, rfl, ol, rfl, ⟨_, SqL.of ho.lst⟩, fun D hD => lc_list (K := K) (a := ol) (xs := as.map V.ref)
      (fun i H' => Same H H' ∧ H' D = some (.lst (nvs (((KL.diffs d q).take i).filter (keepsB d x q lost)))))
      ⟨(Same.refl H).at hD, upd_same⟩ (fun i H' _ ⟨s1, _⟩ => SqL.of (s1 _ _ ho.lst)) ?_ ?_⟩
    · rintro i y H1 hi ⟨s1, h1⟩
      obtain ⟨oa, hoa, rfl⟩ := refs_get hi
      have hil : i < (KL.diffs d q).length := by rw [← ho.len]; exact (List.getElem?_eq_some_iff.mp hoa).1
      obtain ⟨m, hm⟩ : ∃ m, (KL.diffs d q)[i]? = some m := ⟨_, List.getElem?_eq_getElem hil⟩
      obtain ⟨oa', hoa', hout⟩ := ho.at_ i m hm
      obtain rfl : oa = oa' := Option.some.inj (hoa.symm.trans hoa')
      have hout1 := hout.keep (NG.same s1)
      obtain ⟨dx, pa, ba, e1, e2, e3⟩ := id hout1
      refine ⟨rfl, ?_⟩
      refine ⟨_, rfl, _, rfl, oa, d, q, m, x, rfl, hout1, fun v hv => ?_⟩
      refine ⟨_, rfl, ld, _, _, rfl, s1 _ _ hld, hv, _, rfl, ?_⟩
      rw [loK_val]
      refine if_bl (fun hb => ?_) fun hb => ?_
      · refine ⟨_, rfl, oa, _, dx, _, _, rfl, e1, T.cl_Outcome, T.n_Outcome_deed, Outcome_get_deed, _, h1, ?_, s1.at hD, ?_⟩
        · refine filter_small ?_
          rw [List.length_take]
          have := KL.diffs_len (d := d) (p := q)
          omega
        · rw [upd_same, take_snoc' (keepsB d x q lost) hm hb]
      · refine ⟨s1, ?_⟩
        rw [take_skip' (keepsB d x q lost) hm hb]
        exact h1
    · rintro H1 ⟨s1, h1⟩
      rw [List.length_map, ho.len, List.take_length] at h1
      exact ⟨D, _, _, _, rfl, rfl, SqL.of h1, atI_nat (j := 0) (nvs_at (find_filter hfind)), k H1 s1⟩
end KT

namespace KT
open PySem PySem.Spec PyProof.Rows L2
open Kp195 (Deal)
noncomputable def KeptR (R : Addr → Prop) (H H' : Hp) : Prop := ∀ b o, H b = some o → R b → H' b = some o
theorem KeptR.same {R : Addr → Prop} {H H' : Hp} (s : Same H H') : KeptR R H H' := fun b o e _ => s b o e
theorem KeptR.trans {R : Addr → Prop} {H H1 H2 : Hp} (a : KeptR R H H1) (b : KeptR R H1 H2) : KeptR R H H2 := fun c o e r => b c o (a c o e r) r
theorem KeptR.at {R : Addr → Prop} {H H1 : Hp} {p : Addr} {o : HO} (a : KeptR R H H1) (h : ¬ R p) : KeptR R H (upd H1 p o) := fun c u e r => by
  rw [upd_ne (fun z => h (by rw [← z]; exact r))]
  exact a c u e r
theorem KeptR.kept {R : Addr → Prop} {H H' : Hp} {p : Addr} (k : Kept [p] H H') (h : ¬ R p) : KeptR R H H' := fun b o e r => k b o e (by
  rw [List.mem_singleton]
  intro z
  exact h (by rw [← z]; exact r))
noncomputable def There (R : Addr → Prop) (H : Hp) : Prop := ∀ b, R b → ∃ o, H b = some o
theorem There.new {R : Addr → Prop} {H : Hp} (t : There R H) {p : Addr} (h : H p = none) : ¬ R p := fun r => by
  obtain ⟨o, e⟩ := t p r
  rw [h] at e
  cases e
theorem There.keep {R : Addr → Prop} {H H' : Hp} (t : There R H) (k : KeptR R H H') : There R H' := fun b r => let ⟨o, e⟩ := t b r; ⟨o, k b o e r⟩
noncomputable abbrev AgrO (A : Ad) (dx : Addr) (v0 v1 v2 v3 v4 v5 : V) : HO := .ins A.c_Agreement dx (AgreementF v0 v1 v2 v3 v4 v5)
noncomputable def GoneAt (A : Ad) (R : Addr → Prop) (H : Hp) (d : Deal) (vc vp : V) (n : Nat) : Option Pl → Prop
  | none => True
  | some x => KS.GoodPlace d x ∧ ∃ c pl, vc = .ref c.co ∧ vp = .ref pl ∧ CourseAt A H c d n ∧ PlAt H pl x ∧ ¬ R c.kn ∧ ¬ R c.ow ∧ ¬ R c.cl
structure HouseAt (A : Ad) (R : Addr → Prop) (H : Hp) (g : Addr) (h : Kp195.House) (n : Nat) (dx ow cl : Addr) (vc vp : V) : Prop where
  obj : H g = some (AgrO A dx (nv h.deal.parties) (.ref ow) (.ref cl) (.bl h.place.isSome) vc vp)
  deal : DealAt A H ow cl h.deal
  good : KS.GoodDeal h.deal
  gone : GoneAt A R H h.deal vc vp n h.place
  rg : ¬ R g
  ro : ¬ R ow
  rc : ¬ R cl
noncomputable def AgrAt (A : Ad) (R : Addr → Prop) (H : Hp) (g : Addr) (n : Nat) : Kp195.State → Prop
  | none => ¬ R g ∧ ∃ dx v0 v1 v2 v3 v4 v5, H g = some (AgrO A dx v0 v1 v2 v3 v4 v5)
  | some h => ∃ dx ow cl vc vp, HouseAt A R H g h n dx ow cl vc vp
theorem key_ne {a b : Str} {u v : V} {r q : List (Str × V)} (h : ¬ a = b) : ¬ (a, u) :: r = (b, v) :: q := fun z => h (congrArg Prod.fst (List.cons.inj z).1)
theorem cl_ag {C D dx dy : Addr} {v0 v1 v2 v3 v4 v5 w0 w1 w2 w3 w4 w5 : V} : HO.ins C dx (ClauseF v0 v1 v2 v3 v4 v5) ≠ HO.ins D dy (AgreementF w0 w1 w2 w3 w4 w5) := fun z => by
  injection z with _ _ z
  exact key_ne (by decide +kernel) z
theorem ou_ag {C D dx dy : Addr} {v0 v1 v2 w0 w1 w2 w3 w4 w5 : V} : HO.ins C dx (OutcomeF v0 v1 v2) ≠ HO.ins D dy (AgreementF w0 w1 w2 w3 w4 w5) := fun z => by
  injection z with _ _ z
  exact key_ne (by decide +kernel) z
theorem co_ag {C D dx dy : Addr} {v0 v1 v2 v3 w0 w1 w2 w3 w4 w5 : V} : HO.ins C dx (CourseF v0 v1 v2 v3) ≠ HO.ins D dy (AgreementF w0 w1 w2 w3 w4 w5) := fun z => by
  injection z with _ _ z
  have z := congrArg List.length z
  cases z
theorem DealAt.keepIns {A : Ad} {H H1 H' : Hp} {ow cl g dx : Addr} {d : Deal} {v0 v1 v2 v3 v4 v5 : V} (h : DealAt A H ow cl d) (n : NG H H1) (hg : H1 g = some (AgrO A dx v0 v1 v2 v3 v4 v5)) (k : ∀ b o, H1 b = some o → b ≠ g → H' b = some o) : DealAt A H' ow cl d := by
  obtain ⟨as, hcl⟩ := (h.keep n).cls
  have how := (h.keep n).own
  refine ⟨k _ _ how (ne_of how hg (fun z => nomatch z)), as, k _ _ hcl.lst (ne_of hcl.lst hg (fun z => nomatch z)), hcl.len, fun i c e => ?_⟩
  obtain ⟨a, e1, dx', e2⟩ := hcl.at_ i c e
  exact ⟨a, e1, dx', k _ _ e2 (ne_of e2 hg cl_ag)⟩
theorem KnownAt.keepIns {A : Ad} {H H' : Hp} {kn g dx : Addr} {d : Deal} {n : Nat} {v0 v1 v2 v3 v4 v5 : V} (h : KnownAt A H kn d n) (hg : H g = some (AgrO A dx v0 v1 v2 v3 v4 v5)) (k : ∀ b o, H b = some o → b ≠ g → H' b = some o) : KnownAt A H' kn d n := by
  obtain ⟨kvs, h1, h2, h3⟩ := h.dict
  refine ⟨kvs, k _ _ h1 (ne_of h1 hg (fun z => nomatch z)), h2, fun p v e => ?_⟩
  obtain ⟨l, as, e1, o⟩ := h3 p v e
  refine ⟨l, as, e1, k _ _ o.lst (ne_of o.lst hg (fun z => nomatch z)), o.len, fun i m e => ?_⟩
  obtain ⟨a, e2, dx', pa, ba, e3, e4, e5⟩ := o.at_ i m e
  exact ⟨a, e2, dx', pa, ba, k _ _ e3 (ne_of e3 hg ou_ag), k _ _ e4 (ne_of e4 hg (fun z => nomatch z)), k _ _ e5 (ne_of e5 hg (fun z => nomatch z))⟩
theorem CourseAt.keepIns {A : Ad} {H H' : Hp} {c : CA} {g dx : Addr} {d : Deal} {n : Nat} {v0 v1 v2 v3 v4 v5 : V} (h : CourseAt A H c d n) (hg : H g = some (AgrO A dx v0 v1 v2 v3 v4 v5)) (k : ∀ b o, H b = some o → b ≠ g → H' b = some o) : CourseAt A H' c d n := by
  obtain ⟨dx', ho⟩ := h.obj
  exact ⟨⟨dx', k _ _ ho (ne_of ho hg co_ag)⟩, h.deal.keepIns (fun _ _ e _ => e) hg k, h.known.keepIns hg k⟩
theorem GoneAt.ng {A : Ad} {R : Addr → Prop} {H H' : Hp} {d : Deal} {vc vp : V} {n : Nat} : ∀ {o : Option Pl}, GoneAt A R H d vc vp n o → NG H H' → (∀ kn kvs, H kn = some (.dG kvs) → ¬ R kn → H' kn = some (.dG kvs)) → GoneAt A R H' d vc vp n o
  | none, _, _, _ => trivial
  | some x, h, k, e => by
    obtain ⟨h1, c, pl, h2, h3, h4, h5, h6⟩ := h
    obtain ⟨kvs, hk⟩ := h4.hasG
    exact ⟨h1, c, pl, h2, h3, h4.keep k ((e _ _ hk h6.1).trans hk.symm), k _ _ h5 rfl, h6⟩
theorem GoneAt.more {A : Ad} {R : Addr → Prop} {H : Hp} {d : Deal} {vc vp : V} {n m : Nat} (hm : n ≤ m) : ∀ {o : Option Pl}, GoneAt A R H d vc vp n o → GoneAt A R H d vc vp m o
  | none, _ => trivial
  | some x, h => by
    obtain ⟨h1, c, pl, h2, h3, h4, h5⟩ := h
    exact ⟨h1, c, pl, h2, h3, h4.more hm, h5⟩
theorem HouseAt.same {A : Ad} {R : Addr → Prop} {H H' : Hp} {g : Addr} {h : Kp195.House} {n : Nat} {dx ow cl : Addr} {vc vp : V} (x : HouseAt A R H g h n dx ow cl vc vp) (s : Same H H') : HouseAt A R H' g h n dx ow cl vc vp :=
  ⟨s _ _ x.obj, x.deal.keep (NG.same s), x.good, x.gone.ng (NG.same s) (fun kn kvs e _ => s _ _ e), x.rg, x.ro, x.rc⟩
theorem HouseAt.more {A : Ad} {R : Addr → Prop} {H : Hp} {g : Addr} {h : Kp195.House} {n m : Nat} {dx ow cl : Addr} {vc vp : V} (x : HouseAt A R H g h n dx ow cl vc vp) (hm : n ≤ m) : HouseAt A R H g h m dx ow cl vc vp :=
  ⟨x.obj, x.deal, x.good, x.gone.more hm, x.rg, x.ro, x.rc⟩
theorem AgrAt.more {A : Ad} {R : Addr → Prop} {H : Hp} {g : Addr} {n m : Nat} (hm : n ≤ m) : ∀ {s : Kp195.State}, AgrAt A R H g n s → AgrAt A R H g m s
  | none, h => h
  | some h, ⟨dx, ow, cl, vc, vp, x⟩ => ⟨dx, ow, cl, vc, vp, x.more hm⟩
theorem AgrAt.same {A : Ad} {R : Addr → Prop} {H H' : Hp} {g : Addr} {n : Nat} (k : Same H H') : ∀ {s : Kp195.State}, AgrAt A R H g n s → AgrAt A R H' g n s
  | none, ⟨h1, dx, v0, v1, v2, v3, v4, v5, h⟩ => ⟨h1, dx, v0, v1, v2, v3, v4, v5, k _ _ h⟩
  | some h, ⟨dx, ow, cl, vc, vp, x⟩ => ⟨dx, ow, cl, vc, vp, x.same k⟩
theorem AgrAt.obj {A : Ad} {R : Addr → Prop} {H : Hp} {g : Addr} {n : Nat} : ∀ {s : Kp195.State}, AgrAt A R H g n s → ¬ R g ∧ ∃ dx v0 v1 v2 v3 v4 v5, H g = some (AgrO A dx v0 v1 v2 v3 v4 v5)
  | none, h => h
  | some h, ⟨dx, ow, cl, vc, vp, x⟩ => ⟨x.rg, dx, _, _, _, _, _, _, x.obj⟩
theorem HouseAt.two {A : Ad} {R : Addr → Prop} {H : Hp} {g : Addr} {h : Kp195.House} {n : Nat} {dx ow cl : Addr} {vc vp : V} (x : HouseAt A R H g h n dx ow cl vc vp) : ow ≠ cl := fun z => by
  obtain ⟨as, hc⟩ := x.deal.cls
  have e1 := x.deal.own
  rw [z, hc.lst] at e1
  have e2 : as.map V.ref = nvs h.deal.owners := by injection (Option.some.inj e1)
  have e3 := congrArg List.length e2
  rw [List.length_map, nvs_len, x.good.ol, hc.len] at e3
  have := x.good.cl
  omega
theorem Agr_no {m : Str} {v0 v1 v2 v3 v4 v5 : V} (h : m = "begin" ∨ m = "act" ∨ m = "names" ∨ m = "clause" ∨ m = "fits" ∨ m = "go" ∨ m = "do" ∨ m = "owed" ∨ m = "can" ∨ m = "best") : List.lookup m (AgreementF v0 v1 v2 v3 v4 v5) = none := by
  rcases h with h | h | h | h | h | h | h | h | h | h <;> subst h <;> exact Agreement_no (by decide +kernel) (by decide +kernel) (by decide +kernel) (by decide +kernel) (by decide +kernel) (by decide +kernel)
noncomputable def sp_Agreement_init (A : Ad) (K : PySem.W.Frag) : Sp := fun vs H Q _ => ∃ p dx, vs = [.ref p] ∧ H p = some (.ins A.c_Agreement dx []) ∧
  ∀ H' v0 v1 v2 v3 v4 v5, H' p = some (AgrO A dx v0 v1 v2 v3 v4 v5) → Kept [p] H H' → Q .non H'
theorem ok_Agreement_init {P : Program} {w : World} {K : PySem.W.Frag} {mg : Str → Option Value} {base : Heap} {A : Ad} (T : Txt K mg A) : FnOk P w K mg base CX0 1 A.f_Agreement_init A.d_Agreement_init ["self"] (sp_Agreement_init A K) := by
  refine T.F_Agreement_init.ok sc_Agreement_init (fun vs H Q E h => ?_) (fun cdv A1 outer s H vs Q E hr h => ?_)
  · obtain ⟨p, dx, rfl, _⟩ := h
    rfl
  · obtain ⟨p, dx, rfl, hp, k⟩ := h
    have hm : p ∈ [p] := by simp
    refine ⟨_, (pss_cons (ps_fld (pv 0) pe_int rfl)
      (pss_cons (ps_fld (pv 0) (pe_lst pa_nil) rfl)
      (pss_cons (ps_fld (pv 0) (pe_lst pa_nil) rfl)
      (pss_cons (ps_fld (pv 0) pe_bl rfl)
      (pss_cons (ps_fld (pv 0) pe_non rfl)
      (pss_one (ps_fld (pv 0) (pe_tup pa_nil) rfl))))))), ?_⟩
    try dsimp only [cx_K]
    refine ⟨_, rfl, p, _, dx, _, rfl, hp, T.cl_Agreement, T.n_Agreement_parties, (by show 0 < 1000; decide), ?_⟩
    have k1 := (Kept.refl [p] H).upd (o := .ins A.c_Agreement dx (putF "parties" (V.int 0) [])) hm
    refine ⟨Nat.zero_le _, fun l1 hl1 => ?_⟩
    have n1 : p ≠ l1 := ne_of_none upd_same hl1
    have k2 := k1.new (o := .lst []) hl1
    refine ⟨_, rfl, p, _, dx, _, rfl, (upd_ne n1).trans upd_same, T.cl_Agreement, T.n_Agreement_owners, (by show 1 < 1000; decide), ?_⟩
    have k3 := k2.upd (o := .ins A.c_Agreement dx (putF "owners" (V.ref l1) (putF "parties" (V.int 0) []))) hm
    refine ⟨Nat.zero_le _, fun l2 hl2 => ?_⟩
    have n2 : p ≠ l2 := ne_of_none upd_same hl2
    have k4 := k3.new (o := .lst []) hl2
    refine ⟨_, rfl, p, _, dx, _, rfl, (upd_ne n2).trans upd_same, T.cl_Agreement, T.n_Agreement_clauses, (by show 2 < 1000; decide), ?_⟩
    refine ⟨_, rfl, p, _, dx, _, rfl, upd_same, T.cl_Agreement, T.n_Agreement_gone, (by show 3 < 1000; decide), ?_⟩
    refine ⟨_, rfl, p, _, dx, _, rfl, upd_same, T.cl_Agreement, T.n_Agreement_course, (by show 4 < 1000; decide), ?_⟩
    refine ⟨Nat.zero_le _, fun t3 ht3 => ?_⟩
    have n3 : p ≠ t3 := ne_of_none upd_same ht3
    refine ⟨_, rfl, p, _, dx, _, rfl, (upd_ne n3).trans upd_same, T.cl_Agreement, T.n_Agreement_place, (by show 5 < 1000; decide), ?_⟩
    refine k _ (.int 0) (.ref l1) (.ref l2) (.bl false) .non (.ref t3) (upd_same.trans ?_) (((((k4.upd hm).upd hm).upd hm).new ht3).upd hm)
    rw [Agreement_made]
theorem step_begin (s : Kp195.State) (n : Nat) : Kp195.step s (.begin_ n) = if n < 1 ∨ 4 < n then (s, Kp195.say (-22)) else (some ⟨⟨n, List.replicate 16 0, []⟩, none⟩, Kp195.say 0) := by
  cases s <;> rfl
theorem begun_good {n : Nat} (h : ¬ (n < 1 ∨ 4 < n)) : KS.GoodDeal ⟨n, List.replicate 16 0, []⟩ := by
  refine ⟨by show 1 ≤ n; omega, by show n ≤ 4; omega, rfl, fun i o e => ?_, Nat.zero_le _, fun c hc => by cases hc⟩
  have := List.mem_of_getElem? e
  rw [List.mem_replicate] at this
  show o < n
  omega
noncomputable def sp_Agreement_begin (A : Ad) (K : PySem.W.Frag) : Sp := fun vs H Q _ => ∃ R g st n m, vs = [.ref g, nv m] ∧ AgrAt A R H g n st ∧ There R H ∧
  ∀ H', KeptR R H H' → AgrAt A R H' g n (Kp195.step st (.begin_ m)).1 → Q (.int (Kp195.step st (.begin_ m)).2.num) H'
theorem ok_Agreement_begin {P : Program} {w : World} {K : PySem.W.Frag} {mg : Str → Option Value} {base : Heap} {A : Ad} (T : Txt K mg A) : FnOk P w K mg base CX0 1 A.f_Agreement_begin A.d_Agreement_begin ["self", "n"] (sp_Agreement_begin A K) := by
  refine T.F_Agreement_begin.ok sc_Agreement_begin (fun vs H Q E h => ?_) (fun cdv A1 outer s H vs Q E hr h => ?_)
  · obtain ⟨R, g, st, n, m, rfl, _⟩ := h
    rfl
  · obtain ⟨R, g, st, n, m, rfl, hA, hR, k⟩ := h
    rw [step_begin] at k
    obtain ⟨hRg, dx, v0, v1, v2, v3, v4, v5, hg⟩ := hA.obj
    have refuse : (m < 1 ∨ 4 < m) → Q (.int (-22)) H := fun c => by
      rw [if_pos c] at k
      exact k H (fun _ _ e _ => e) hA
    refine ⟨_, (pss_cons (ps_if (PW.pt (pw_or (pt_cmpR op_lt (pv 1) pe_int (nomark _)) (pw_or1 (pt_cmpR op_gt (pv 1) (pe_con_MOST_PARTIES T (by rfl)) (nomark _)))))
        (pss_one (ps_ret (pe_con_WRONG T (by rfl))))
        pss_nil)
      (pss_cons (ps_fld (pv 0) (pv 1) rfl)
      (pss_cons (ps_fld (pv 0) (pe_op op_rep (pe_lst (pa_cons (hs := st_const) pe_int pa_nil)) (pe_con_ACT_COUNT T (by rfl))) rfl)
      (pss_cons (ps_fld (pv 0) (pe_lst pa_nil) rfl)
      (pss_cons (ps_fld (pv 0) pe_bl rfl)
      (pss_one (ps_ret (pe_con_DONE T (by rfl))))))))), ?_⟩
    try dsimp only [cx_K]
    first | refine if_cutR (fun _ z => ⟨_, rfl, _, _, rfl, rfl, _, rfl, z⟩) (if_dec (fun c => ?_) fun c => ?_) | refine if_cut (fun _ z => ⟨_, rfl, _, _, rfl, rfl, _, rfl, z⟩) (if_dec (fun c => ?_) fun c => ?_) | refine ⟨_, rfl, _, _, rfl, rfl, _, rfl, if_dec (fun c => ?_) fun c => ?_⟩
    · exact if_bl (fun _ => refuse (.inl (by omega))) fun z => by cases z
    · first | refine if_cutR (fun _ z => ⟨_, rfl, _, _, rfl, rfl, _, rfl, z⟩) (if_dec (fun c2 => ?_) fun c2 => ?_) | refine if_cut (fun _ z => ⟨_, rfl, _, _, rfl, rfl, _, rfl, z⟩) (if_dec (fun c2 => ?_) fun c2 => ?_) | refine ⟨_, rfl, _, _, rfl, rfl, _, rfl, if_dec (fun c2 => ?_) fun c2 => ?_⟩
      · exact refuse (.inr (by omega))
      · have c3 : ¬ (m < 1 ∨ 4 < m) := by omega
        rw [if_neg c3] at k
        refine ⟨_, rfl, _, rfl, g, _, dx, _, rfl, hg, T.cl_Agreement, T.n_Agreement_parties, (by show 6 < 1000; decide), ?_⟩
        rw [Agreement_put_parties]
        refine ⟨(by show 1 ≤ sizeLine; decide), fun l0 hl0 => ⟨l0, 16, _, rfl, rfl, upd_same, by decide, by decide, (by show 1 * 16 ≤ sizeLine; decide), fun ow how => ?_⟩⟩
        have n0 : g ≠ l0 := ne_of_none upd_same hl0
        have hg1 := (upd_ne (o := .lst [V.int 0]) n0).trans (upd_same (H := H) (a := g) (o := AgrO A dx (nv m) v1 v2 v3 v4 v5))
        have n1 : g ≠ ow := ne_of_none hg1 how
        refine ⟨_, rfl, g, _, dx, _, rfl, (upd_ne n1).trans hg1, T.cl_Agreement, T.n_Agreement_owners, (by show 6 < 1000; decide), ?_⟩
        rw [Agreement_put_owners]
        refine ⟨Nat.zero_le _, fun cl hcl => ?_⟩
        have n2 : g ≠ cl := ne_of_none upd_same hcl
        refine ⟨_, rfl, g, _, dx, _, rfl, (upd_ne n2).trans upd_same, T.cl_Agreement, T.n_Agreement_clauses, (by show 6 < 1000; decide), ?_⟩
        rw [Agreement_put_clauses]
        refine ⟨_, rfl, g, _, dx, _, rfl, upd_same, T.cl_Agreement, T.n_Agreement_gone, (by show 6 < 1000; decide), ?_⟩
        rw [Agreement_put_gone]
        have r1 := (KeptR.same (R := R) (Same.refl H)).at (o := AgrO A dx (nv m) v1 v2 v3 v4 v5) hRg
        have h1 := hR.keep r1
        have r2 := r1.at (o := .lst [V.int 0]) (h1.new hl0)
        have h2 := hR.keep r2
        have Row := h2.new how
        have r3 := (r2.at (o := .lst (List.replicate (16 : Int).toNat [V.int 0]).flatten) Row).at (o := AgrO A dx (nv m) (.ref ow) v2 v3 v4 v5) hRg
        have h3 := hR.keep r3
        have Rcl := h3.new hcl
        have noc : ow ≠ cl := fun z => by
          rw [← z, upd_ne n1.symm, upd_same] at hcl
          cases hcl
        refine k _ (((r3.at Rcl).at hRg).at hRg) ⟨dx, ow, cl, v4, v5, ⟨upd_same, ⟨?_, [], ?_, rfl, fun i c e => by cases e⟩, begun_good c3, trivial, hRg, Row, Rcl⟩⟩
        · rw [upd_ne n1.symm, upd_ne n1.symm, upd_ne noc, upd_ne n1.symm, upd_same]
          rfl
        · rw [upd_ne n2.symm, upd_ne n2.symm, upd_same]
          rfl
noncomputable def sp_Agreement_names (A : Ad) (K : PySem.W.Frag) : Sp := fun vs H Q _ => ∃ g a dx v0 v1 cl v3 v4 v5 as, ∃ d : Deal, vs = [.ref g, nv a] ∧ H g = some (AgrO A dx v0 v1 (.ref cl) v3 v4 v5) ∧ ClsAt A H cl as d.clauses ∧ d.clauses.length ≤ 8 ∧
  ∀ H', Same H H' → Q (.bl (d.clauses.any fun c => c.act == a)) H'
theorem ok_Agreement_names {P : Program} {w : World} {K : PySem.W.Frag} {mg : Str → Option Value} {base : Heap} {A : Ad} (T : Txt K mg A) : FnOk P w K mg base CX0 1 A.f_Agreement_names A.d_Agreement_names ["self", "a"] (sp_Agreement_names A K) := by
  refine T.F_Agreement_names.ok sc_Agreement_names (fun vs H Q E h => ?_) (fun cdv A1 outer s H vs Q E hr h => ?_)
  · obtain ⟨g, a, dx, v0, v1, cl, v3, v4, v5, as, d, rfl, _⟩ := h
    rfl
  · obtain ⟨g, a, dx, v0, v1, cl, v3, v4, v5, as, d, rfl, hg, hcl, h8, k⟩ := h
    refine ⟨_, (pss_one (ps_ret (pe_callB (he := st_lc) (cr_any rfl) (by rfl) T.no_any boot_any_ (pa_cons (hs := st_lc) (pe_lc rfl sc_Agreement_names.nd (pi_list (pe_fld (pv 0) rfl)) (blkOk_by (own := [("clause", 2)]) (by show blkC ["self", "a", "clause"] (defScope s_Agreement_names) _ _ = true; decide +kernel)) (fun _ _ _ _ _ => (pg_name (i := 2) sc_Agreement_names.nd rfl (by first | exact Or.inl rfl | exact Or.inr rfl))) (fun _ _ _ _ _ => pts_nil) (fun _ _ _ _ _ => (pe_cmpR op_eq (pe_fldK K rfl (pv 2) rfl) (pv 1) (nomark _)))) pa_nil)))), ?_⟩
    try dsimp only [cx_K]
    refine ⟨_, rfl, g, _, dx, _, _, rfl, hg, T.cl_Agreement, T.n_Agreement_clauses, Agreement_get_clauses, cl, rfl, ⟨_, SqL.of hcl.lst⟩, fun D hD => lc_list (K := K) (a := cl) (xs := as.map V.ref)
      (fun i H' => Same H H' ∧ H' D = some (.lst (((d.clauses.take i).map fun c => c.act == a).map V.bl)))
      ⟨(Same.refl H).at hD, upd_same⟩ (fun i H' _ ⟨s1, _⟩ => SqL.of (s1 _ _ hcl.lst)) ?_ ?_⟩
    · rintro i y H1 hi ⟨s1, h1⟩
      obtain ⟨ca, hca, rfl⟩ := refs_get hi
      have hil : i < d.clauses.length := by rw [← hcl.len]; exact (List.getElem?_eq_some_iff.mp hca).1
      obtain ⟨ca', dx', hca', hc⟩ := hcl.get hil
      obtain rfl : ca = ca' := Option.some.inj (hca.symm.trans hca')
      refine ⟨rfl, ?_⟩
      unfold tYes
      refine iteT ?_
      refine ⟨_, rfl, ca, _, dx', _, _, rfl, s1 _ _ hc, T.cl_Clause, T.n_Clause_deed, Clause_get_deed, _, rfl, rfl, _, h1, ?_, s1.at hD, ?_⟩
      · rw [List.length_map, List.length_map, List.length_take]
        exact size_lt (by omega)
      · rw [upd_same, List.take_add_one, KP.at_clause hil, dec_nv]
        show some (HO.lst (_ ++ [V.bl ((Kp195.clause d i).act == a)])) = some (HO.lst (((d.clauses.take i ++ [Kp195.clause d i]).map fun c => c.act == a).map V.bl))
        rw [List.map_append, List.map_append]
        rfl
    · rintro H1 ⟨s1, h1⟩
      rw [List.length_map, hcl.len, List.take_length] at h1
      refine ⟨D, _, rfl, SqL.of h1, ?_⟩
      have e : (d.clauses.map fun c => c.act == a).any id = d.clauses.any fun c => c.act == a := by rw [List.any_map]; rfl
      rw [e]
      exact k H1 s1
theorem step_act (h : Kp195.House) (a p : Nat) : Kp195.step (some h) (.act a p) = if h.place.isSome then (some h, Kp195.say (-16)) else if 16 ≤ a ∨ h.deal.parties ≤ p then (some h, Kp195.say (-22)) else if h.deal.clauses.any (fun c => c.act == a) then (some h, Kp195.say (-17)) else (some { h with deal := { h.deal with owners := h.deal.owners.set a p } }, Kp195.say 0) := rfl
noncomputable def sp_Agreement_act (A : Ad) (K : PySem.W.Frag) : Sp := fun vs H Q _ => ∃ R g st n a p, vs = [.ref g, nv a, nv p] ∧ AgrAt A R H g n (some st) ∧ There R H ∧
  ∀ H', KeptR R H H' → AgrAt A R H' g n (Kp195.step (some st) (.act a p)).1 → Q (.int (Kp195.step (some st) (.act a p)).2.num) H'
theorem ok_Agreement_act {P : Program} {w : World} {K : PySem.W.Frag} {mg : Str → Option Value} {base : Heap} {A : Ad} (T : Txt K mg A) : FnOk P w K mg base CX0 2 A.f_Agreement_act A.d_Agreement_act ["self", "a", "p"] (sp_Agreement_act A K) := by
  refine T.F_Agreement_act.ok sc_Agreement_act (fun vs H Q E h => ?_) (fun cdv A1 outer s H vs Q E hr h => ?_)
  · obtain ⟨R, g, st, n, a, p, rfl, _⟩ := h
    rfl
  · obtain ⟨R, g, st, n, a, p, rfl, hA, hR, k⟩ := h
    have hgs := (KS.step_good (s := some st) (c := .act a p) (by
      obtain ⟨dx, ow, cl, vc, vp, x⟩ := hA
      exact ⟨x.good, fun y e => by have := x.gone; rw [e] at this; exact this.1⟩)).1
    rw [step_act] at k hgs
    obtain ⟨dx, ow, cl, vc, vp, x⟩ := id hA
    have h8 := x.good.cl
    refine ⟨_, (pss_cons (ps_if (pt_val (pe_fld (pv 0) rfl))
        (pss_one (ps_ret (pe_con_NOT_NOW T (by rfl))))
        pss_nil)
      (pss_cons (ps_if (PW.pt (pw_or (pt_cmpR op_ge (pv 1) (pe_con_ACT_COUNT T (by rfl)) (nomark _)) (pw_or1 (pt_cmpR op_ge (pv 2) (pe_fld (pv 0) rfl) (nomark _)))))
        (pss_one (ps_ret (pe_con_WRONG T (by rfl))))
        pss_nil)
      (pss_cons (ps_if (pt_val (pe_meth (hst := st_name) (pv 0) T.cl_Agreement T.m_Agreement_names (ok_Agreement_names T) (hr.mono (by decide)) (b_Agreement_names T) .nil pass0 (pa_cons (hs := st_name) (pv 1) pa_nil)))
        (pss_one (ps_ret (pe_con_NAMED T (by rfl))))
        pss_nil)
      (pss_cons (ps_asg (pv 2) (pg_sub (pe_fld (pv 0) rfl) (pv 1) set_list))
      (pss_one (ps_ret (pe_con_DONE T (by rfl)))))))), ?_⟩
    try dsimp only [cx_K]
    first | refine if_cutR (fun _ z => ⟨_, rfl, g, _, dx, _, _, rfl, x.obj, T.cl_Agreement, T.n_Agreement_gone, Agreement_get_gone, _, rfl, z⟩) (if_bl (fun c => ?_) fun c0 => ?_) | refine if_cut (fun _ z => ⟨_, rfl, g, _, dx, _, _, rfl, x.obj, T.cl_Agreement, T.n_Agreement_gone, Agreement_get_gone, _, rfl, z⟩) (if_bl (fun c => ?_) fun c0 => ?_) | refine ⟨_, rfl, g, _, dx, _, _, rfl, x.obj, T.cl_Agreement, T.n_Agreement_gone, Agreement_get_gone, _, rfl, if_bl (fun c => ?_) fun c0 => ?_⟩
    · rw [if_pos c] at k
      exact k H (fun _ _ e _ => e) hA
    rw [if_neg (by rw [c0]; exact Bool.false_ne_true)] at k hgs
    have refuse : (16 ≤ a ∨ st.deal.parties ≤ p) → Q (.int (-22)) H := fun c => by
      rw [if_pos c] at k
      exact k H (fun _ _ e _ => e) hA
    first | refine if_cutR (fun _ z => ⟨_, rfl, _, _, rfl, rfl, _, rfl, z⟩) (if_dec (fun c => ?_) fun c1 => ?_) | refine if_cut (fun _ z => ⟨_, rfl, _, _, rfl, rfl, _, rfl, z⟩) (if_dec (fun c => ?_) fun c1 => ?_) | refine ⟨_, rfl, _, _, rfl, rfl, _, rfl, if_dec (fun c => ?_) fun c1 => ?_⟩
    · exact if_bl (fun _ => refuse (.inl (by omega))) fun z => by cases z
    first | refine if_cutR (fun _ z => ⟨_, rfl, _, rfl, g, _, dx, _, _, rfl, x.obj, T.cl_Agreement, T.n_Agreement_parties, Agreement_get_parties, _, _, rfl, rfl, _, rfl, z⟩) (if_dec (fun c => ?_) fun c2 => ?_) | refine if_cut (fun _ z => ⟨_, rfl, _, rfl, g, _, dx, _, _, rfl, x.obj, T.cl_Agreement, T.n_Agreement_parties, Agreement_get_parties, _, _, rfl, rfl, _, rfl, z⟩) (if_dec (fun c => ?_) fun c2 => ?_) | refine ⟨_, rfl, _, rfl, g, _, dx, _, _, rfl, x.obj, T.cl_Agreement, T.n_Agreement_parties, Agreement_get_parties, _, _, rfl, rfl, _, rfl, if_dec (fun c => ?_) fun c2 => ?_⟩
    · exact refuse (.inr (by omega))
    have c3 : ¬ (16 ≤ a ∨ st.deal.parties ≤ p) := by omega
    rw [if_neg c3] at k hgs
    obtain ⟨as, hcl⟩ := x.deal.cls
    refine ⟨_, rfl, g, dx, _, rfl, x.obj, Agr_no (by simp), _, rfl, g, a, dx, _, _, cl, _, _, _, as, st.deal, rfl, x.obj, hcl, h8, fun H1 s1 => ?_⟩
    first | refine if_cutR (fun _ z => ⟨_, rfl, z⟩) (if_bl (fun c => ?_) fun c => ?_) | refine if_cut (fun _ z => ⟨_, rfl, z⟩) (if_bl (fun c => ?_) fun c => ?_) | refine ⟨_, rfl, if_bl (fun c => ?_) fun c => ?_⟩
    · rw [if_pos c] at k
      exact k H1 (KeptR.same s1) (hA.same s1)
    rw [if_neg (by rw [c]; exact Bool.false_ne_true)] at k hgs
    have x1 := x.same s1
    refine ⟨_, rfl, _, rfl, g, _, dx, _, _, rfl, x1.obj, T.cl_Agreement, T.n_Agreement_owners, Agreement_get_owners, _, rfl, ow, _, _, a, rfl, rfl, x1.deal.own, ?_, ?_⟩
    · rw [nvs_len, x.good.ol]
      exact ix_nat (by omega)
    rw [nvs_set]
    have ng : ∀ b o, H1 b = some o → b ≠ ow → (upd H1 ow (.lst (nvs (st.deal.owners.set a p)))) b = some o := fun b o e nb => (upd_ne nb).trans e
    have hcl1 := hcl.keep (NG.same s1)
    have hno : st.place = none := by
      cases e : st.place with
      | none => rfl
      | some y => rw [e] at c0; cases c0
    refine k _ ((KeptR.same s1).at x.ro) ⟨dx, ow, cl, vc, vp, ⟨ng _ _ x1.obj (ne_of x1.obj x1.deal.own (fun z => nomatch z)), ⟨upd_same, as, ?_, hcl1.len, fun i c e => ?_⟩, hgs.1, ?_, x.rg, x.ro, x.rc⟩⟩
    · exact ng _ _ hcl1.lst x.two.symm
    · obtain ⟨a', e1, dx', e2⟩ := hcl1.at_ i c e
      exact ⟨a', e1, dx', ng _ _ e2 (ne_of e2 x1.deal.own (fun z => nomatch z))⟩
    · show GoneAt A R _ _ vc vp n st.place
      rw [hno]
      all_goals trivial
end KT

namespace KT
open PySem PySem.Spec PyProof.Rows L2
open Kp195 (Deal)
noncomputable def sp_Agreement_fits (A : Ad) (K : PySem.W.Frag) : Sp := fun vs H Q _ => ∃ g ta dx ow v2 v3 v4 v5, ∃ (d : Deal) (c : Kp195.Clause), vs = [.ref g, .ref ta] ∧ H g = some (AgrO A dx (nv d.parties) (.ref ow) v2 v3 v4 v5) ∧ H ow = some (.lst (nvs d.owners)) ∧ KS.GoodDeal d ∧ ClauseAt A H ta c ∧
  Q (.bl (Kp195.goodClause d c)) H
theorem ok_Agreement_fits {P : Program} {w : World} {K : PySem.W.Frag} {mg : Str → Option Value} {base : Heap} {A : Ad} (T : Txt K mg A) : FnOk P w K mg base CX0 2 A.f_Agreement_fits A.d_Agreement_fits ["self", "told"] (sp_Agreement_fits A K) := by
  refine T.F_Agreement_fits.ok sc_Agreement_fits (fun vs H Q E h => ?_) (fun cdv A1 outer s H vs Q E hr h => ?_)
  · obtain ⟨g, ta, dx, ow, v2, v3, v4, v5, d, c, rfl, _⟩ := h
    rfl
  · obtain ⟨g, ta, dx, ow, v2, v3, v4, v5, d, c, rfl, hg, how, gd, ⟨dc, hc⟩, k⟩ := h
    have hiff := KS.goodClause_iff gd (c := c)
    have no : ¬ (c.when_ ≤ 3 ∧ c.what < whatB c.when_ ∧ c.who < d.parties ∧ c.act < 16 ∧ d.owners[c.act]? = some c.who ∧ 1 ≤ c.days ∧ c.days ≤ 7) → Q (.bl false) H := fun z => by
      have e : Kp195.goodClause d c = false := by
        cases w : Kp195.goodClause d c with
        | false => rfl
        | true => exact absurd (hiff.mp w) z
      rw [e] at k
      exact k
    refine ⟨_, (pss_cons (ps_if (PW.pt (pw_or (pt_cmpR op_gt (pe_fld (pv 1) rfl) (pe_con_BY_A_BROKEN_CLAUSE T (by rfl)) (nomark _)) (pw_or1 (pt_cmpR op_ge (pe_fld (pv 1) rfl) (pe_call (he := st_attr) (ok_what_bound T) (hr.mono (by decide)) rfl T.mg_what_bound T.F_what_bound.kp (b_what_bound T) .nil pass0 (pa_cons (hs := st_attr) (pe_fld (pv 1) rfl) pa_nil)) (nomark _)))))
        (pss_one (ps_ret pe_bl))
        pss_nil)
      (pss_cons (ps_if (pt_cmpR op_ge (pe_fld (pv 1) rfl) (pe_fld (pv 0) rfl) (nomark _))
        (pss_one (ps_ret pe_bl))
        pss_nil)
      (pss_cons (ps_if (PW.pt (pw_or (pt_cmpR op_ge (pe_fld (pv 1) rfl) (pe_con_ACT_COUNT T (by rfl)) (nomark _)) (pw_or1 (pt_cmpR op_ne (pe_ix ix_list (pe_fld (pv 0) rfl) (pe_fld (pv 1) rfl) (fun _ _ => rfl)) (pe_fld (pv 1) rfl) (nomark _)))))
        (pss_one (ps_ret pe_bl))
        pss_nil)
      (pss_one (ps_ret (pe_and (pe_cmpR op_ge (pe_fld (pv 1) rfl) pe_int (nomark _)) (pe_one (pe_cmpR op_le (pe_fld (pv 1) rfl) (pe_con_MOST_DAYS T (by rfl)) (nomark _))))))))), ?_⟩
    try dsimp only [cx_K]
    first | refine if_cutR (fun _ z => ⟨_, rfl, ta, _, dc, _, _, rfl, hc, T.cl_Clause, T.n_Clause_when, Clause_get_when, _, _, rfl, rfl, _, rfl, z⟩) (if_dec (fun c1 => ?_) fun c1 => ?_) | refine if_cut (fun _ z => ⟨_, rfl, ta, _, dc, _, _, rfl, hc, T.cl_Clause, T.n_Clause_when, Clause_get_when, _, _, rfl, rfl, _, rfl, z⟩) (if_dec (fun c1 => ?_) fun c1 => ?_) | refine ⟨_, rfl, ta, _, dc, _, _, rfl, hc, T.cl_Clause, T.n_Clause_when, Clause_get_when, _, _, rfl, rfl, _, rfl, if_dec (fun c1 => ?_) fun c1 => ?_⟩
    · exact if_bl (fun _ => no (fun z => by have := z.1; omega)) fun z => by cases z
    first | refine if_cutR (fun _ z => ⟨_, rfl, ta, _, dc, _, _, rfl, hc, T.cl_Clause, T.n_Clause_what, Clause_get_what, _, rfl, ta, _, dc, _, _, rfl, hc, T.cl_Clause, T.n_Clause_when, Clause_get_when, c.when_, rfl, _, _, rfl, rfl, _, rfl, z⟩) (if_dec (fun c2 => ?_) fun c2 => ?_) | refine if_cut (fun _ z => ⟨_, rfl, ta, _, dc, _, _, rfl, hc, T.cl_Clause, T.n_Clause_what, Clause_get_what, _, rfl, ta, _, dc, _, _, rfl, hc, T.cl_Clause, T.n_Clause_when, Clause_get_when, c.when_, rfl, _, _, rfl, rfl, _, rfl, z⟩) (if_dec (fun c2 => ?_) fun c2 => ?_) | refine ⟨_, rfl, ta, _, dc, _, _, rfl, hc, T.cl_Clause, T.n_Clause_what, Clause_get_what, _, rfl, ta, _, dc, _, _, rfl, hc, T.cl_Clause, T.n_Clause_when, Clause_get_when, c.when_, rfl, _, _, rfl, rfl, _, rfl, if_dec (fun c2 => ?_) fun c2 => ?_⟩
    · exact no (fun z => by have := z.2.1; omega)
    first | refine if_cutR (fun _ z => ⟨_, rfl, ta, _, dc, _, _, rfl, hc, T.cl_Clause, T.n_Clause_who, Clause_get_who, _, rfl, g, _, dx, _, _, rfl, hg, T.cl_Agreement, T.n_Agreement_parties, Agreement_get_parties, _, _, rfl, rfl, _, rfl, z⟩) (if_dec (fun c3 => ?_) fun c3 => ?_) | refine if_cut (fun _ z => ⟨_, rfl, ta, _, dc, _, _, rfl, hc, T.cl_Clause, T.n_Clause_who, Clause_get_who, _, rfl, g, _, dx, _, _, rfl, hg, T.cl_Agreement, T.n_Agreement_parties, Agreement_get_parties, _, _, rfl, rfl, _, rfl, z⟩) (if_dec (fun c3 => ?_) fun c3 => ?_) | refine ⟨_, rfl, ta, _, dc, _, _, rfl, hc, T.cl_Clause, T.n_Clause_who, Clause_get_who, _, rfl, g, _, dx, _, _, rfl, hg, T.cl_Agreement, T.n_Agreement_parties, Agreement_get_parties, _, _, rfl, rfl, _, rfl, if_dec (fun c3 => ?_) fun c3 => ?_⟩
    · exact no (fun z => by have := z.2.2.1; omega)
    first | refine if_cutR (fun _ z => ⟨_, rfl, ta, _, dc, _, _, rfl, hc, T.cl_Clause, T.n_Clause_deed, Clause_get_deed, _, _, rfl, rfl, _, rfl, z⟩) (if_dec (fun c4 => ?_) fun c4 => ?_) | refine if_cut (fun _ z => ⟨_, rfl, ta, _, dc, _, _, rfl, hc, T.cl_Clause, T.n_Clause_deed, Clause_get_deed, _, _, rfl, rfl, _, rfl, z⟩) (if_dec (fun c4 => ?_) fun c4 => ?_) | refine ⟨_, rfl, ta, _, dc, _, _, rfl, hc, T.cl_Clause, T.n_Clause_deed, Clause_get_deed, _, _, rfl, rfl, _, rfl, if_dec (fun c4 => ?_) fun c4 => ?_⟩
    · exact if_bl (fun _ => no (fun z => by have := z.2.2.2.1; omega)) fun z => by cases z
    obtain ⟨o, ho⟩ : ∃ o, d.owners[c.act]? = some o := ⟨_, List.getElem?_eq_getElem (by rw [gd.ol]; omega)⟩
    first | refine if_cutR (fun _ z => ⟨_, rfl, g, _, dx, _, _, rfl, hg, T.cl_Agreement, T.n_Agreement_owners, Agreement_get_owners, _, rfl, ta, _, dc, _, _, rfl, hc, T.cl_Clause, T.n_Clause_deed, Clause_get_deed, ow, _, _, _, rfl, rfl, SqL.of how, atI_nat (nvs_at ho), _, rfl, ta, _, dc, _, _, rfl, hc, T.cl_Clause, T.n_Clause_who, Clause_get_who, rfl, _, rfl, z⟩) (if_ne (fun c5 => ?_) fun c5 => ?_) | refine if_cut (fun _ z => ⟨_, rfl, g, _, dx, _, _, rfl, hg, T.cl_Agreement, T.n_Agreement_owners, Agreement_get_owners, _, rfl, ta, _, dc, _, _, rfl, hc, T.cl_Clause, T.n_Clause_deed, Clause_get_deed, ow, _, _, _, rfl, rfl, SqL.of how, atI_nat (nvs_at ho), _, rfl, ta, _, dc, _, _, rfl, hc, T.cl_Clause, T.n_Clause_who, Clause_get_who, rfl, _, rfl, z⟩) (if_ne (fun c5 => ?_) fun c5 => ?_) | refine ⟨_, rfl, g, _, dx, _, _, rfl, hg, T.cl_Agreement, T.n_Agreement_owners, Agreement_get_owners, _, rfl, ta, _, dc, _, _, rfl, hc, T.cl_Clause, T.n_Clause_deed, Clause_get_deed, ow, _, _, _, rfl, rfl, SqL.of how, atI_nat (nvs_at ho), _, rfl, ta, _, dc, _, _, rfl, hc, T.cl_Clause, T.n_Clause_who, Clause_get_who, rfl, _, rfl, if_ne (fun c5 => ?_) fun c5 => ?_⟩
    · refine no (fun z => ?_)
      have := z.2.2.2.2.1
      rw [ho] at this
      have := Option.some.inj this
      omega
    have c5 : o = c.who := by omega
    first | refine if_cutR (fun _ z => ⟨_, rfl, ta, _, dc, _, _, rfl, hc, T.cl_Clause, T.n_Clause_days, Clause_get_days, _, _, rfl, rfl, _, rfl, z⟩) (if_dec (fun c6 => ?_) fun c6 => ?_) | refine if_cut (fun _ z => ⟨_, rfl, ta, _, dc, _, _, rfl, hc, T.cl_Clause, T.n_Clause_days, Clause_get_days, _, _, rfl, rfl, _, rfl, z⟩) (if_dec (fun c6 => ?_) fun c6 => ?_) | refine ⟨_, rfl, ta, _, dc, _, _, rfl, hc, T.cl_Clause, T.n_Clause_days, Clause_get_days, _, _, rfl, rfl, _, rfl, if_dec (fun c6 => ?_) fun c6 => ?_⟩
    · refine ⟨_, rfl, ta, _, dc, _, _, rfl, hc, T.cl_Clause, T.n_Clause_days, Clause_get_days, _, _, rfl, rfl, ?_⟩
      by_cases c7 : c.days ≤ 7
      · have e : Kp195.goodClause d c = true := hiff.mpr ⟨by omega, by show c.what < whatB c.when_; omega, by omega, by omega, by rw [ho, c5], by omega, c7⟩
        rw [e] at k
        show Q (V.bl (decide ((c.days : Int) ≤ 7))) H
        rw [decide_eq_true (by omega)]
        exact k
      · show Q (V.bl (decide ((c.days : Int) ≤ 7))) H
        rw [decide_eq_false (by omega)]
        exact no (fun z => c7 z.2.2.2.2.2.2)
    · exact no (fun z => by have := z.2.2.2.2.2.1; omega)
theorem mV_nat {m : Nat} (h : m < 2) : mV (m == 1) = nv m := by
  match m, h with
  | 0, _ => rfl
  | 1, _ => rfl
noncomputable def sp_clause_of (A : Ad) (K : PySem.W.Frag) : Sp := fun vs H Q _ => ∃ (l : Addr) (w x m p a d : Nat), vs = [.ref l] ∧ H l = some (.lst (nvs [w, x, m, p, a, d])) ∧ m < 2 ∧
  ∀ H' ta, Same H H' → ClauseAt A H' ta ⟨w, x, m == 1, p, a, d⟩ → Q (.ref ta) H'
theorem ok_clause_of {P : Program} {w : World} {K : PySem.W.Frag} {mg : Str → Option Value} {base : Heap} {A : Ad} (T : Txt K mg A) : FnOk P w K mg base CX0 3 A.f_clause_of A.d_clause_of ["numbers"] (sp_clause_of A K) := by
  refine T.F_clause_of.ok sc_clause_of (fun vs H Q E h => ?_) (fun cdv A1 outer s H vs Q E hr h => ?_)
  · obtain ⟨l, w, x, m, p, a, d, rfl, _⟩ := h
    rfl
  · obtain ⟨l, w, x, m, p, a, d, rfl, hl, hm, k⟩ := h
    refine ⟨_, (pss_one (ps_ret (pe_make (he := st_sub) T.M_Clause (ok_Clause_init T) (hr.mono (by decide)) rfl T.mg_Clause (b_Clause_init T) .nil pass0 (pa_cons (hs := st_sub) (pe_ix ix_list (pv 0) pe_int (fun _ _ => rfl)) (pa_cons (hs := st_sub) (pe_ix ix_list (pv 0) pe_int (fun _ _ => rfl)) (pa_cons (hs := st_sub) (pe_ix ix_list (pv 0) pe_int (fun _ _ => rfl)) (pa_cons (hs := st_sub) (pe_ix ix_list (pv 0) pe_int (fun _ _ => rfl)) (pa_cons (hs := st_sub) (pe_ix ix_list (pv 0) pe_int (fun _ _ => rfl)) (pa_cons (hs := st_sub) (pe_ix ix_list (pv 0) pe_int (fun _ _ => rfl)) pa_nil))))))))), ?_⟩
    try dsimp only [cx_K]
    refine ⟨_, rfl, l, _, _, _, rfl, rfl, SqL.of hl, atI_nat (j := 0) (v := nv w) rfl, ?_⟩
    refine ⟨_, rfl, l, _, _, _, rfl, rfl, SqL.of hl, atI_nat (j := 1) (v := nv x) rfl, ?_⟩
    refine ⟨_, rfl, l, _, _, _, rfl, rfl, SqL.of hl, atI_nat (j := 2) (v := nv m) rfl, ?_⟩
    refine ⟨_, rfl, l, _, _, _, rfl, rfl, SqL.of hl, atI_nat (j := 3) (v := nv p) rfl, ?_⟩
    refine ⟨_, rfl, l, _, _, _, rfl, rfl, SqL.of hl, atI_nat (j := 4) (v := nv a) rfl, ?_⟩
    refine ⟨_, rfl, l, _, _, _, rfl, rfl, SqL.of hl, atI_nat (j := 5) (v := nv d) rfl, ?_⟩
    intro y dy hy hdy ny
    refine ⟨y, dy, _, _, _, _, _, _, rfl, upd_same, fun H1 h1 off => ⟨rfl, ?_⟩⟩
    refine k H1 y (fun b o e => ?_) ⟨dy, ?_⟩
    · have b1 : b ≠ y := ne_of_none e hy
      have b2 : b ≠ dy := ne_of_none e hdy
      rw [off b b1, upd_ne b1, upd_ne b2]
      exact e
    · rw [h1]
      show some (HO.ins A.c_Clause dy (ClauseF (nv w) (nv x) (nv m) (nv p) (nv a) (nv d))) = some (HO.ins A.c_Clause dy (ClauseF (nv w) (nv x) (mV (m == 1)) (nv p) (nv a) (nv d)))
      rw [mV_nat hm]
theorem step_clause (h : Kp195.House) (c : Kp195.Clause) : Kp195.step (some h) (.clause c) = if h.place.isSome then (some h, Kp195.say (-16)) else if Kp195.goodClause h.deal c = false then (some h, Kp195.say (-22)) else if 8 ≤ h.deal.clauses.length then (some h, Kp195.say (-28)) else
    (some { h with deal := { h.deal with clauses := h.deal.clauses ++ [c] } }, Kp195.say (h.deal.clauses.length : Int)) := rfl
theorem AgrAt.goodS {A : Ad} {R : Addr → Prop} {H : Hp} {g : Addr} {n : Nat} {st : Kp195.House} (hA : AgrAt A R H g n (some st)) : KS.GoodState (some st) := by
  obtain ⟨dx, ow, cl, vc, vp, x⟩ := hA
  exact ⟨x.good, fun y e => by have := x.gone; rw [e] at this; exact this.1⟩
noncomputable def sp_Agreement_clause (A : Ad) (K : PySem.W.Frag) : Sp := fun vs H Q _ => ∃ R g st n ta c, vs = [.ref g, .ref ta] ∧ AgrAt A R H g n (some st) ∧ There R H ∧ ClauseAt A H ta c ∧
  ∀ H', KeptR R H H' → AgrAt A R H' g n (Kp195.step (some st) (.clause c)).1 → Q (.int (Kp195.step (some st) (.clause c)).2.num) H'
theorem ok_Agreement_clause {P : Program} {w : World} {K : PySem.W.Frag} {mg : Str → Option Value} {base : Heap} {A : Ad} (T : Txt K mg A) : FnOk P w K mg base CX0 3 A.f_Agreement_clause A.d_Agreement_clause ["self", "told"] (sp_Agreement_clause A K) := by
  refine T.F_Agreement_clause.ok sc_Agreement_clause (fun vs H Q E h => ?_) (fun cdv A1 outer s H vs Q E hr h => ?_)
  · obtain ⟨R, g, st, n, ta, c, rfl, _⟩ := h
    rfl
  · obtain ⟨R, g, st, n, ta, c, rfl, hA, hR, hta, k⟩ := h
    have hgs := (KS.step_good (s := some st) (c := .clause c) hA.goodS).1
    rw [step_clause] at k hgs
    obtain ⟨dx, ow, cl, vc, vp, x⟩ := id hA
    have h8 := x.good.cl
    refine ⟨_, (pss_cons (ps_if (pt_val (pe_fld (pv 0) rfl))
        (pss_one (ps_ret (pe_con_NOT_NOW T (by rfl))))
        pss_nil)
      (pss_cons (ps_if (pt_not (pt_val (pe_meth (hst := st_name) (pv 0) T.cl_Agreement T.m_Agreement_fits (ok_Agreement_fits T) (hr.mono (by decide)) (b_Agreement_fits T) .nil pass0 (pa_cons (hs := st_name) (pv 1) pa_nil))))
        (pss_one (ps_ret (pe_con_WRONG T (by rfl))))
        pss_nil)
      (pss_cons (ps_set (i := 2) sc_Agreement_clause.nd rfl (by first | exact Or.inl rfl | exact Or.inr rfl) (pe_callB (he := st_attr) call_len_seq (by rfl) T.no_len PySem.boot_len (pa_cons (hs := st_attr) (pe_fld (pv 0) rfl) pa_nil)))
      (pss_cons (ps_if (pt_cmpR op_ge (pv 2) (pe_con_MOST_CLAUSES T (by rfl)) (nomark _))
        (pss_one (ps_ret (pe_con_FULL T (by rfl))))
        pss_nil)
      (pss_cons (ps_expr (pe_bm PySem.F.plainAttrs_list PySem.F.slot_list_append PySem.F.type_list_append mt_append (pe_fld (pv 0) rfl) (pa_cons (hs := st_name) (pv 1) pa_nil)))
      (pss_one (ps_ret (pv 2)))))))), ?_⟩
    try dsimp only [cx_K]
    first | refine if_cutR (fun _ z => ⟨_, rfl, g, _, dx, _, _, rfl, x.obj, T.cl_Agreement, T.n_Agreement_gone, Agreement_get_gone, _, rfl, z⟩) (if_bl (fun c0 => ?_) fun c0 => ?_) | refine if_cut (fun _ z => ⟨_, rfl, g, _, dx, _, _, rfl, x.obj, T.cl_Agreement, T.n_Agreement_gone, Agreement_get_gone, _, rfl, z⟩) (if_bl (fun c0 => ?_) fun c0 => ?_) | refine ⟨_, rfl, g, _, dx, _, _, rfl, x.obj, T.cl_Agreement, T.n_Agreement_gone, Agreement_get_gone, _, rfl, if_bl (fun c0 => ?_) fun c0 => ?_⟩
    · rw [if_pos c0] at k
      exact k H (fun _ _ e _ => e) hA
    rw [if_neg (by rw [c0]; exact Bool.false_ne_true)] at k hgs
    refine ⟨_, rfl, g, dx, _, rfl, x.obj, Agr_no (by simp), _, rfl, g, ta, dx, ow, _, _, _, _, st.deal, c, rfl, x.obj, x.deal.own, x.good, hta, ?_⟩
    first | refine if_cutR (fun _ z => ⟨_, rfl, z⟩) (if_bl (fun c1 => ?_) fun c1 => ?_) | refine if_cut (fun _ z => ⟨_, rfl, z⟩) (if_bl (fun c1 => ?_) fun c1 => ?_) | refine ⟨_, rfl, if_bl (fun c1 => ?_) fun c1 => ?_⟩
    · rw [if_pos (by simpa using c1)] at k
      exact k H (fun _ _ e _ => e) hA
    rw [if_neg (by rw [Bool.not_eq_false'] at c1; rw [c1]; exact fun z => by cases z)] at k hgs
    obtain ⟨as, hcl⟩ := x.deal.cls
    have hal : (as.map V.ref).length = st.deal.clauses.length := by rw [List.length_map, hcl.len]
    refine ⟨_, rfl, g, _, dx, _, _, rfl, x.obj, T.cl_Agreement, T.n_Agreement_clauses, Agreement_get_clauses, cl, _, rfl, .inl (SqL.of hcl.lst), ?_⟩
    first | refine if_cutR (fun _ z => ⟨_, rfl, _, _, rfl, rfl, _, rfl, z⟩) (if_dec (fun c2 => ?_) fun c2 => ?_) | refine if_cut (fun _ z => ⟨_, rfl, _, _, rfl, rfl, _, rfl, z⟩) (if_dec (fun c2 => ?_) fun c2 => ?_) | refine ⟨_, rfl, _, _, rfl, rfl, _, rfl, if_dec (fun c2 => ?_) fun c2 => ?_⟩
    · rw [hal] at c2
      rw [if_pos (by omega)] at k
      exact k H (fun _ _ e _ => e) hA
    rw [hal] at c2
    rw [if_neg (by omega)] at k hgs
    refine ⟨_, rfl, g, _, dx, _, _, rfl, x.obj, T.cl_Agreement, T.n_Agreement_clauses, Agreement_get_clauses, .inl ⟨rfl, _, SqL.of hcl.lst⟩, _, rfl, cl, _, _, rfl, rfl, hcl.lst, by rw [hal]; exact size_lt (by omega), ?_⟩
    have ng : ∀ b o, H b = some o → b ≠ cl → (upd H cl (.lst (as.map V.ref ++ [.ref ta]))) b = some o := fun b o e nb => (upd_ne nb).trans e
    have hno : st.place = none := by
      cases e : st.place with
      | none => rfl
      | some y => rw [e] at c0; cases c0
    have ngc : ∀ {b : Addr} {c : Kp195.Clause}, ClauseAt A H b c → ClauseAt A (upd H cl (.lst (as.map V.ref ++ [.ref ta]))) b c := fun {b c} ⟨dx', e⟩ => ⟨dx', ng _ _ e (ne_of e hcl.lst (fun z => nomatch z))⟩
    have fin := k (upd H cl (.lst (as.map V.ref ++ [.ref ta]))) ((KeptR.same (Same.refl H)).at x.rc) ⟨dx, ow, cl, vc, vp, ⟨ng _ _ x.obj (ne_of x.obj hcl.lst (fun z => nomatch z)), ⟨ng _ _ x.deal.own x.two, as ++ [ta], by rw [upd_same, List.map_append]; rfl, by
        show (as ++ [ta]).length = (st.deal.clauses ++ [c]).length
        rw [List.length_append, List.length_append, hcl.len]
        rfl, at_snoc hcl.len (R := fun c a => ClauseAt A _ a c) (fun i c e => let ⟨a, e1, e2⟩ := hcl.at_ i c e; ⟨a, e1, ngc e2⟩) (ngc hta)⟩, hgs.1, by
        show GoneAt A R _ _ vc vp n st.place
        rw [hno]
        all_goals trivial, x.rg, x.ro, x.rc⟩⟩
    refine ⟨_, rfl, ?_⟩
    rw [hal]
    exact fin
theorem step_go (h : Kp195.House) : Kp195.step (some h) .go = (some { h with place := some (Kp195.first h.deal) }, Kp195.say 0) := rfl
noncomputable def sp_Agreement_go (A : Ad) (K : PySem.W.Frag) : Sp := fun vs H Q _ => ∃ R g st n, vs = [.ref g] ∧ AgrAt A R H g n (some st) ∧ There R H ∧
  ∀ H', KeptR R H H' → AgrAt A R H' g n (Kp195.step (some st) .go).1 → Q (.int (Kp195.step (some st) .go).2.num) H'
theorem ok_Agreement_go {P : Program} {w : World} {K : PySem.W.Frag} {mg : Str → Option Value} {base : Heap} {A : Ad} (T : Txt K mg A) : FnOk P w K mg base CX0 3 A.f_Agreement_go A.d_Agreement_go ["self"] (sp_Agreement_go A K) := by
  refine T.F_Agreement_go.ok sc_Agreement_go (fun vs H Q E h => ?_) (fun cdv A1 outer s H vs Q E hr h => ?_)
  · obtain ⟨R, g, st, n, rfl, _⟩ := h
    rfl
  · obtain ⟨R, g, st, n, rfl, hA, hR, k⟩ := h
    rw [step_go] at k
    obtain ⟨dx, ow, cl, vc, vp, x⟩ := id hA
    refine ⟨_, (pss_join (ps_if (pt_not (pt_val (pe_fld (pv 0) rfl)))
        (pss_one (ps_fld (pv 0) (pe_make (he := st_attr) T.M_Course (ok_Course_init T) (hr.mono (by decide)) rfl T.mg_Course (b_Course_init T) .nil pass0 (pa_cons (hs := st_attr) (pe_fld (pv 0) rfl) (pa_cons (hs := st_attr) (pe_fld (pv 0) rfl) (pa_cons (hs := st_attr) (pe_fld (pv 0) rfl) pa_nil)))) rfl))
        pss_nil)
      (pss_cons (ps_fld (pv 0) pe_bl rfl)
      (pss_cons (ps_fld (pv 0) (pe_meth0 (pe_fld (pv 0) rfl) T.cl_Course T.m_Course_first_place (ok_Course_first_place T) (hr.mono (by decide)) (b_Course_first_place T) .nil pass0) rfl)
      (pss_one (ps_ret (pe_con_DONE T (by rfl))))))), ?_⟩
    try dsimp only [cx_K]
    refine ⟨fun σ' H' => ∃ (c : CA) (vp' : V), σ' = [some (.ref g)] ∧ KeptR R H H' ∧ H' g = some (AgrO A dx (nv st.deal.parties) (.ref ow) (.ref cl) (.bl st.place.isSome) (.ref c.co) vp') ∧ DealAt A H' ow cl st.deal ∧ CourseAt A H' c st.deal n ∧ ¬ R c.kn ∧ ¬ R c.ow ∧ ¬ R c.cl, ?_, ?_⟩
    · first | refine if_cutR (fun _ z => ⟨_, rfl, g, _, dx, _, _, rfl, x.obj, T.cl_Agreement, T.n_Agreement_gone, Agreement_get_gone, _, rfl, z⟩) (if_bl (fun c0 => ?_) fun c0 => ?_) | refine if_cut (fun _ z => ⟨_, rfl, g, _, dx, _, _, rfl, x.obj, T.cl_Agreement, T.n_Agreement_gone, Agreement_get_gone, _, rfl, z⟩) (if_bl (fun c0 => ?_) fun c0 => ?_) | refine ⟨_, rfl, g, _, dx, _, _, rfl, x.obj, T.cl_Agreement, T.n_Agreement_gone, Agreement_get_gone, _, rfl, if_bl (fun c0 => ?_) fun c0 => ?_⟩
      · refine ⟨_, rfl, g, _, dx, _, _, rfl, x.obj, T.cl_Agreement, T.n_Agreement_parties, Agreement_get_parties, _, rfl, g, _, dx, _, _, rfl, x.obj, T.cl_Agreement, T.n_Agreement_owners, Agreement_get_owners, _, rfl, g, _, dx, _, _, rfl, x.obj, T.cl_Agreement, T.n_Agreement_clauses, Agreement_get_clauses, ?_⟩
        intro y dy hy hdy ny
        refine ⟨y, dy, _, _, _, rfl, upd_same, fun H1 kn h1 hkn h1k off => ⟨rfl, ?_⟩⟩
        have nky : kn ≠ y := fun z => by rw [z, upd_same] at hkn; cases hkn
        have nkd : kn ≠ dy := fun z => by rw [z, upd_ne ny, upd_same] at hkn; cases hkn
        have hknH : H kn = none := by
          rw [upd_ne nky, upd_ne nkd] at hkn
          exact hkn
        have s1 : Same H H1 := fun b o e => by
          have b1 : b ≠ y := ne_of_none e hy
          have b2 : b ≠ dy := ne_of_none e hdy
          have b3 : b ≠ kn := ne_of_none e hknH
          rw [off b b1 b3, upd_ne b1, upd_ne b2]
          exact e
        refine ⟨_, rfl, g, _, dx, _, rfl, s1 _ _ x.obj, T.cl_Agreement, T.n_Agreement_course, (by show 6 < 1000; decide), ?_⟩
        rw [Agreement_put_course]
        have hgy : g ≠ y := ne_of_none x.obj hy
        have hgk : g ≠ kn := ne_of_none x.obj hknH
        have up : ∀ b o, H1 b = some o → b ≠ g → (upd H1 g (AgrO A dx (nv st.deal.parties) (.ref ow) (.ref cl) (.bl st.place.isSome) (.ref y) vp)) b = some o := fun b o e nb => (upd_ne nb).trans e
        have hd1 : DealAt A (upd H1 g (AgrO A dx (nv st.deal.parties) (.ref ow) (.ref cl) (.bl st.place.isSome) (.ref y) vp)) ow cl st.deal := x.deal.keepIns (NG.same s1) (s1 _ _ x.obj) up
        refine ⟨⟨y, kn, ow, cl⟩, vp, rfl, (KeptR.same s1).at x.rg, upd_same, hd1, ⟨⟨dy, up _ _ h1 hgy.symm⟩, hd1, [], up _ _ h1k hgk.symm, Nat.zero_le _, fun p v e => by cases e⟩, hR.new hknH, x.ro, x.rc⟩
      · have hg := x.gone
        cases e : st.place with
        | none => rw [e] at c0; cases c0
        | some y =>
          rw [e] at hg
          obtain ⟨_, c, pl, e1, e2, e3, e4, e5⟩ := hg
          refine ⟨c, vp, rfl, fun _ _ e _ => e, ?_, x.deal, e3, e5⟩
          rw [← e1]
          have := x.obj
          rw [e] at this
          exact this
    · rintro σ' H1 ⟨c, vp', rfl, r1, h1, hd1, hc1, hRk⟩
      refine ⟨_, rfl, g, _, dx, _, rfl, h1, T.cl_Agreement, T.n_Agreement_gone, (by show 6 < 1000; decide), ?_⟩
      rw [Agreement_put_gone]
      have up1 : ∀ b o, H1 b = some o → b ≠ g → (upd H1 g (AgrO A dx (nv st.deal.parties) (.ref ow) (.ref cl) (.bl true) (.ref c.co) vp')) b = some o := fun b o e nb => (upd_ne nb).trans e
      have hc2 : CourseAt A (upd H1 g (AgrO A dx (nv st.deal.parties) (.ref ow) (.ref cl) (.bl true) (.ref c.co) vp')) c st.deal n := hc1.keepIns h1 up1
      have hd2 : DealAt A (upd H1 g (AgrO A dx (nv st.deal.parties) (.ref ow) (.ref cl) (.bl true) (.ref c.co) vp')) ow cl st.deal := hd1.keepIns (fun _ _ e _ => e) h1 up1
      obtain ⟨dxc, hoc⟩ := hc2.obj
      refine ⟨_, rfl, g, _, dx, _, _, rfl, upd_same, T.cl_Agreement, T.n_Agreement_course, Agreement_get_course, c.co, dxc, _, rfl, hoc, Course_no' (.inl rfl), c, st.deal, n, rfl, hc2, x.good.cl, fun H3 pl s3 hpl => ?_⟩
      have h3 := s3 _ _ (upd_same (H := H1) (a := g) (o := AgrO A dx (nv st.deal.parties) (.ref ow) (.ref cl) (.bl true) (.ref c.co) vp'))
      refine ⟨_, rfl, g, _, dx, _, rfl, h3, T.cl_Agreement, T.n_Agreement_place, (by show 6 < 1000; decide), ?_⟩
      rw [Agreement_put_place]
      have up3 : ∀ b o, H3 b = some o → b ≠ g → (upd H3 g (AgrO A dx (nv st.deal.parties) (.ref ow) (.ref cl) (.bl true) (.ref c.co) (.ref pl))) b = some o := fun b o e nb => (upd_ne nb).trans e
      refine k _ (((r1.at x.rg).trans (KeptR.same s3)).at x.rg) ⟨dx, ow, cl, .ref c.co, .ref pl, ⟨upd_same, (hd2.keep (NG.same s3)).keepIns (fun _ _ e _ => e) h3 up3, x.good, ⟨KS.first_good x.good, c, pl, rfl, rfl, (hc2.same s3).keepIns h3 up3, ?_, hRk⟩, x.rg, x.ro, x.rc⟩⟩
      exact up3 _ _ hpl (ne_of hpl h3 (fun z => nomatch z))
end KT

namespace KT
open PySem PySem.Spec PyProof.Rows L2
open Kp195 (Deal)
noncomputable def ansL (a : Kp195.Ans) : List V := V.int a.num :: nvs a.nums
theorem HouseAt.after {A : Ad} {R : Addr → Prop} {H H' : Hp} {g : Addr} {st : Kp195.House} {n m : Nat} {dx ow cl pl : Addr} {c : CA} {x : Pl} (h : HouseAt A R H g st n dx ow cl (.ref c.co) (.ref pl)) (hp : st.place = some x) (gp : KS.GoodPlace st.deal x)
    (hpl : PlAt H pl x) (hRk : ¬ R c.kn ∧ ¬ R c.ow ∧ ¬ R c.cl) (ng : NG H H') (hc : CourseAt A H' c st.deal m) : AgrAt A R H' g m (some st) :=
  ⟨dx, ow, cl, .ref c.co, .ref pl, ⟨ng _ _ h.obj rfl, h.deal.keep ng, h.good, by rw [hp]; exact ⟨gp, c, pl, rfl, rfl, hc, ng _ _ hpl rfl, hRk⟩, h.rg, h.ro, h.rc⟩⟩
theorem step_do0 {h : Kp195.House} (hp : h.place = none) (p a : Nat) : Kp195.step (some h) (.do_ p a) = (some h, Kp195.say (-16)) := by
  show (match h.place with
        | none => (some h, Kp195.say (-16))
        | some x => if x.turn ≠ p then (some h, Kp195.say (-1)) else if (Kp195.moves h.deal x).contains a = false then (some h, Kp195.say (-22)) else
            let y := Kp195.move h.deal x a
            let w := Kp195.rising h.deal.parties y.2
            (some { h with place := some y.1 }, (⟨(w.length : Int), w⟩ : Kp195.Ans))) = _
  rw [hp]
theorem step_do {h : Kp195.House} {x : Pl} (hp : h.place = some x) (p a : Nat) : Kp195.step (some h) (.do_ p a) = if x.turn ≠ p then (some h, Kp195.say (-1)) else if (Kp195.moves h.deal x).contains a = false then (some h, Kp195.say (-22)) else
    (some { h with place := some (Kp195.move h.deal x a).1 }, ⟨((Kp195.rising h.deal.parties (Kp195.move h.deal x a).2).length : Int), Kp195.rising h.deal.parties (Kp195.move h.deal x a).2⟩) := by
  show (match h.place with
        | none => (some h, Kp195.say (-16))
        | some x => if x.turn ≠ p then (some h, Kp195.say (-1)) else if (Kp195.moves h.deal x).contains a = false then (some h, Kp195.say (-22)) else
            let y := Kp195.move h.deal x a
            let w := Kp195.rising h.deal.parties y.2
            (some { h with place := some y.1 }, (⟨(w.length : Int), w⟩ : Kp195.Ans))) = _
  rw [hp]
noncomputable def sp_Agreement_do (A : Ad) (K : PySem.W.Frag) : Sp := fun vs H Q _ => ∃ R g st n p a, vs = [.ref g, nv p, nv a] ∧ AgrAt A R H g n (some st) ∧ There R H ∧
  ∀ H' l, KeptR R H H' → AgrAt A R H' g n (Kp195.step (some st) (.do_ p a)).1 → H' l = some (.lst (ansL (Kp195.step (some st) (.do_ p a)).2)) → ¬ R l → l ≠ g → Q (.ref l) H'
theorem ok_Agreement_do {P : Program} {w : World} {K : PySem.W.Frag} {mg : Str → Option Value} {base : Heap} {A : Ad} (T : Txt K mg A) : FnOk P w K mg base CX0 5 A.f_Agreement_do A.d_Agreement_do ["self", "p", "a"] (sp_Agreement_do A K) := by
  refine T.F_Agreement_do.ok sc_Agreement_do (fun vs H Q E h => ?_) (fun cdv A1 outer s H vs Q E hr h => ?_)
  · obtain ⟨R, g, st, n, p, a, rfl, _⟩ := h
    rfl
  · obtain ⟨R, g, st, n, p, a, rfl, hA, hR, k⟩ := h
    obtain ⟨dx, ow, cl, vc, vp, x⟩ := id hA
    -- a refusal, from a heap that has but grown
    have refuse : ∀ (z : Int), Kp195.step (some st) (.do_ p a) = (some st, Kp195.say z) → ∀ H1, Same H H1 → ∀ l, H1 l = none → Q (.ref l) (upd H1 l (.lst [V.int z])) := fun z e H1 s1 l hl => by
      rw [e] at k
      exact k _ l (KeptR.same (s1.new hl)) (hA.same (s1.new hl)) upd_same (hR.new (s1.free hl)) (fun w => by rw [← w] at x; rw [s1 _ _ x.obj] at hl; cases hl)
    refine ⟨_, (pss_cons (ps_if (pt_not (pt_val (pe_fld (pv 0) rfl)))
        (pss_one (ps_ret (pe_lst (pa_cons (hs := st_name) (pe_con_NOT_NOW T (by rfl)) pa_nil))))
        pss_nil)
      (pss_cons (ps_if (pt_cmpR op_ne (pv 1) (pe_ix ix_tup (pe_fld (pv 0) rfl) pe_int (fun _ _ => rfl)) (nomark _))
        (pss_one (ps_ret (pe_lst (pa_cons (hs := st_name) (pe_con_NOT_THEIR_TURN T (by rfl)) pa_nil))))
        pss_nil)
      (pss_cons (ps_if (pt_cmpR op_notIn_seq (pv 2) (pe_meth (hst := st_name) (pe_fld (pv 0) rfl) T.cl_Course T.m_Course_moves (ok_Course_moves T) (hr.mono (by decide)) (b_Course_moves T) .nil pass0 (pa_cons (hs := st_name) (pv 1) pa_nil)) (by with_unfolding_all rfl))
        (pss_one (ps_ret (pe_lst (pa_cons (hs := st_name) (pe_con_WRONG T (by rfl)) pa_nil))))
        pss_nil)
      (pss_cons (ps_set (i := 3) sc_Agreement_do.nd rfl (by first | exact Or.inl rfl | exact Or.inr rfl) (pe_meth (hst := st_attr) (pe_fld (pv 0) rfl) T.cl_Course T.m_Course_outcome (ok_Course_outcome T) (hr.mono (by decide)) (b_Course_outcome T) .nil pass0 (pa_cons (hs := st_attr) (pe_fld (pv 0) rfl) (pa_cons (hs := st_name) (pv 2) pa_nil))))
      (pss_cons (ps_fld (pv 0) (pe_fld (pv 3) rfl) rfl)
      (pss_one (ps_ret (pe_op op_cat (pe_lst (pa_cons (hs := st_call) (pe_callB (he := st_attr) call_len_seq (by rfl) T.no_len PySem.boot_len (pa_cons (hs := st_attr) (pe_fld (pv 3) rfl) pa_nil)) pa_nil)) (pe_callTy (he := st_attr) call_list_of (by rfl) T.no_list boot_list_ (pa_cons (hs := st_attr) (pe_fld (pv 3) rfl) pa_nil)))))))))), ?_⟩
    try dsimp only [cx_K]
    first | refine if_cutR (fun _ z => ⟨_, rfl, g, _, dx, _, _, rfl, x.obj, T.cl_Agreement, T.n_Agreement_gone, Agreement_get_gone, _, rfl, z⟩) (if_bl (fun c0 => ?_) fun c0 => ?_) | refine if_cut (fun _ z => ⟨_, rfl, g, _, dx, _, _, rfl, x.obj, T.cl_Agreement, T.n_Agreement_gone, Agreement_get_gone, _, rfl, z⟩) (if_bl (fun c0 => ?_) fun c0 => ?_) | refine ⟨_, rfl, g, _, dx, _, _, rfl, x.obj, T.cl_Agreement, T.n_Agreement_gone, Agreement_get_gone, _, rfl, if_bl (fun c0 => ?_) fun c0 => ?_⟩
    · have hno : st.place = none := by
        cases e : st.place with
        | none => rfl
        | some y => rw [e] at c0; cases c0
      exact ⟨(by show 1 ≤ sizeLine; decide), fun l hl => refuse _ (step_do0 hno p a) H (Same.refl H) l hl⟩
    obtain ⟨y, hy⟩ : ∃ y, st.place = some y := by
      cases e : st.place with
      | none => rw [e] at c0; cases c0
      | some y => exact ⟨y, rfl⟩
    have hgone := x.gone
    rw [hy] at hgone
    obtain ⟨gp, c, pl, rfl, rfl, hc, hpl, hRk⟩ := hgone
    have hst := step_do hy p a
    have hplt : H pl = some (.tup (nv y.turn :: nvs y.left)) := hpl
    first | refine if_cutR (fun _ z => ⟨_, rfl, _, rfl, g, _, dx, _, _, rfl, x.obj, T.cl_Agreement, T.n_Agreement_place, Agreement_get_place, pl, _, _, _, rfl, rfl, SqT.of hplt, atI_nat (j := 0) (v := nv y.turn) rfl, rfl, _, rfl, z⟩) (if_ne (fun c1 => ?_) fun c1 => ?_) | refine if_cut (fun _ z => ⟨_, rfl, _, rfl, g, _, dx, _, _, rfl, x.obj, T.cl_Agreement, T.n_Agreement_place, Agreement_get_place, pl, _, _, _, rfl, rfl, SqT.of hplt, atI_nat (j := 0) (v := nv y.turn) rfl, rfl, _, rfl, z⟩) (if_ne (fun c1 => ?_) fun c1 => ?_) | refine ⟨_, rfl, _, rfl, g, _, dx, _, _, rfl, x.obj, T.cl_Agreement, T.n_Agreement_place, Agreement_get_place, pl, _, _, _, rfl, rfl, SqT.of hplt, atI_nat (j := 0) (v := nv y.turn) rfl, rfl, _, rfl, if_ne (fun c1 => ?_) fun c1 => ?_⟩
    · rw [if_pos (by omega)] at hst
      exact ⟨(by show 1 ≤ sizeLine; decide), fun l hl => refuse _ hst H (Same.refl H) l hl⟩
    have c1 : y.turn = p := by omega
    rw [if_neg (by rw [c1]; exact fun z => z rfl)] at hst
    obtain ⟨dxc, hoc⟩ := hc.obj
    refine ⟨_, rfl, _, rfl, g, _, dx, _, _, rfl, x.obj, T.cl_Agreement, T.n_Agreement_course, Agreement_get_course, c.co, dxc, _, rfl, hoc, Course_no' (.inr (.inl rfl)), _, rfl, c, st.deal, n, p, rfl, hc, x.good, fun H1 ml s1 hml h1 => ?_⟩
    refine ⟨ml, _, rfl, .inl (SqL.of h1), rfl, nvs_flat _, _, rfl, ?_⟩
    have hmv : movesT st.deal p = Kp195.moves st.deal y := by rw [moves_eq, c1]
    show if (!inV (nv a) (nvs (movesT st.deal p))) = true then _ else _
    rw [nvs_in, hmv]
    refine if_bl (fun c2 => ?_) fun c2 => ?_
    · rw [if_pos (by simpa using c2)] at hst
      exact ⟨(by show 1 ≤ sizeLine; decide), fun l hl => refuse _ hst H1 s1 l hl⟩
    rw [if_neg (by rw [Bool.not_eq_false'] at c2; rw [c2]; exact fun z => by cases z)] at hst
    rw [hst] at k
    refine ⟨_, rfl, g, _, dx, _, _, rfl, s1 _ _ x.obj, T.cl_Agreement, T.n_Agreement_course, Agreement_get_course, c.co, dxc, _, rfl, s1 _ _ hoc, Course_no' (.inr (.inr (.inl rfl))), _, rfl, g, _, dx, _, _, rfl, s1 _ _ x.obj, T.cl_Agreement, T.n_Agreement_place, Agreement_get_place, _, rfl,
      c, pl, st.deal, n, y, a, rfl, hc.same s1, x.good, gp, s1 _ _ hpl, fun H2 o s2 ho2 hon => ?_⟩
    obtain ⟨dxo, pa, ba, e1, e2, e3⟩ := id ho2
    have s12 := s1.trans s2
    refine ⟨_, rfl, o, _, dxo, _, _, rfl, e1, T.cl_Outcome, T.n_Outcome_place, Outcome_get_place, _, rfl, g, _, dx, _, rfl, s12 _ _ x.obj, T.cl_Agreement, T.n_Agreement_place, (by show 6 < 1000; decide), ?_⟩
    rw [Agreement_put_place]
    have h2g := s12 _ _ x.obj
    have up : ∀ b o, H2 b = some o → b ≠ g → (upd H2 g (AgrO A dx (nv st.deal.parties) (.ref ow) (.ref cl) (.bl st.place.isSome) (.ref c.co) (.ref pa))) b = some o := fun b o e nb => (upd_ne nb).trans e
    have hba := up _ _ e3 (ne_of e3 h2g (fun z => nomatch z))
    have hob := up _ _ e1 (ne_of e1 h2g ou_ag)
    refine ⟨_, rfl, o, _, dxo, _, _, rfl, hob, T.cl_Outcome, T.n_Outcome_broke, Outcome_get_broke, ba, _, rfl, .inr (SqT.of hba), (by show 1 ≤ sizeLine; decide), fun l1 hl1 => ?_⟩
    have s3 : Same (upd H2 g (AgrO A dx (nv st.deal.parties) (.ref ow) (.ref cl) (.bl st.place.isSome) (.ref c.co) (.ref pa))) (upd (upd H2 g (AgrO A dx (nv st.deal.parties) (.ref ow) (.ref cl) (.bl st.place.isSome) (.ref c.co) (.ref pa))) l1 (.lst [V.int (nvs (KL.bring st.deal y a).2).length])) := (Same.refl _).new hl1
    refine ⟨_, rfl, o, _, dxo, _, _, rfl, s3 _ _ hob, T.cl_Outcome, T.n_Outcome_broke, Outcome_get_broke, ba, _, rfl, .inr (SqT.of (s3 _ _ hba)), fun l2 hl2 => ?_⟩
    have s4 := s3.new (o := .lst (nvs (KL.bring st.deal y a).2)) hl2
    refine ⟨l1, l2, _, _, rfl, rfl, (upd_ne (ne_of_none upd_same hl2)).trans upd_same, upd_same, ?_, fun l3 hl3 => ?_⟩
    · rw [nvs_len]
      have := KS.rising_len st.deal.parties (Kp195.move st.deal y a).2
      have := x.good.p4
      refine Nat.le_of_lt (size_lt ?_)
      show 1 + (Kp195.rising st.deal.parties (Kp195.move st.deal y a).2).length < 1000000
      omega
    have s5 := s4.new (o := .lst ([V.int (nvs (KL.bring st.deal y a).2).length] ++ nvs (KL.bring st.deal y a).2)) hl3
    have hR3 : ¬ R l3 := ((hR.keep ((KeptR.same s12).at x.rg)).keep (KeptR.same s4)).new hl3
    have hcN : CourseAt A (upd H2 g (AgrO A dx (nv st.deal.parties) (.ref ow) (.ref cl) (.bl st.place.isSome) (.ref c.co) (.ref pa))) c st.deal n := (hc.same s12).keepIns h2g up
    refine k _ l3 (((KeptR.same s12).at x.rg).trans (KeptR.same s5)) ⟨dx, ow, cl, .ref c.co, .ref pa, ⟨?_, ?_, x.good, ⟨KS.move_good x.good gp a, c, pa, rfl, rfl, hcN.same s5, s5 _ _ (up _ _ e2 (ne_of e2 h2g (fun z => nomatch z))), hRk⟩, x.rg, x.ro, x.rc⟩⟩ ?_ hR3 ?_
    · have := s5 _ _ (upd_same (H := H2) (a := g) (o := AgrO A dx (nv st.deal.parties) (.ref ow) (.ref cl) (.bl st.place.isSome) (.ref c.co) (.ref pa)))
      refine this.trans ?_
      rw [hy]
      all_goals rfl
    · exact (((x.deal.keep (NG.same s12)).keepIns (fun _ _ e _ => e) h2g up)).keep (NG.same s5)
    · rw [upd_same, nvs_len]
      rfl
    · intro w
      rw [w, s4 _ _ upd_same] at hl3
      cases hl3
theorem step_owed0 {h : Kp195.House} (hp : h.place = none) : Kp195.step (some h) .owed = (some h, Kp195.say (-16)) := by
  show (some h, match h.place with
        | none => Kp195.say (-16)
        | some x => (⟨(x.turn : Int), x.left⟩ : Kp195.Ans)) = _
  rw [hp]
theorem step_owed {h : Kp195.House} {x : Pl} (hp : h.place = some x) : Kp195.step (some h) .owed = (some h, ⟨(x.turn : Int), x.left⟩) := by
  show (some h, match h.place with
        | none => Kp195.say (-16)
        | some x => (⟨(x.turn : Int), x.left⟩ : Kp195.Ans)) = _
  rw [hp]
noncomputable def sp_Agreement_owed (A : Ad) (K : PySem.W.Frag) : Sp := fun vs H Q _ => ∃ R g st n, vs = [.ref g] ∧ AgrAt A R H g n (some st) ∧ There R H ∧
  ∀ H' l, KeptR R H H' → AgrAt A R H' g n (Kp195.step (some st) .owed).1 → H' l = some (.lst (ansL (Kp195.step (some st) .owed).2)) → ¬ R l → l ≠ g → Q (.ref l) H'
theorem ok_Agreement_owed {P : Program} {w : World} {K : PySem.W.Frag} {mg : Str → Option Value} {base : Heap} {A : Ad} (T : Txt K mg A) : FnOk P w K mg base CX0 1 A.f_Agreement_owed A.d_Agreement_owed ["self"] (sp_Agreement_owed A K) := by
  refine T.F_Agreement_owed.ok sc_Agreement_owed (fun vs H Q E h => ?_) (fun cdv A1 outer s H vs Q E hr h => ?_)
  · obtain ⟨R, g, st, n, rfl, _⟩ := h
    rfl
  · obtain ⟨R, g, st, n, rfl, hA, hR, k⟩ := h
    obtain ⟨dx, ow, cl, vc, vp, x⟩ := id hA
    refine ⟨_, (pss_cons (ps_if (pt_not (pt_val (pe_fld (pv 0) rfl)))
        (pss_one (ps_ret (pe_lst (pa_cons (hs := st_name) (pe_con_NOT_NOW T (by rfl)) pa_nil))))
        pss_nil)
      (pss_one (ps_ret (pe_callTy (he := st_attr) call_list_of (by rfl) T.no_list boot_list_ (pa_cons (hs := st_attr) (pe_fld (pv 0) rfl) pa_nil))))), ?_⟩
    try dsimp only [cx_K]
    have fin : ∀ a, Kp195.step (some st) .owed = (some st, a) → ∀ l, H l = none → Q (.ref l) (upd H l (.lst (ansL a))) := fun a e l hl => by
      rw [e] at k
      have s1 : Same H (upd H l (.lst (ansL a))) := (Same.refl H).new hl
      exact k _ l (KeptR.same s1) (hA.same s1) upd_same (hR.new hl) (fun w => by rw [← w] at x; rw [x.obj] at hl; cases hl)
    first | refine if_cutR (fun _ z => ⟨_, rfl, g, _, dx, _, _, rfl, x.obj, T.cl_Agreement, T.n_Agreement_gone, Agreement_get_gone, _, rfl, z⟩) (if_bl (fun c0 => ?_) fun c0 => ?_) | refine if_cut (fun _ z => ⟨_, rfl, g, _, dx, _, _, rfl, x.obj, T.cl_Agreement, T.n_Agreement_gone, Agreement_get_gone, _, rfl, z⟩) (if_bl (fun c0 => ?_) fun c0 => ?_) | refine ⟨_, rfl, g, _, dx, _, _, rfl, x.obj, T.cl_Agreement, T.n_Agreement_gone, Agreement_get_gone, _, rfl, if_bl (fun c0 => ?_) fun c0 => ?_⟩
    · have hno : st.place = none := by
        cases e : st.place with
        | none => rfl
        | some y => rw [e] at c0; cases c0
      exact ⟨(by show 1 ≤ sizeLine; decide), fun l hl => fin _ (step_owed0 hno) l hl⟩
    obtain ⟨y, hy⟩ : ∃ y, st.place = some y := by
      cases e : st.place with
      | none => rw [e] at c0; cases c0
      | some y => exact ⟨y, rfl⟩
    have hgone := x.gone
    rw [hy] at hgone
    obtain ⟨gp, c, pl, rfl, rfl, hc, hpl, hRk⟩ := hgone
    exact ⟨_, rfl, g, _, dx, _, _, rfl, x.obj, T.cl_Agreement, T.n_Agreement_place, Agreement_get_place, pl, _, rfl, .inr (SqT.of hpl), fun l hl => fin _ (step_owed hy) l hl⟩
theorem step_can0 {h : Kp195.House} (hp : h.place = none) (p : Nat) : Kp195.step (some h) (.can p) = (some h, Kp195.say (-16)) := by
  show (some h, match h.place with
        | none => Kp195.say (-16)
        | some x => if h.deal.parties ≤ p then Kp195.say (-22) else match Kp195.safePlaces h.deal p x with
          | none => Kp195.say (-75)
          | some t => Kp195.say (if Kp195.isSafe t x then 1 else 0)) = _
  rw [hp]
noncomputable def sp_Agreement_can (A : Ad) (K : PySem.W.Frag) : Sp := fun vs H Q _ => ∃ R g st n p, vs = [.ref g, nv p] ∧ AgrAt A R H g n (some st) ∧ There R H ∧ n < 600000 ∧
  ∀ H', KeptR R H H' → AgrAt A R H' g (n + 1000) (Kp195.step (some st) (.can p)).1 → Q (.int (Kp195.step (some st) (.can p)).2.num) H'
theorem ok_Agreement_can {P : Program} {w : World} {K : PySem.W.Frag} {mg : Str → Option Value} {base : Heap} {A : Ad} (T : Txt K mg A) : FnOk P w K mg base CX0 9 A.f_Agreement_can A.d_Agreement_can ["self", "p"] (sp_Agreement_can A K) := by
  refine T.F_Agreement_can.ok sc_Agreement_can (fun vs H Q E h => ?_) (fun cdv A1 outer s H vs Q E hr h => ?_)
  · obtain ⟨R, g, st, n, p, rfl, _⟩ := h
    rfl
  · obtain ⟨R, g, st, n, p, rfl, hA, hR, hn, k⟩ := h
    obtain ⟨dx, ow, cl, vc, vp, x⟩ := id hA
    have fin : ∀ z, Kp195.step (some st) (.can p) = (some st, Kp195.say z) → ∀ H', KeptR R H H' → AgrAt A R H' g (n + 1000) (some st) → Q (.int z) H' := fun z e H' r a => by
      rw [e] at k
      exact k H' r a
    have refuse : ∀ z, Kp195.step (some st) (.can p) = (some st, Kp195.say z) → Q (.int z) H := fun z e => fin z e H (fun _ _ e _ => e) (hA.more (by omega))
    refine ⟨_, (pss_cons (ps_if (pt_not (pt_val (pe_fld (pv 0) rfl)))
        (pss_one (ps_ret (pe_con_NOT_NOW T (by rfl))))
        pss_nil)
      (pss_cons (ps_if (pt_cmpR op_ge (pv 1) (pe_fld (pv 0) rfl) (nomark _))
        (pss_one (ps_ret (pe_con_WRONG T (by rfl))))
        pss_nil)
      (pss_cons (ps_set (i := 2) sc_Agreement_can.nd rfl (by first | exact Or.inl rfl | exact Or.inr rfl) (pe_call (he := st_attr) (ok_places_from T) (hr.mono (by decide)) rfl T.mg_places_from T.F_places_from.kp (b_places_from T) .nil pass0 (pa_cons (hs := st_attr) (pe_fld (pv 0) rfl) (pa_cons (hs := st_attr) (pe_fld (pv 0) rfl) pa_nil))))
      (pss_cons (ps_if (pt_cmp (pc_isN (pv 2)))
        (pss_one (ps_ret (pe_con_TOO_MANY T (by rfl))))
        pss_nil)
      (pss_one (ps_ret (pe_ifExp (pt_cmp (pc_gin (hu4 hr) (pe_fld (pv 0) rfl) (pe_call (he := st_attr) (ok_lost_places T) (hr.mono (by decide)) rfl T.mg_lost_places T.F_lost_places.kp (b_lost_places T) .nil pass0 (pa_cons (hs := st_attr) (pe_fld (pv 0) rfl) (pa_cons (hs := st_name) (pv 2) (pa_cons (hs := st_name) (pv 1) pa_nil))))) (by with_unfolding_all rfl)) pe_int pe_int))))))), ?_⟩
    try dsimp only [cx_K]
    first | refine if_cutR (fun _ z => ⟨_, rfl, g, _, dx, _, _, rfl, x.obj, T.cl_Agreement, T.n_Agreement_gone, Agreement_get_gone, _, rfl, z⟩) (if_bl (fun c0 => ?_) fun c0 => ?_) | refine if_cut (fun _ z => ⟨_, rfl, g, _, dx, _, _, rfl, x.obj, T.cl_Agreement, T.n_Agreement_gone, Agreement_get_gone, _, rfl, z⟩) (if_bl (fun c0 => ?_) fun c0 => ?_) | refine ⟨_, rfl, g, _, dx, _, _, rfl, x.obj, T.cl_Agreement, T.n_Agreement_gone, Agreement_get_gone, _, rfl, if_bl (fun c0 => ?_) fun c0 => ?_⟩
    · have hno : st.place = none := by
        cases e : st.place with
        | none => rfl
        | some y => rw [e] at c0; cases c0
      exact refuse _ (step_can0 hno p)
    obtain ⟨y, hy⟩ : ∃ y, st.place = some y := by
      cases e : st.place with
      | none => rw [e] at c0; cases c0
      | some y => exact ⟨y, rfl⟩
    have hgone := x.gone
    rw [hy] at hgone
    obtain ⟨gp, c, pl, rfl, rfl, hc, hpl, hRk⟩ := hgone
    first | refine if_cutR (fun _ z => ⟨_, rfl, _, rfl, g, _, dx, _, _, rfl, x.obj, T.cl_Agreement, T.n_Agreement_parties, Agreement_get_parties, _, _, rfl, rfl, _, rfl, z⟩) (if_dec (fun c1 => ?_) fun c1 => ?_) | refine if_cut (fun _ z => ⟨_, rfl, _, rfl, g, _, dx, _, _, rfl, x.obj, T.cl_Agreement, T.n_Agreement_parties, Agreement_get_parties, _, _, rfl, rfl, _, rfl, z⟩) (if_dec (fun c1 => ?_) fun c1 => ?_) | refine ⟨_, rfl, _, rfl, g, _, dx, _, _, rfl, x.obj, T.cl_Agreement, T.n_Agreement_parties, Agreement_get_parties, _, _, rfl, rfl, _, rfl, if_dec (fun c1 => ?_) fun c1 => ?_⟩
    · exact refuse _ (by rw [KA.can_step hy, if_pos (by omega)])
    have hp : p < st.deal.parties := by omega
    refine ⟨_, rfl, g, _, dx, _, _, rfl, x.obj, T.cl_Agreement, T.n_Agreement_course, Agreement_get_course, _, rfl, g, _, dx, _, _, rfl, x.obj, T.cl_Agreement, T.n_Agreement_place, Agreement_get_place,
      c, pl, st.deal, n, y, rfl, hc, x.good, gp, hpl, by omega, fun H1 k1 hc1 tm => ?_, fun H1 l L as k1 hc1 hL hcl hnd hyL h300 hre hlH => ?_⟩
    · refine ⟨_, rfl, _, rfl, if_dec (fun _ => ?_) fun z => absurd rfl z⟩
      exact fin _ (KA.can_many hy hp tm) H1 (KeptR.kept k1 hRk.1) ((x.after hy gp hpl hRk (hc.ng k1) hc1).more (by omega))
    · have ng1 := hc.ng k1
      refine ⟨_, rfl, _, rfl, if_dec (fun z => nomatch z) fun _ => ?_⟩
      refine ⟨_, rfl, g, _, dx, _, _, rfl, ng1 _ _ x.obj rfl, T.cl_Agreement, T.n_Agreement_place, Agreement_get_place, _, rfl, g, _, dx, _, _, rfl, ng1 _ _ x.obj rfl, T.cl_Agreement, T.n_Agreement_course, Agreement_get_course, _, rfl, _, rfl,
        c, l, st.deal, n + 300, L, as, p, rfl, hc1, x.good, hL, (fun q hq => reach_good x.good gp (hre q hq)), hcl, hnd, h300, by omega, hp, fun H2 ld lost k2 hc2 hld hfin hnone hldn => ?_⟩
      have ng2 := ng1.trans (hc1.ng k2)
      refine ⟨ld, _, ek (some y), rfl, hld, PlAt.ga (ng2 _ _ hpl rfl), _, rfl, ?_⟩
      rw [loK_val]
      have hend := fun z e => fin z e H2 ((KeptR.kept k1 hRk.1).trans (KeptR.kept k2 hRk.1)) ((x.after hy gp hpl hRk ng2 hc2).more (by omega))
      obtain ⟨f1, f2⟩ := KA.can_few hy hp hcl hyL h300
      refine if_dec (fun hin => ?_) fun hin => ?_
      · exact hend _ (f2 (fun q => ((hfin y hyL).mpr q) hin))
      · exact hend _ (f1 ((hfin y hyL).mp hin))
theorem step_best0 {h : Kp195.House} (hp : h.place = none) : Kp195.step (some h) .best = (some h, Kp195.say (-16)) := by
  show (some h, match h.place with
        | none => Kp195.say (-16)
        | some x => match Kp195.safePlaces h.deal x.turn x with
          | none => Kp195.say (-75)
          | some t => match (Kp195.moves h.deal x).find? fun m => !((Kp195.move h.deal x m).2.contains x.turn) && Kp195.isSafe t (Kp195.move h.deal x m).1 with
            | none => Kp195.say (-33)
            | some m => Kp195.say (m : Int)) = _
  rw [hp]
noncomputable def keepsP (x : Nat) (lost : List (Option Pl)) (b : Pl × List Nat) : Bool := !decide ((if x ∈ b.2 then none else some b.1) ∈ lost)
theorem keepsB_eq (d : Deal) (x : Nat) (q : Pl) (lost : List (Option Pl)) : keepsB d x q lost = fun m => keepsP x lost (KL.bring d q m) := rfl
theorem keepsB_good {d : Deal} {x : Nat} (hx : x < d.parties) {L : List Pl} {q : Pl} (hq : q ∈ L) (hc : KM.ClosedL d L) {lost : List (Option Pl)} (hf : ∀ q ∈ L, some q ∉ lost ↔ KM.CanKeep d x q) (hn : none ∈ lost) {m : Nat} (hm : m ∈ Kp195.moves d q) :
    keepsB d x q lost m = true ↔ KA.GoodMove d x q m := by
  unfold keepsB KL.endOf KA.GoodMove
  rw [Bool.not_eq_true', decide_eq_false_iff_not]
  split
  · rename_i h
    rw [KL.not_mem_rising hx] at h
    exact ⟨fun z => absurd hn z, fun z => absurd h z.1⟩
  · rename_i h
    rw [KL.not_mem_rising hx] at h
    rw [hf _ (hc q hq m hm)]
    exact ⟨fun z => ⟨h, z⟩, fun z => z.2⟩
noncomputable def sp_Agreement_best (A : Ad) (K : PySem.W.Frag) : Sp := fun vs H Q _ => ∃ R g st n, vs = [.ref g] ∧ AgrAt A R H g n (some st) ∧ There R H ∧ n < 600000 ∧
  ∀ H', KeptR R H H' → AgrAt A R H' g (n + 1000) (Kp195.step (some st) .best).1 → Q (.int (Kp195.step (some st) .best).2.num) H'
theorem ok_Agreement_best {P : Program} {w : World} {K : PySem.W.Frag} {mg : Str → Option Value} {base : Heap} {A : Ad} (T : Txt K mg A) : FnOk P w K mg base CX0 9 A.f_Agreement_best A.d_Agreement_best ["self"] (sp_Agreement_best A K) := by
  refine T.F_Agreement_best.ok sc_Agreement_best (fun vs H Q E h => ?_) (fun cdv A1 outer s H vs Q E hr h => ?_)
  · obtain ⟨R, g, st, n, rfl, _⟩ := h
    rfl
  · obtain ⟨R, g, st, n, rfl, hA, hR, hn, k⟩ := h
    obtain ⟨dx, ow, cl, vc, vp, x⟩ := id hA
    have fin : ∀ z, Kp195.step (some st) .best = (some st, Kp195.say z) → ∀ H', KeptR R H H' → AgrAt A R H' g (n + 1000) (some st) → Q (.int z) H' := fun z e H' r a => by
      rw [e] at k
      exact k H' r a
    refine ⟨_, (pss_cons (ps_if (pt_not (pt_val (pe_fld (pv 0) rfl)))
        (pss_one (ps_ret (pe_con_NOT_NOW T (by rfl))))
        pss_nil)
      (pss_cons (ps_set (i := 1) sc_Agreement_best.nd rfl (by first | exact Or.inl rfl | exact Or.inr rfl) (pe_call (he := st_attr) (ok_places_from T) (hr.mono (by decide)) rfl T.mg_places_from T.F_places_from.kp (b_places_from T) .nil pass0 (pa_cons (hs := st_attr) (pe_fld (pv 0) rfl) (pa_cons (hs := st_attr) (pe_fld (pv 0) rfl) pa_nil))))
      (pss_cons (ps_if (pt_cmp (pc_isN (pv 1)))
        (pss_one (ps_ret (pe_con_TOO_MANY T (by rfl))))
        pss_nil)
      (pss_cons (ps_set (i := 2) sc_Agreement_best.nd rfl (by first | exact Or.inl rfl | exact Or.inr rfl) (pe_ix ix_tup (pe_fld (pv 0) rfl) pe_int (fun _ _ => rfl)))
      (pss_cons (ps_set (i := 3) sc_Agreement_best.nd rfl (by first | exact Or.inl rfl | exact Or.inr rfl) (pe_call (he := st_attr) (ok_lost_places T) (hr.mono (by decide)) rfl T.mg_lost_places T.F_lost_places.kp (b_lost_places T) .nil pass0 (pa_cons (hs := st_attr) (pe_fld (pv 0) rfl) (pa_cons (hs := st_name) (pv 1) (pa_cons (hs := st_name) (pv 2) pa_nil)))))
      (pss_cons (ps_if (pt_cmp (pc_gin (hu4 hr) (pe_fld (pv 0) rfl) (pv 3)) (by with_unfolding_all rfl))
        (pss_one (ps_ret (pe_con_CANNOT T (by rfl))))
        pss_nil)
      (pss_one (ps_ret (pe_call (he := st_call) (ok_first_keeping_move T) (hr.mono (by decide)) rfl T.mg_first_keeping_move T.F_first_keeping_move.kp (b_first_keeping_move T) .nil pass0 (pa_cons (hs := st_call) (pe_meth (hst := st_attr) (pe_fld (pv 0) rfl) T.cl_Course T.m_Course_outcomes (ok_Course_outcomes T) (hr.mono (by decide)) (b_Course_outcomes T) .nil pass0 (pa_cons (hs := st_attr) (pe_fld (pv 0) rfl) pa_nil)) (pa_cons (hs := st_name) (pv 3) (pa_cons (hs := st_name) (pv 2) pa_nil)))))))))))), ?_⟩
    try dsimp only [cx_K]
    first | refine if_cutR (fun _ z => ⟨_, rfl, g, _, dx, _, _, rfl, x.obj, T.cl_Agreement, T.n_Agreement_gone, Agreement_get_gone, _, rfl, z⟩) (if_bl (fun c0 => ?_) fun c0 => ?_) | refine if_cut (fun _ z => ⟨_, rfl, g, _, dx, _, _, rfl, x.obj, T.cl_Agreement, T.n_Agreement_gone, Agreement_get_gone, _, rfl, z⟩) (if_bl (fun c0 => ?_) fun c0 => ?_) | refine ⟨_, rfl, g, _, dx, _, _, rfl, x.obj, T.cl_Agreement, T.n_Agreement_gone, Agreement_get_gone, _, rfl, if_bl (fun c0 => ?_) fun c0 => ?_⟩
    · have hno : st.place = none := by
        cases e : st.place with
        | none => rfl
        | some y => rw [e] at c0; cases c0
      exact fin _ (step_best0 hno) H (fun _ _ e _ => e) (hA.more (by omega))
    obtain ⟨y, hy⟩ : ∃ y, st.place = some y := by
      cases e : st.place with
      | none => rw [e] at c0; cases c0
      | some y => exact ⟨y, rfl⟩
    have hgone := x.gone
    rw [hy] at hgone
    obtain ⟨gp, c, pl, rfl, rfl, hc, hpl, hRk⟩ := hgone
    have hplt : H pl = some (.tup (nv y.turn :: nvs y.left)) := hpl
    refine ⟨_, rfl, g, _, dx, _, _, rfl, x.obj, T.cl_Agreement, T.n_Agreement_course, Agreement_get_course, _, rfl, g, _, dx, _, _, rfl, x.obj, T.cl_Agreement, T.n_Agreement_place, Agreement_get_place,
      c, pl, st.deal, n, y, rfl, hc, x.good, gp, hpl, by omega, fun H1 k1 hc1 tm => ?_, fun H1 l L as k1 hc1 hL hcl hnd hyL h300 hre hlH => ?_⟩
    · refine ⟨_, rfl, _, rfl, if_dec (fun _ => ?_) fun z => absurd rfl z⟩
      exact fin _ (KA.best_many hy tm) H1 (KeptR.kept k1 hRk.1) ((x.after hy gp hpl hRk (hc.ng k1) hc1).more (by omega))
    · have ng1 := hc.ng k1
      refine ⟨_, rfl, _, rfl, if_dec (fun z => nomatch z) fun _ => ?_⟩
      refine ⟨_, rfl, g, _, dx, _, _, rfl, ng1 _ _ x.obj rfl, T.cl_Agreement, T.n_Agreement_place, Agreement_get_place, pl, _, _, _, rfl, rfl, SqT.of (ng1 _ _ hplt rfl), atI_nat (j := 0) (v := nv y.turn) rfl, ?_⟩
      refine ⟨_, rfl, g, _, dx, _, _, rfl, ng1 _ _ x.obj rfl, T.cl_Agreement, T.n_Agreement_course, Agreement_get_course, _, rfl, _, rfl,
        c, l, st.deal, n + 300, L, as, y.turn, rfl, hc1, x.good, hL, (fun q hq => reach_good x.good gp (hre q hq)), hcl, hnd, h300, by omega, gp.turn, fun H2 ld lost k2 hc2 hld hfin hnone hldn => ?_⟩
      have ng2 := ng1.trans (hc1.ng k2)
      refine ⟨_, rfl, g, _, dx, _, _, rfl, ng2 _ _ x.obj rfl, T.cl_Agreement, T.n_Agreement_place, Agreement_get_place, _, rfl, ld, _, ek (some y), rfl, hld, PlAt.ga (ng2 _ _ hpl rfl), _, rfl, ?_⟩
      rw [loK_val]
      have hgood := fun {m : Nat} (hm : m ∈ Kp195.moves st.deal y) => keepsB_good gp.turn hyL hcl hfin hnone hm
      refine if_dec (fun hin => ?_) fun hin => ?_
      · refine fin _ (KA.best_none hy hcl hyL h300 fun m hm gm => ?_) H2 ((KeptR.kept k1 hRk.1).trans (KeptR.kept k2 hRk.1)) ((x.after hy gp hpl hRk ng2 hc2).more (by omega))
        exact (hfin y hyL).mpr (KA.can_iff_best.mpr ⟨m, hm, gm⟩) hin
      · obtain ⟨m1, hm1, gm1⟩ := KA.can_iff_best.mp ((hfin y hyL).mp hin)
        obtain ⟨m0, hm0⟩ : ∃ m0, (Kp195.moves st.deal y).find? (keepsB st.deal y.turn y lost) = some m0 := by
          cases e : (Kp195.moves st.deal y).find? (keepsB st.deal y.turn y lost) with
          | some m0 => exact ⟨m0, rfl⟩
          | none => exact absurd ((hgood hm1).mpr gm1) (List.find?_eq_none.mp e m1 hm1)
        have hm0d : (KL.diffs st.deal y).find? (keepsB st.deal y.turn y lost) = some m0 := by
          rw [keepsB_eq, KL.diffs_find (keepsP y.turn lost), ← keepsB_eq]
          exact hm0
        obtain ⟨q1, l1, l2, q2, q3⟩ := List.find?_eq_some_iff_append.mp hm0
        have hstep := KA.best_some hy hcl hyL h300 q2 (fun z hz gz => by
          have h1 := (hgood (by rw [q2]; simp [hz])).mpr gz
          have h2 := q3 z hz
          rw [h1] at h2
          cases h2) ((hgood (by rw [q2]; simp)).mp q1)
        obtain ⟨dxc, hoc⟩ := hc2.obj
        refine ⟨_, rfl, g, _, dx, _, _, rfl, ng2 _ _ x.obj rfl, T.cl_Agreement, T.n_Agreement_course, Agreement_get_course, c.co, dxc, _, rfl, hoc, Course_no' (.inr (.inr (.inr (.inl rfl)))), _, rfl, g, _, dx, _, _, rfl, ng2 _ _ x.obj rfl, T.cl_Agreement, T.n_Agreement_place, Agreement_get_place,
          c, pl, st.deal, n + 300 + 600, y, rfl, hc2, x.good, gp, ng2 _ _ hpl rfl, by omega, fun H3 ol oas k3 hc3 ho3 => ?_⟩
        have nkl : c.kn ≠ ld := fun z => by
          obtain ⟨_, q⟩ := hc1.hasG
          rw [← z, q] at hldn
          cases hldn
        refine ⟨_, rfl, _, rfl, ol, ld, st.deal, y, oas, lost, y.turn, m0, rfl, ho3, Kept.one k3 hld nkl, hm0d, fun H4 s4 => ?_⟩
        have ng3 := ng2.trans (hc2.ng k3)
        exact fin _ hstep H4 ((((KeptR.kept k1 hRk.1).trans (KeptR.kept k2 hRk.1)).trans (KeptR.kept k3 hRk.1)).trans (KeptR.same s4)) (((x.after hy gp hpl hRk ng3 hc3).same s4).more (by omega))
end KT

namespace KT
open PySem PySem.Spec PyProof.Rows L2
open Kp195 (Deal)
theorem nums_begin (s : Kp195.State) (n : Nat) : (Kp195.step s (.begin_ n)).2.nums = [] := by
  rw [step_begin]
  split <;> rfl
theorem nums_act (h : Kp195.House) (a p : Nat) : (Kp195.step (some h) (.act a p)).2.nums = [] := by
  rw [step_act]
  repeat' split
  all_goals rfl
theorem nums_clause (h : Kp195.House) (c : Kp195.Clause) : (Kp195.step (some h) (.clause c)).2.nums = [] := by
  rw [step_clause]
  repeat' split
  all_goals rfl
theorem nums_can (h : Kp195.House) (p : Nat) : (Kp195.step (some h) (.can p)).2.nums = [] := by
  unfold Kp195.step
  dsimp only
  repeat' split
  all_goals rfl
theorem nums_best (h : Kp195.House) : (Kp195.step (some h) .best).2.nums = [] := by
  unfold Kp195.step
  dsimp only
  repeat' split
  all_goals rfl
theorem ansL_one {a : Kp195.Ans} (h : a.nums = []) : ansL a = [V.int a.num] := by
  unfold ansL
  rw [h]
  rfl
noncomputable def sp_answer_of (A : Ad) (K : PySem.W.Frag) : Sp := fun vs H Q _ => ∃ R g st n l p nums c, vs = [.ref g, .int p, .ref l] ∧ AgrAt A R H g n st ∧ There R H ∧ H l = some (.lst (nums.map V.int)) ∧ KF.Turn (p :: nums) c [] ∧ (st.isSome = true ∨ ∃ k, c = .begin_ k) ∧ n < 600000 ∧
  ∀ H' l', KeptR R H H' → AgrAt A R H' g (n + 1000) (Kp195.step st c).1 → H' l' = some (.lst (ansL (Kp195.step st c).2)) → ¬ R l' → Q (.ref l') H'
theorem ok_answer_of {P : Program} {w : World} {K : PySem.W.Frag} {mg : Str → Option Value} {base : Heap} {A : Ad} (T : Txt K mg A) : FnOk P w K mg base CX0 10 A.f_answer_of A.d_answer_of ["agreement", "call", "numbers"] (sp_answer_of A K) := by
  refine T.F_answer_of.ok sc_answer_of (fun vs H Q E h => ?_) (fun cdv A1 outer s H vs Q E hr h => ?_)
  · obtain ⟨R, g, st, n, l, p, nums, c, rfl, _⟩ := h
    rfl
  · obtain ⟨R, g, st, n, l, p, nums, c, rfl, hA, hR, hl, ht, hs, hn, k⟩ := h
    obtain ⟨hRg, dx, v0, v1, v2, v3, v4, v5, hg⟩ := hA.obj
    -- one number, in a new list
    have one : ∀ H', KeptR R H H' → AgrAt A R H' g (n + 1000) (Kp195.step st c).1 → (Kp195.step st c).2.nums = [] → [V.int (Kp195.step st c).2.num].length ≤ sizeLine ∧ ∀ l', H' l' = none → Q (.ref l') (upd H' l' (.lst [V.int (Kp195.step st c).2.num])) := fun H' r a e => by
      refine ⟨(by show 1 ≤ sizeLine; decide), fun l' hl' => ?_⟩
      have s1 : Same H' (upd H' l' (.lst [V.int (Kp195.step st c).2.num])) := (Same.refl H').new hl'
      exact k _ l' (r.trans (KeptR.same s1)) (a.same s1) (by rw [upd_same, ansL_one e]) ((hR.keep r).new hl')
    have isS : (∀ k, c ≠ .begin_ k) → ∃ h, st = some h := fun z => Option.isSome_iff_exists.mp (hs.resolve_right fun w => w.elim z)
    have hi := KF.turn_is ht
    clear ht hs
    refine ⟨_, (pss_cons (ps_if (pt_cmpR op_eq (pv 1) (pe_con_BEGIN T (by rfl)) (nomark _))
        (pss_one (ps_ret (pe_lst (pa_cons (hs := st_call) (pe_meth (hst := st_sub) (pv 0) T.cl_Agreement T.m_Agreement_begin (ok_Agreement_begin T) (hr.mono (by decide)) (b_Agreement_begin T) .nil pass0 (pa_cons (hs := st_sub) (pe_ix ix_list (pv 2) pe_int (fun _ _ => rfl)) pa_nil)) pa_nil))))
        pss_nil)
      (pss_cons (ps_if (pt_cmpR op_eq (pv 1) (pe_con_ACT T (by rfl)) (nomark _))
        (pss_one (ps_ret (pe_lst (pa_cons (hs := st_call) (pe_meth (hst := st_sub) (pv 0) T.cl_Agreement T.m_Agreement_act (ok_Agreement_act T) (hr.mono (by decide)) (b_Agreement_act T) .nil pass0 (pa_cons (hs := st_sub) (pe_ix ix_list (pv 2) pe_int (fun _ _ => rfl)) (pa_cons (hs := st_sub) (pe_ix ix_list (pv 2) pe_int (fun _ _ => rfl)) pa_nil))) pa_nil))))
        pss_nil)
      (pss_cons (ps_if (pt_cmpR op_eq (pv 1) (pe_con_CLAUSE T (by rfl)) (nomark _))
        (pss_one (ps_ret (pe_lst (pa_cons (hs := st_call) (pe_meth (hst := st_call) (pv 0) T.cl_Agreement T.m_Agreement_clause (ok_Agreement_clause T) (hr.mono (by decide)) (b_Agreement_clause T) .nil pass0 (pa_cons (hs := st_call) (pe_call (he := st_name) (ok_clause_of T) (hr.mono (by decide)) rfl T.mg_clause_of T.F_clause_of.kp (b_clause_of T) .nil pass0 (pa_cons (hs := st_name) (pv 2) pa_nil)) pa_nil)) pa_nil))))
        pss_nil)
      (pss_cons (ps_if (pt_cmpR op_eq (pv 1) (pe_con_GO T (by rfl)) (nomark _))
        (pss_one (ps_ret (pe_lst (pa_cons (hs := st_call) (pe_meth0 (pv 0) T.cl_Agreement T.m_Agreement_go (ok_Agreement_go T) (hr.mono (by decide)) (b_Agreement_go T) .nil pass0) pa_nil))))
        pss_nil)
      (pss_cons (ps_if (pt_cmpR op_eq (pv 1) (pe_con_DO T (by rfl)) (nomark _))
        (pss_one (ps_ret (pe_meth (hst := st_sub) (pv 0) T.cl_Agreement T.m_Agreement_do (ok_Agreement_do T) (hr.mono (by decide)) (b_Agreement_do T) .nil pass0 (pa_cons (hs := st_sub) (pe_ix ix_list (pv 2) pe_int (fun _ _ => rfl)) (pa_cons (hs := st_sub) (pe_ix ix_list (pv 2) pe_int (fun _ _ => rfl)) pa_nil)))))
        pss_nil)
      (pss_cons (ps_if (pt_cmpR op_eq (pv 1) (pe_con_OWED T (by rfl)) (nomark _))
        (pss_one (ps_ret (pe_meth0 (pv 0) T.cl_Agreement T.m_Agreement_owed (ok_Agreement_owed T) (hr.mono (by decide)) (b_Agreement_owed T) .nil pass0)))
        pss_nil)
      (pss_cons (ps_if (pt_cmpR op_eq (pv 1) (pe_con_CAN T (by rfl)) (nomark _))
        (pss_one (ps_ret (pe_lst (pa_cons (hs := st_call) (pe_meth (hst := st_sub) (pv 0) T.cl_Agreement T.m_Agreement_can (ok_Agreement_can T) (hr.mono (by decide)) (b_Agreement_can T) .nil pass0 (pa_cons (hs := st_sub) (pe_ix ix_list (pv 2) pe_int (fun _ _ => rfl)) pa_nil)) pa_nil))))
        pss_nil)
      (pss_one (ps_ret (pe_lst (pa_cons (hs := st_call) (pe_meth0 (pv 0) T.cl_Agreement T.m_Agreement_best (ok_Agreement_best T) (hr.mono (by decide)) (b_Agreement_best T) .nil pass0) pa_nil))))))))))), ?_⟩
    try dsimp only [cx_K]
    refine if_cut (fun _ z => ⟨_, rfl, rfl, _, rfl, z⟩) (if_eq (fun e => ?_) fun n0 => ?_)
    · refine ret_cut ?_
      dsimp only
      obtain ⟨m, rfl, rfl⟩ : ∃ m : Nat, nums = [(m : Int)] ∧ c = .begin_ m := hi.at_ e
      have hl : H l = some (.lst [nv m]) := hl
      refine ⟨_, rfl, g, dx, _, rfl, hg, Agr_no (by simp), _, rfl, l, _, _, _, rfl, rfl, SqL.of hl, atI_nat (j := 0) (v := nv m) rfl, ?_⟩
      exact ⟨R, g, st, n, m, rfl, hA, hR, fun H' r a => one H' r (a.more (by omega)) (nums_begin _ _)⟩
    refine if_cut (fun _ z => ⟨_, rfl, rfl, _, rfl, z⟩) (if_eq (fun e => ?_) fun n1 => ?_)
    · refine ret_cut ?_
      dsimp only
      obtain ⟨a, p, rfl, rfl⟩ : ∃ a b : Nat, nums = [(a : Int), (b : Int)] ∧ c = .act a b := hi.at_ e
      obtain ⟨h, rfl⟩ := isS (fun _ z => nomatch z)
      have hl : H l = some (.lst [nv a, nv p]) := hl
      refine ⟨_, rfl, g, dx, _, rfl, hg, Agr_no (by simp), _, rfl, l, _, _, _, rfl, rfl, SqL.of hl, atI_nat (j := 0) (v := nv a) rfl, _, rfl, l, _, _, _, rfl, rfl, SqL.of hl, atI_nat (j := 1) (v := nv p) rfl, ?_⟩
      exact ⟨R, g, h, n, a, p, rfl, hA, hR, fun H' r a => one H' r (a.more (by omega)) (nums_act _ _ _)⟩
    refine if_cut (fun _ z => ⟨_, rfl, rfl, _, rfl, z⟩) (if_eq (fun e => ?_) fun n2 => ?_)
    · refine ret_cut ?_
      dsimp only
      obtain ⟨w, x, m, p, a, d, hm, rfl, rfl⟩ : ∃ w x m b a d : Nat, m < 2 ∧ nums = [(w : Int), (x : Int), (m : Int), (b : Int), (a : Int), (d : Int)] ∧ c = .clause ⟨w, x, m == 1, b, a, d⟩ := hi.at_ e
      obtain ⟨h, rfl⟩ := isS (fun _ z => nomatch z)
      have hl : H l = some (.lst (nvs [w, x, m, p, a, d])) := hl
      refine ⟨_, rfl, g, dx, _, rfl, hg, Agr_no (by simp), _, rfl, l, w, x, m, p, a, d, rfl, hl, hm, fun H1 ta s1 hta => ?_⟩
      exact ⟨R, g, h, n, ta, _, rfl, hA.same s1, hR.keep (KeptR.same s1), hta, fun H' r a => one H' ((KeptR.same s1).trans r) (a.more (by omega)) (nums_clause _ _)⟩
    refine if_cut (fun _ z => ⟨_, rfl, rfl, _, rfl, z⟩) (if_eq (fun e => ?_) fun n3 => ?_)
    · refine ret_cut ?_
      dsimp only
      obtain rfl : c = .go := hi.at_ e
      obtain ⟨h, rfl⟩ := isS (fun _ z => nomatch z)
      refine ⟨_, rfl, g, dx, _, rfl, hg, Agr_no (by simp), ?_⟩
      exact ⟨R, g, h, n, rfl, hA, hR, fun H' r a => one H' r (a.more (by omega)) rfl⟩
    refine if_cut (fun _ z => ⟨_, rfl, rfl, _, rfl, z⟩) (if_eq (fun e => ?_) fun n4 => ?_)
    · refine ret_cut ?_
      dsimp only
      obtain ⟨p, a, rfl, rfl⟩ : ∃ a b : Nat, nums = [(a : Int), (b : Int)] ∧ c = .do_ a b := hi.at_ e
      obtain ⟨h, rfl⟩ := isS (fun _ z => nomatch z)
      have hl : H l = some (.lst [nv p, nv a]) := hl
      refine ⟨_, rfl, g, dx, _, rfl, hg, Agr_no (by simp), _, rfl, l, _, _, _, rfl, rfl, SqL.of hl, atI_nat (j := 0) (v := nv p) rfl, _, rfl, l, _, _, _, rfl, rfl, SqL.of hl, atI_nat (j := 1) (v := nv a) rfl, ?_⟩
      exact ⟨R, g, h, n, p, a, rfl, hA, hR, fun H' l' r a hl' hRl _ => k H' l' r (a.more (by omega)) hl' hRl⟩
    refine if_cut (fun _ z => ⟨_, rfl, rfl, _, rfl, z⟩) (if_eq (fun e => ?_) fun n5 => ?_)
    · refine ret_cut ?_
      dsimp only
      obtain rfl : c = .owed := hi.at_ e
      obtain ⟨h, rfl⟩ := isS (fun _ z => nomatch z)
      refine ⟨_, rfl, g, dx, _, rfl, hg, Agr_no (by simp), ?_⟩
      exact ⟨R, g, h, n, rfl, hA, hR, fun H' l' r a hl' hRl _ => k H' l' r (a.more (by omega)) hl' hRl⟩
    refine if_cut (fun _ z => ⟨_, rfl, rfl, _, rfl, z⟩) (if_eq (fun e => ?_) fun n6 => ?_)
    · refine ret_cut ?_
      dsimp only
      obtain ⟨p, rfl, rfl⟩ : ∃ m : Nat, nums = [(m : Int)] ∧ c = .can m := hi.at_ e
      obtain ⟨h, rfl⟩ := isS (fun _ z => nomatch z)
      have hl : H l = some (.lst [nv p]) := hl
      refine ⟨_, rfl, g, dx, _, rfl, hg, Agr_no (by simp), _, rfl, l, _, _, _, rfl, rfl, SqL.of hl, atI_nat (j := 0) (v := nv p) rfl, ?_⟩
      exact ⟨R, g, h, n, p, rfl, hA, hR, hn, fun H' r a => one H' r a (nums_can _ _)⟩
    · obtain rfl := hi.best n0 n1 n2 n3 n4 n5 n6
      obtain ⟨h, rfl⟩ := isS (fun _ z => nomatch z)
      refine ⟨_, rfl, g, dx, _, rfl, hg, Agr_no (by simp), ?_⟩
      exact ⟨R, g, h, n, rfl, hA, hR, hn, fun H' r a => one H' r a (nums_best _)⟩
theorem OutsAt.notInts {A : Ad} {H : Hp} {l tl : Addr} {d : Deal} {p : Pl} {as : List Addr} {zs : List Int} (h : OutsAt A H l d p (KL.diffs d p) as) (e : H tl = some (.lst (zs.map V.int))) : l ≠ tl := fun z => by
  rw [← z, h.lst] at e
  obtain ⟨m, hm⟩ : ∃ m, (KL.diffs d p)[0]? = some m := ⟨_, List.getElem?_eq_getElem (diffs_pos d p)⟩
  obtain ⟨a, ha, _⟩ := h.at_ 0 m hm
  have e2 : as.map V.ref = zs.map V.int := by injection (Option.some.inj e)
  have h1 := refs0 ha
  rw [e2, List.getElem?_map] at h1
  cases w : zs[0]? with
  | none => rw [w] at h1; cases h1
  | some i => rw [w] at h1; cases h1
theorem DealAt.off {A : Ad} {H H' : Hp} {ow cl tl : Addr} {d : Deal} {xs : List V} (h : DealAt A H ow cl d) (e : H tl = some (.lst xs)) (n1 : ow ≠ tl) (n2 : cl ≠ tl) (k : ∀ b o, H b = some o → b ≠ tl → H' b = some o) : DealAt A H' ow cl d := by
  obtain ⟨as, hcl⟩ := h.cls
  refine ⟨k _ _ h.own n1, as, k _ _ hcl.lst n2, hcl.len, fun i c q => ?_⟩
  obtain ⟨a, e1, dx', e2⟩ := hcl.at_ i c q
  exact ⟨a, e1, dx', k _ _ e2 (ne_of e2 e (fun z => nomatch z))⟩
theorem AgrAt.told {A : Ad} {R : Addr → Prop} {H H' : Hp} {g tl : Addr} {n : Nat} {zs : List Int} (hR : R tl) (e : H tl = some (.lst (zs.map V.int))) (k : ∀ b o, H b = some o → b ≠ tl → H' b = some o) : ∀ {s : Kp195.State}, AgrAt A R H g n s → AgrAt A R H' g n s
  | none, ⟨h1, dx, v0, v1, v2, v3, v4, v5, h⟩ => ⟨h1, dx, v0, v1, v2, v3, v4, v5, k _ _ h (ne_of h e (fun z => nomatch z))⟩
  | some st, ⟨dx, ow, cl, vc, vp, x⟩ => by
    have nR : ∀ {b : Addr}, ¬ R b → b ≠ tl := fun h z => h (by rw [z]; exact hR)
    refine ⟨dx, ow, cl, vc, vp, ⟨k _ _ x.obj (ne_of x.obj e (fun z => nomatch z)), x.deal.off e (nR x.ro) (nR x.rc) k, x.good, ?_, x.rg, x.ro, x.rc⟩⟩
    have hg := x.gone
    cases hp : st.place with
    | none => trivial
    | some y =>
      rw [hp] at hg
      obtain ⟨gp, c, pl, e1, e2, hc, hpl, r1, r2, r3⟩ := hg
      obtain ⟨dxc, ho⟩ := hc.obj
      obtain ⟨kv, q1, q2, q3⟩ := hc.known.dict
      refine ⟨gp, c, pl, e1, e2, ⟨⟨dxc, k _ _ ho (ne_of ho e (fun z => nomatch z))⟩, hc.deal.off e (nR r2) (nR r3) k, kv, k _ _ q1 (ne_of q1 e (fun z => nomatch z)), q2, fun p v ev => ?_⟩, k _ _ hpl (ne_of hpl e (fun z => nomatch z)), r1, r2, r3⟩
      obtain ⟨l, as', e3, o⟩ := q3 p v ev
      refine ⟨l, as', e3, k _ _ o.lst (o.notInts e), o.len, fun i m em => ?_⟩
      obtain ⟨a, e4, dx', pa, ba, e5, e6, e7⟩ := o.at_ i m em
      exact ⟨a, e4, dx', pa, ba, k _ _ e5 (ne_of e5 e (fun z => nomatch z)), k _ _ e6 (ne_of e6 e (fun z => nomatch z)), k _ _ e7 (ne_of e7 e (fun z => nomatch z))⟩
theorem ansL_ints (a : Kp195.Ans) : ansL a = (KF.ansOf a).map V.int := by
  unfold ansL KF.ansOf Kp195Neutral.outs nvs zs
  rw [List.map_cons]
theorem cut_mid {pre nums t : List Int} {p : Int} {i : Nat} (hi : pre.length = i) : cutV ((pre ++ p :: (nums ++ t)).map V.int) (some ((i : Int) + 1)) (some ((i : Int) + 1 + (nums.length : Int))) = nums.map V.int := by
  have e1 : ((i : Int) + 1) = ((i + 1 : Nat) : Int) := rfl
  have e2 : ((i : Int) + 1 + (nums.length : Int)) = ((i + 1 + nums.length : Nat) : Int) := rfl
  unfold cutV
  rw [e2, e1, HT.sIx_nat, HT.sIx_nat]
  have hl : ((pre ++ p :: (nums ++ t)).map V.int).length = i + 1 + nums.length + t.length := by
    rw [List.length_map, List.length_append, List.length_cons, List.length_append, hi, ← Nat.add_assoc, ← Nat.add_assoc, Nat.add_right_comm (i + nums.length), Nat.add_right_comm i]
  rw [hl, Nat.min_eq_left (Nat.le_trans (Nat.le_add_right (i + 1) nums.length) (Nat.le_add_right _ _)), Nat.min_eq_left (Nat.le_add_right _ _), Nat.add_sub_cancel_left]
  have hd : ((pre ++ p :: (nums ++ t)).map V.int).drop (i + 1) = nums.map V.int ++ t.map V.int := by
    rw [List.map_append, List.map_cons, List.map_append, ← hi]
    have : pre.length + 1 = (pre.map V.int ++ [V.int p]).length := by rw [List.length_append, List.length_map]; rfl
    rw [this, show pre.map V.int ++ V.int p :: (nums.map V.int ++ t.map V.int) = (pre.map V.int ++ [V.int p]) ++ (nums.map V.int ++ t.map V.int) by simp, List.drop_left]
  rw [hd]
  have : nums.length = (nums.map V.int).length := (List.length_map _).symm
  rw [this, List.take_left]
theorem ansOf_len (s : Kp195.State) (hs : KS.GoodState s) (c : Kp195.Call) : (KF.ansOf (Kp195.step s c).2).length ≤ 9 := by
  have := (KS.step_good hs (c := c)).2
  unfold KF.ansOf Kp195Neutral.outs
  rw [List.length_cons, List.length_map]
  exact Nat.succ_le_succ this
theorem AgrAt.goodT {A : Ad} {R : Addr → Prop} {H : Hp} {g : Addr} {n : Nat} : ∀ {s : Kp195.State}, AgrAt A R H g n s → KS.GoodState s
  | none, _ => trivial
  | some _, h => h.goodS
noncomputable def RR (H : Hp) (tl b : Addr) : Prop := (∃ o, H b = some o) ∨ b = tl
noncomputable def AnsW (A : Ad) (H : Hp) (a g tl : Addr) (ns : List Int) (m : Nat) (σ' : L2.St) (H' : Hp) : Prop :=
  ∃ (i n k : Nat) (st : Kp195.State) (done out : List Int) (v4 v5 v6 : Option V), m = ns.length - i ∧ σ' = [some (.ref a), some (.ref g), some (.ref tl), some (nv i), v4, v5, v6] ∧ Same H H' ∧
      AgrAt A (RR H tl) H' g n st ∧ H' tl = some (.lst (done.map V.int)) ∧ KF.Left st (ns.drop i) out k ∧ PyKp195.answers ns = done ++ out ∧ i ≤ ns.length ∧ n + 1000 * k ≤ 300000 ∧ done.length + 10 * k ≤ 3000
noncomputable def sp_answers (A : Ad) (K : PySem.W.Frag) : Sp := fun vs H Q _ => ∃ (a : Addr) (ns : List Int), vs = [.ref a] ∧ SqL K H a (ns.map V.int) ∧ PyKp195.answers_asked ns = true ∧ ∀ (H' : Hp) (p : Addr), H' p = some (.lst ((PyKp195.answers ns).map V.int)) → Q (.ref p) H'
theorem ok_answers {P : Program} {w : World} {K : PySem.W.Frag} {mg : Str → Option Value} {base : Heap} {A : Ad} (T : Txt K mg A) : FnOk P w K mg base CX0 11 A.f_answers A.d_answers ["calls"] (sp_answers A K) := by
  refine T.F_answers.ok sc_answers (fun vs H Q E h => ?_) (fun cdv A1 outer s H vs Q E hr h => ?_)
  · obtain ⟨a, ns, rfl, _⟩ := h
    rfl
  · obtain ⟨a, ns, rfl, hS, hask, k⟩ := h
    refine ⟨_, (pss_cons (ps_set (i := 1) sc_answers.nd rfl (by first | exact Or.inl rfl | exact Or.inr rfl) (pe_make0 T.M_Agreement (ok_Agreement_init T) (hr.mono (by decide)) rfl T.mg_Agreement (b_Agreement_init T) .nil pass0))
      (pss_cons (ps_set (i := 2) sc_answers.nd rfl (by first | exact Or.inl rfl | exact Or.inr rfl) (pe_lst pa_nil))
      (pss_cons (ps_set (i := 3) sc_answers.nd rfl (by first | exact Or.inl rfl | exact Or.inr rfl) pe_int)
      (pss_cons (ps_while PassesOwn.never (pt_cmpR op_lt (pv 3) (pe_callB (he := st_name) call_len_seq (by rfl) T.no_len PySem.boot_len (pa_cons (hs := st_name) (pv 0) pa_nil)) (nomark _))
        (pss_cons (ps_set (i := 4) sc_answers.nd rfl (by first | exact Or.inl rfl | exact Or.inr rfl) (pe_ix ix_list (pv 0) (pv 3) (fun _ _ => rfl)))
        (pss_cons (ps_set (i := 5) sc_answers.nd rfl (by first | exact Or.inl rfl | exact Or.inr rfl) (pe_op op_add (pe_op op_add (pv 3) pe_int) (pe_ix ix_tup (pe_con_NUMBER_COUNTS T (by rfl)) (pv 4) (fun _ _ => rfl))))
        (pss_cons (ps_set (i := 6) sc_answers.nd rfl (by first | exact Or.inl rfl | exact Or.inr rfl) (pe_call (he := st_name) (ok_answer_of T) (hr.mono (by decide)) rfl T.mg_answer_of T.F_answer_of.kp (b_answer_of T) .nil pass0 (pa_cons (hs := st_name) (pv 1) (pa_cons (hs := st_name) (pv 4) (pa_cons (hs := st_sub) (pe_slice sl_list (pv 0) (po_some (pe_op op_add (pv 3) pe_int)) (po_some (pv 5))) pa_nil)))))
        (pss_cons (ps_expr (pe_bm PySem.F.plainAttrs_list PySem.F.slot_list_append PySem.F.type_list_append mt_append (pv 2) (pa_cons (hs := st_call) (pe_callB (he := st_name) call_len_seq (by rfl) T.no_len PySem.boot_len (pa_cons (hs := st_name) (pv 6) pa_nil)) pa_nil)))
        (pss_cons (ps_expr (pe_bm PySem.F.plainAttrs_list PySem.F.slot_list_extend PySem.F.type_list_extend mt_extend (pv 2) (pa_cons (hs := st_name) (pv 6) pa_nil)))
        (pss_one (ps_set (i := 3) sc_answers.nd rfl (by first | exact Or.inl rfl | exact Or.inr rfl) (pv 5)))))))))
      (pss_one (ps_ret (pv 2))))))), ?_⟩
    try dsimp only [cx_K]
    obtain ⟨k0, hleft, hk0⟩ := KF.left_start hask
    intro g dg hg0 hdg0 ng
    refine ⟨g, dg, rfl, upd_same, fun H1 v0 v1 v2 v3 v4 v5 h1 k1 => ⟨rfl, ?_⟩⟩
    have s1 : Same H H1 := fun b o e => k1 b o (by rw [upd_ne (ne_of_none e hg0), upd_ne (ne_of_none e hdg0)]; exact e) (by rw [List.mem_singleton]; exact ne_of_none e hg0)
    refine ⟨Nat.zero_le _, fun tl htl => ?_⟩
    have s2 : Same H (upd H1 tl (.lst [])) := s1.new htl
    have ngt : g ≠ tl := ne_of_none h1 htl
    have htlH : H tl = none := s1.free htl
    have hRt : RR H tl tl := .inr rfl
    refine ⟨AnsW A H a g tl ns, ⟨ns.length, 0, 0, k0, none, [], PyKp195.answers ns, none, none, none, rfl, rfl, s2, ⟨?_, dg, v0, v1, v2, v3, v4, v5, (upd_ne ngt).trans h1⟩, upd_same, hleft, rfl, Nat.zero_le _, by omega, by show 0 + 10 * k0 ≤ 3000; omega⟩, ?_⟩
    · rintro (⟨o, e⟩ | e)
      · rw [hg0] at e; cases e
      · exact ngt e
    · rintro m σ' H3 ⟨i, n, kk, st, done, out, v4, v5, v6, rfl, rfl, s3, hA, ht3, hL, hans, hi, hn, hd⟩
      have hS3 := s3.seq hS
      first | refine if_cutR (fun _ z => ⟨_, rfl, _, rfl, a, _, rfl, .inl hS3, _, _, rfl, rfl, _, rfl, z⟩) (if_dec (fun hlt => ?_) fun hlt => ?_) | refine if_cut (fun _ z => ⟨_, rfl, _, rfl, a, _, rfl, .inl hS3, _, _, rfl, rfl, _, rfl, z⟩) (if_dec (fun hlt => ?_) fun hlt => ?_) | refine ⟨_, rfl, _, rfl, a, _, rfl, .inl hS3, _, _, rfl, rfl, _, rfl, if_dec (fun hlt => ?_) fun hlt => ?_⟩
      · rw [List.length_map] at hlt
        have hlt : i < ns.length := by omega
        obtain ⟨p, r, hdrop⟩ : ∃ p r, ns.drop i = p :: r := ⟨_, _, List.drop_eq_getElem_cons hlt⟩
        rw [hdrop] at hL
        obtain ⟨c, rest', out', k', hturn, hsb, hk', hL', hout⟩ := KF.left_cons hL
        obtain ⟨nums, hr, hturn'⟩ := KF.turn_cut hturn
        obtain ⟨j, hpj, hj⟩ := KF.turn_count hturn'
        have hns : ns.take i ++ p :: (nums ++ rest') = ns := by rw [← hr, ← hdrop, List.take_append_drop]
        have hpre : (ns.take i).length = i := by rw [List.length_take]; omega
        have hpi : ns[i]? = some p := by
          have := List.getElem?_drop (xs := ns) (i := i) (j := 0)
          rw [hdrop] at this
          exact this.symm
        have hnl : ns.length = i + 1 + nums.length + rest'.length := by
          have := congrArg List.length hns
          rw [List.length_append, hpre, List.length_cons, List.length_append] at this
          omega
        have hcut := cut_mid (pre := ns.take i) (p := p) (nums := nums) (t := rest') hpre
        rw [hns] at hcut
        have hdrop' : ns.drop (i + 1 + nums.length) = rest' := by
          have h1 : ns.drop (i + 1 + nums.length) = (ns.drop i).drop (1 + nums.length) := by rw [List.drop_drop]; congr 1; omega
          rw [h1, hdrop, hr, Nat.add_comm 1, List.drop_succ_cons, List.drop_left]
        have hR : There (RR H tl) H3 := fun b hb => by
          rcases hb with ⟨o, e⟩ | e
          · exact ⟨o, s3 _ _ e⟩
          · rw [e]; exact ⟨_, ht3⟩
        refine ⟨fun σ' H' => ∃ m', m' < ns.length - i ∧ AnsW A H a g tl ns m' σ' H', fun σ' H' q => q, ?_⟩
        -- call = calls[start]
        refine ends_absS fun Dz zm _ _ _ => ?_
        refine ⟨_, rfl, _, rfl, a, _, _, _, rfl, rfl, hS3, atI_nat (v := V.int p) (by rw [List.getElem?_map, hpi]; rfl), ?_⟩
        -- end = start + 1 + NUMBER_COUNTS[call]
        have hcnt : atI [V.int 1, V.int 2, V.int 6, V.int 0, V.int 2, V.int 0, V.int 1, V.int 0] p = some (nv nums.length) := by
          rw [hpj]
          exact atI_nat (nvs_at hj)
        refine ⟨_, rfl, _, _, rfl, rfl, _, rfl, A.k_NUMBER_COUNTS, _, _, _, rfl, rfl, T.q_NUMBER_COUNTS H3, hcnt, _, _, rfl, rfl, ?_⟩
        -- answer = answer_of(..)
        refine ⟨_, rfl, _, rfl, _, rfl, _, rfl, _, _, rfl, rfl, _, rfl, _, rfl, _, rfl, a, _, rfl, hS3, fun sl hsl => ?_⟩
        rw [hcut]
        have s4 : Same H3 (upd H3 sl (.lst (nums.map V.int))) := (Same.refl H3).new hsl
        refine ⟨RR H tl, g, st, n, sl, p, nums, c, rfl, hA.same s4, hR.keep (KeptR.same s4), upd_same, hturn', hsb, by omega, fun H5 an r5 hA5 han hRan => ?_⟩
        have s5 : Same H H5 := fun b o e => r5 b o (s4 _ _ (s3 _ _ e)) (.inl ⟨o, e⟩)
        have h5t : H5 tl = some (.lst (done.map V.int)) := r5 tl _ (s4 _ _ ht3) hRt
        have nat' : an ≠ tl := fun z => hRan (by rw [z]; exact hRt)
        rw [ansL_ints] at han
        have hlenA := ansOf_len st hA.goodT c
        -- told.append(len(answer))
        refine ⟨_, rfl, .inl ⟨rfl, _, SqL.of h5t⟩, _, rfl, an, _, rfl, .inl (SqL.of han), tl, _, _, rfl, rfl, h5t, ?_, ?_⟩
        · rw [List.length_map]
          exact size_lt (by omega)
        have e6 : done.map V.int ++ [V.int ((KF.ansOf (Kp195.step st c).2).map V.int).length] = (done ++ [((KF.ansOf (Kp195.step st c).2).length : Int)]).map V.int := by
          rw [List.map_append, List.length_map]
          rfl
        rw [e6]
        have hA6 : AgrAt A (RR H tl) (upd H5 tl (.lst ((done ++ [((KF.ansOf (Kp195.step st c).2).length : Int)]).map V.int))) g (n + 1000) (Kp195.step st c).1 := hA5.told hRt h5t (fun b o e nb => (upd_ne nb).trans e)
        have han6 : (upd H5 tl (.lst ((done ++ [((KF.ansOf (Kp195.step st c).2).length : Int)]).map V.int))) an = some (.lst ((KF.ansOf (Kp195.step st c).2).map V.int)) := (upd_ne nat').trans han
        -- told.extend(answer)
        refine ⟨_, rfl, .inl ⟨rfl, _, SqL.of upd_same⟩, _, rfl, tl, an, _, _, rfl, rfl, upd_same, han6, ?_, ?_⟩
        · rw [List.length_map, List.length_map, List.length_append, List.length_singleton]
          exact Nat.le_of_lt (size_lt (by omega))
        rw [← List.map_append]
        have hA7 := hA6.told (H' := upd (upd H5 tl (.lst ((done ++ [((KF.ansOf (Kp195.step st c).2).length : Int)]).map V.int))) tl (.lst ((done ++ [((KF.ansOf (Kp195.step st c).2).length : Int)] ++ KF.ansOf (Kp195.step st c).2).map V.int))) hRt upd_same (fun b o e nb => (upd_ne nb).trans e)
        -- start = end
        refine ⟨_, rfl, zm _ _ ⟨ns.length - (i + 1 + nums.length), by omega, i + 1 + nums.length, n + 1000, k', (Kp195.step st c).1, done ++ [((KF.ansOf (Kp195.step st c).2).length : Int)] ++ KF.ansOf (Kp195.step st c).2, out', _, _, _, rfl, rfl, (s5.at htlH).at htlH, hA7, upd_same, ?_, ?_, by omega, by omega, ?_⟩⟩
        · rw [hdrop']
          exact hL'
        · rw [hans, hout]
          simp
        · rw [List.length_append, List.length_append, List.length_singleton]
          omega
      · rw [List.length_map] at hlt
        have hi : i = ns.length := by omega
        subst hi
        rw [List.drop_length] at hL
        obtain ⟨e1, e2⟩ := KF.left_nil hL
        refine ⟨_, rfl, k H3 tl ?_⟩
        rw [hans, e1, List.append_nil]
        exact ht3
end KT

namespace KT
open PySem PySem.Spec PyProof.Rows L2
theorem txt_mk {K : PySem.W.Frag} {h : Heap} {mg : Str → Option Value} (X : K.In h) (G : h.Ns mainGlobals mg)
    {c_Clause : Addr}
    {c_Outcome : Addr}
    {c_Course : Addr}
    {c_Agreement : Addr}
    {f_Clause_init : Addr} {od_Clause_init an_Clause_init : Option Addr} {sl_Clause_init : Array (Option Value)} {oc_Clause_init kV_Clause_init dc_Clause_init pm_Clause_init cd_Clause_init ct_Clause_init : Value}
    {f_Outcome_init : Addr} {od_Outcome_init an_Outcome_init : Option Addr} {sl_Outcome_init : Array (Option Value)} {oc_Outcome_init kV_Outcome_init dc_Outcome_init pm_Outcome_init cd_Outcome_init ct_Outcome_init : Value}
    {f_Course_init : Addr} {od_Course_init an_Course_init : Option Addr} {sl_Course_init : Array (Option Value)} {oc_Course_init kV_Course_init dc_Course_init pm_Course_init cd_Course_init ct_Course_init : Value}
    {f_Course_first_place : Addr} {od_Course_first_place an_Course_first_place : Option Addr} {sl_Course_first_place : Array (Option Value)} {oc_Course_first_place kV_Course_first_place dc_Course_first_place pm_Course_first_place cd_Course_first_place ct_Course_first_place : Value}
    {f_Course_moves : Addr} {od_Course_moves an_Course_moves : Option Addr} {sl_Course_moves : Array (Option Value)} {oc_Course_moves kV_Course_moves dc_Course_moves pm_Course_moves cd_Course_moves ct_Course_moves : Value}
    {f_Course_outcome : Addr} {od_Course_outcome an_Course_outcome : Option Addr} {sl_Course_outcome : Array (Option Value)} {oc_Course_outcome kV_Course_outcome dc_Course_outcome pm_Course_outcome cd_Course_outcome ct_Course_outcome : Value}
    {f_Course_outcomes : Addr} {od_Course_outcomes an_Course_outcomes : Option Addr} {sl_Course_outcomes : Array (Option Value)} {oc_Course_outcomes kV_Course_outcomes dc_Course_outcomes pm_Course_outcomes cd_Course_outcomes ct_Course_outcomes : Value}
    {f_Course_different_outcomes : Addr} {od_Course_different_outcomes an_Course_different_outcomes : Option Addr} {sl_Course_different_outcomes : Array (Option Value)} {oc_Course_different_outcomes kV_Course_different_outcomes dc_Course_different_outcomes pm_Course_different_outcomes cd_Course_different_outcomes ct_Course_different_outcomes : Value}
    {f_do_act : Addr} {od_do_act an_do_act : Option Addr} {sl_do_act : Array (Option Value)} {oc_do_act kV_do_act dc_do_act pm_do_act cd_do_act ct_do_act : Value}
    {f_end_day : Addr} {od_end_day an_end_day : Option Addr} {sl_end_day : Array (Option Value)} {oc_end_day kV_end_day dc_end_day pm_end_day cd_end_day ct_end_day : Value}
    {f_call_up : Addr} {od_call_up an_call_up : Option Addr} {sl_call_up : Array (Option Value)} {oc_call_up kV_call_up dc_call_up pm_call_up cd_call_up ct_call_up : Value}
    {f_is_called_up : Addr} {od_is_called_up an_is_called_up : Option Addr} {sl_is_called_up : Array (Option Value)} {oc_is_called_up kV_is_called_up dc_is_called_up pm_is_called_up cd_is_called_up ct_is_called_up : Value}
    {f_places_from : Addr} {od_places_from an_places_from : Option Addr} {sl_places_from : Array (Option Value)} {oc_places_from kV_places_from dc_places_from pm_places_from cd_places_from ct_places_from : Value}
    {f_lost_places : Addr} {od_lost_places an_lost_places : Option Addr} {sl_lost_places : Array (Option Value)} {oc_lost_places kV_lost_places dc_lost_places pm_lost_places cd_lost_places ct_lost_places : Value}
    {f_entries_of : Addr} {od_entries_of an_entries_of : Option Addr} {sl_entries_of : Array (Option Value)} {oc_entries_of kV_entries_of dc_entries_of pm_entries_of cd_entries_of ct_entries_of : Value}
    {f_chances_of : Addr} {od_chances_of an_chances_of : Option Addr} {sl_chances_of : Array (Option Value)} {oc_chances_of kV_chances_of dc_chances_of pm_chances_of cd_chances_of ct_chances_of : Value}
    {f_end_for : Addr} {od_end_for an_end_for : Option Addr} {sl_end_for : Array (Option Value)} {oc_end_for kV_end_for dc_end_for pm_end_for cd_end_for ct_end_for : Value}
    {f_first_keeping_move : Addr} {od_first_keeping_move an_first_keeping_move : Option Addr} {sl_first_keeping_move : Array (Option Value)} {oc_first_keeping_move kV_first_keeping_move dc_first_keeping_move pm_first_keeping_move cd_first_keeping_move ct_first_keeping_move : Value}
    {f_what_bound : Addr} {od_what_bound an_what_bound : Option Addr} {sl_what_bound : Array (Option Value)} {oc_what_bound kV_what_bound dc_what_bound pm_what_bound cd_what_bound ct_what_bound : Value}
    {f_Agreement_init : Addr} {od_Agreement_init an_Agreement_init : Option Addr} {sl_Agreement_init : Array (Option Value)} {oc_Agreement_init kV_Agreement_init dc_Agreement_init pm_Agreement_init cd_Agreement_init ct_Agreement_init : Value}
    {f_Agreement_begin : Addr} {od_Agreement_begin an_Agreement_begin : Option Addr} {sl_Agreement_begin : Array (Option Value)} {oc_Agreement_begin kV_Agreement_begin dc_Agreement_begin pm_Agreement_begin cd_Agreement_begin ct_Agreement_begin : Value}
    {f_Agreement_act : Addr} {od_Agreement_act an_Agreement_act : Option Addr} {sl_Agreement_act : Array (Option Value)} {oc_Agreement_act kV_Agreement_act dc_Agreement_act pm_Agreement_act cd_Agreement_act ct_Agreement_act : Value}
    {f_Agreement_names : Addr} {od_Agreement_names an_Agreement_names : Option Addr} {sl_Agreement_names : Array (Option Value)} {oc_Agreement_names kV_Agreement_names dc_Agreement_names pm_Agreement_names cd_Agreement_names ct_Agreement_names : Value}
    {f_Agreement_clause : Addr} {od_Agreement_clause an_Agreement_clause : Option Addr} {sl_Agreement_clause : Array (Option Value)} {oc_Agreement_clause kV_Agreement_clause dc_Agreement_clause pm_Agreement_clause cd_Agreement_clause ct_Agreement_clause : Value}
    {f_Agreement_fits : Addr} {od_Agreement_fits an_Agreement_fits : Option Addr} {sl_Agreement_fits : Array (Option Value)} {oc_Agreement_fits kV_Agreement_fits dc_Agreement_fits pm_Agreement_fits cd_Agreement_fits ct_Agreement_fits : Value}
    {f_Agreement_go : Addr} {od_Agreement_go an_Agreement_go : Option Addr} {sl_Agreement_go : Array (Option Value)} {oc_Agreement_go kV_Agreement_go dc_Agreement_go pm_Agreement_go cd_Agreement_go ct_Agreement_go : Value}
    {f_Agreement_do : Addr} {od_Agreement_do an_Agreement_do : Option Addr} {sl_Agreement_do : Array (Option Value)} {oc_Agreement_do kV_Agreement_do dc_Agreement_do pm_Agreement_do cd_Agreement_do ct_Agreement_do : Value}
    {f_Agreement_owed : Addr} {od_Agreement_owed an_Agreement_owed : Option Addr} {sl_Agreement_owed : Array (Option Value)} {oc_Agreement_owed kV_Agreement_owed dc_Agreement_owed pm_Agreement_owed cd_Agreement_owed ct_Agreement_owed : Value}
    {f_Agreement_can : Addr} {od_Agreement_can an_Agreement_can : Option Addr} {sl_Agreement_can : Array (Option Value)} {oc_Agreement_can kV_Agreement_can dc_Agreement_can pm_Agreement_can cd_Agreement_can ct_Agreement_can : Value}
    {f_Agreement_best : Addr} {od_Agreement_best an_Agreement_best : Option Addr} {sl_Agreement_best : Array (Option Value)} {oc_Agreement_best kV_Agreement_best dc_Agreement_best pm_Agreement_best cd_Agreement_best ct_Agreement_best : Value}
    {f_answers : Addr} {od_answers an_answers : Option Addr} {sl_answers : Array (Option Value)} {oc_answers kV_answers dc_answers pm_answers cd_answers ct_answers : Value}
    {f_answer_of : Addr} {od_answer_of an_answer_of : Option Addr} {sl_answer_of : Array (Option Value)} {oc_answer_of kV_answer_of dc_answer_of pm_answer_of cd_answer_of ct_answer_of : Value}
    {f_clause_of : Addr} {od_clause_of an_clause_of : Option Addr} {sl_clause_of : Array (Option Value)} {oc_clause_of kV_clause_of dc_clause_of pm_clause_of cd_clause_of ct_clause_of : Value}
    {t_ACT_COUNT : Tok}
    {t_MOST_PARTIES : Tok}
    {t_MOST_CLAUSES : Tok}
    {t_MOST_DAYS : Tok}
    {t_MUST : Tok}
    {t_AT_THE_BEGINNING : Tok}
    {t_BY_AN_ACT : Tok}
    {t_BY_A_KEPT_CLAUSE : Tok}
    {t_BY_A_BROKEN_CLAUSE : Tok}
    {t_NO_ACT : Tok}
    {t_MOST_PLACES : Tok}
    {t_DONE : Tok}
    {t_NOT_THEIR_TURN : Tok}
    {t_NOT_NOW : Tok}
    {t_NAMED : Tok}
    {t_WRONG : Tok}
    {t_FULL : Tok}
    {t_CANNOT : Tok}
    {t_TOO_MANY : Tok}
    {t_BEGIN : Tok}
    {t_ACT : Tok}
    {t_CLAUSE : Tok}
    {t_GO : Tok}
    {t_DO : Tok}
    {t_OWED : Tok}
    {t_CAN : Tok}
    {k_NUMBER_COUNTS : Addr} {od_NUMBER_COUNTS : Option Addr} {nn_NUMBER_COUNTS : Nat} {sl_NUMBER_COUNTS : Array (Option Value)} {t_NUMBER_COUNTS_0 : Tok} {t_NUMBER_COUNTS_1 : Tok} {t_NUMBER_COUNTS_2 : Tok} {t_NUMBER_COUNTS_3 : Tok} {t_NUMBER_COUNTS_4 : Tok} {t_NUMBER_COUNTS_5 : Tok} {t_NUMBER_COUNTS_6 : Tok} {t_NUMBER_COUNTS_7 : Tok}
    (aC_Clause : PySem.W.nsIn K mainGlobals "Clause" = some (some (.ref c_Clause)))
    (aC_Outcome : PySem.W.nsIn K mainGlobals "Outcome" = some (some (.ref c_Outcome)))
    (aC_Course : PySem.W.nsIn K mainGlobals "Course" = some (some (.ref c_Course)))
    (aC_Agreement : PySem.W.nsIn K mainGlobals "Agreement" = some (some (.ref c_Agreement)))
    (a_Clause_init : PySem.W.findIn K (.ref c_Clause) "__init__" = some (some (.ref f_Clause_init)))
    (i_Clause_init : PySem.W.isFn K (.ref f_Clause_init) = true)
    (l_Clause_init : K.lookup f_Clause_init = some ⟨oc_Clause_init, od_Clause_init, .func (PySem.W.fnOf "__init__" "Clause.__init__" (defArgs s_Clause_init) (defBody s_Clause_init) (defScope s_Clause_init) .none kV_Clause_init dc_Clause_init pm_Clause_init an_Clause_init cd_Clause_init ct_Clause_init), sl_Clause_init⟩)
    (e_Clause_init : PySem.W.codeIn K cd_Clause_init "Clause.__init__" = true)
    (p_Clause_init : PySem.W.keepIn K (.ref f_Clause_init) = true)
    (a_Outcome_init : PySem.W.findIn K (.ref c_Outcome) "__init__" = some (some (.ref f_Outcome_init)))
    (i_Outcome_init : PySem.W.isFn K (.ref f_Outcome_init) = true)
    (l_Outcome_init : K.lookup f_Outcome_init = some ⟨oc_Outcome_init, od_Outcome_init, .func (PySem.W.fnOf "__init__" "Outcome.__init__" (defArgs s_Outcome_init) (defBody s_Outcome_init) (defScope s_Outcome_init) .none kV_Outcome_init dc_Outcome_init pm_Outcome_init an_Outcome_init cd_Outcome_init ct_Outcome_init), sl_Outcome_init⟩)
    (e_Outcome_init : PySem.W.codeIn K cd_Outcome_init "Outcome.__init__" = true)
    (p_Outcome_init : PySem.W.keepIn K (.ref f_Outcome_init) = true)
    (a_Course_init : PySem.W.findIn K (.ref c_Course) "__init__" = some (some (.ref f_Course_init)))
    (i_Course_init : PySem.W.isFn K (.ref f_Course_init) = true)
    (l_Course_init : K.lookup f_Course_init = some ⟨oc_Course_init, od_Course_init, .func (PySem.W.fnOf "__init__" "Course.__init__" (defArgs s_Course_init) (defBody s_Course_init) (defScope s_Course_init) .none kV_Course_init dc_Course_init pm_Course_init an_Course_init cd_Course_init ct_Course_init), sl_Course_init⟩)
    (e_Course_init : PySem.W.codeIn K cd_Course_init "Course.__init__" = true)
    (p_Course_init : PySem.W.keepIn K (.ref f_Course_init) = true)
    (a_Course_first_place : PySem.W.findIn K (.ref c_Course) "first_place" = some (some (.ref f_Course_first_place)))
    (i_Course_first_place : PySem.W.isFn K (.ref f_Course_first_place) = true)
    (l_Course_first_place : K.lookup f_Course_first_place = some ⟨oc_Course_first_place, od_Course_first_place, .func (PySem.W.fnOf "first_place" "Course.first_place" (defArgs s_Course_first_place) (defBody s_Course_first_place) (defScope s_Course_first_place) .none kV_Course_first_place dc_Course_first_place pm_Course_first_place an_Course_first_place cd_Course_first_place ct_Course_first_place), sl_Course_first_place⟩)
    (e_Course_first_place : PySem.W.codeIn K cd_Course_first_place "Course.first_place" = true)
    (p_Course_first_place : PySem.W.keepIn K (.ref f_Course_first_place) = true)
    (a_Course_moves : PySem.W.findIn K (.ref c_Course) "moves" = some (some (.ref f_Course_moves)))
    (i_Course_moves : PySem.W.isFn K (.ref f_Course_moves) = true)
    (l_Course_moves : K.lookup f_Course_moves = some ⟨oc_Course_moves, od_Course_moves, .func (PySem.W.fnOf "moves" "Course.moves" (defArgs s_Course_moves) (defBody s_Course_moves) (defScope s_Course_moves) .none kV_Course_moves dc_Course_moves pm_Course_moves an_Course_moves cd_Course_moves ct_Course_moves), sl_Course_moves⟩)
    (e_Course_moves : PySem.W.codeIn K cd_Course_moves "Course.moves" = true)
    (p_Course_moves : PySem.W.keepIn K (.ref f_Course_moves) = true)
    (a_Course_outcome : PySem.W.findIn K (.ref c_Course) "outcome" = some (some (.ref f_Course_outcome)))
    (i_Course_outcome : PySem.W.isFn K (.ref f_Course_outcome) = true)
    (l_Course_outcome : K.lookup f_Course_outcome = some ⟨oc_Course_outcome, od_Course_outcome, .func (PySem.W.fnOf "outcome" "Course.outcome" (defArgs s_Course_outcome) (defBody s_Course_outcome) (defScope s_Course_outcome) .none kV_Course_outcome dc_Course_outcome pm_Course_outcome an_Course_outcome cd_Course_outcome ct_Course_outcome), sl_Course_outcome⟩)
    (e_Course_outcome : PySem.W.codeIn K cd_Course_outcome "Course.outcome" = true)
    (p_Course_outcome : PySem.W.keepIn K (.ref f_Course_outcome) = true)
    (a_Course_outcomes : PySem.W.findIn K (.ref c_Course) "outcomes" = some (some (.ref f_Course_outcomes)))
    (i_Course_outcomes : PySem.W.isFn K (.ref f_Course_outcomes) = true)
    (l_Course_outcomes : K.lookup f_Course_outcomes = some ⟨oc_Course_outcomes, od_Course_outcomes, .func (PySem.W.fnOf "outcomes" "Course.outcomes" (defArgs s_Course_outcomes) (defBody s_Course_outcomes) (defScope s_Course_outcomes) .none kV_Course_outcomes dc_Course_outcomes pm_Course_outcomes an_Course_outcomes cd_Course_outcomes ct_Course_outcomes), sl_Course_outcomes⟩)
    (e_Course_outcomes : PySem.W.codeIn K cd_Course_outcomes "Course.outcomes" = true)
    (p_Course_outcomes : PySem.W.keepIn K (.ref f_Course_outcomes) = true)
    (a_Course_different_outcomes : PySem.W.findIn K (.ref c_Course) "different_outcomes" = some (some (.ref f_Course_different_outcomes)))
    (i_Course_different_outcomes : PySem.W.isFn K (.ref f_Course_different_outcomes) = true)
    (l_Course_different_outcomes : K.lookup f_Course_different_outcomes = some ⟨oc_Course_different_outcomes, od_Course_different_outcomes, .func (PySem.W.fnOf "different_outcomes" "Course.different_outcomes" (defArgs s_Course_different_outcomes) (defBody s_Course_different_outcomes) (defScope s_Course_different_outcomes) .none kV_Course_different_outcomes dc_Course_different_outcomes pm_Course_different_outcomes an_Course_different_outcomes cd_Course_different_outcomes ct_Course_different_outcomes), sl_Course_different_outcomes⟩)
    (e_Course_different_outcomes : PySem.W.codeIn K cd_Course_different_outcomes "Course.different_outcomes" = true)
    (p_Course_different_outcomes : PySem.W.keepIn K (.ref f_Course_different_outcomes) = true)
    (a_do_act : PySem.W.nsIn K mainGlobals "do_act" = some (some (.ref f_do_act)))
    (l_do_act : K.lookup f_do_act = some ⟨oc_do_act, od_do_act, .func (PySem.W.fnOf "do_act" "do_act" (defArgs s_do_act) (defBody s_do_act) (defScope s_do_act) .none kV_do_act dc_do_act pm_do_act an_do_act cd_do_act ct_do_act), sl_do_act⟩)
    (e_do_act : PySem.W.codeIn K cd_do_act "do_act" = true)
    (p_do_act : PySem.W.keepIn K (.ref f_do_act) = true)
    (a_end_day : PySem.W.nsIn K mainGlobals "end_day" = some (some (.ref f_end_day)))
    (l_end_day : K.lookup f_end_day = some ⟨oc_end_day, od_end_day, .func (PySem.W.fnOf "end_day" "end_day" (defArgs s_end_day) (defBody s_end_day) (defScope s_end_day) .none kV_end_day dc_end_day pm_end_day an_end_day cd_end_day ct_end_day), sl_end_day⟩)
    (e_end_day : PySem.W.codeIn K cd_end_day "end_day" = true)
    (p_end_day : PySem.W.keepIn K (.ref f_end_day) = true)
    (a_call_up : PySem.W.nsIn K mainGlobals "call_up" = some (some (.ref f_call_up)))
    (l_call_up : K.lookup f_call_up = some ⟨oc_call_up, od_call_up, .func (PySem.W.fnOf "call_up" "call_up" (defArgs s_call_up) (defBody s_call_up) (defScope s_call_up) .none kV_call_up dc_call_up pm_call_up an_call_up cd_call_up ct_call_up), sl_call_up⟩)
    (e_call_up : PySem.W.codeIn K cd_call_up "call_up" = true)
    (p_call_up : PySem.W.keepIn K (.ref f_call_up) = true)
    (a_is_called_up : PySem.W.nsIn K mainGlobals "is_called_up" = some (some (.ref f_is_called_up)))
    (l_is_called_up : K.lookup f_is_called_up = some ⟨oc_is_called_up, od_is_called_up, .func (PySem.W.fnOf "is_called_up" "is_called_up" (defArgs s_is_called_up) (defBody s_is_called_up) (defScope s_is_called_up) .none kV_is_called_up dc_is_called_up pm_is_called_up an_is_called_up cd_is_called_up ct_is_called_up), sl_is_called_up⟩)
    (e_is_called_up : PySem.W.codeIn K cd_is_called_up "is_called_up" = true)
    (p_is_called_up : PySem.W.keepIn K (.ref f_is_called_up) = true)
    (a_places_from : PySem.W.nsIn K mainGlobals "places_from" = some (some (.ref f_places_from)))
    (l_places_from : K.lookup f_places_from = some ⟨oc_places_from, od_places_from, .func (PySem.W.fnOf "places_from" "places_from" (defArgs s_places_from) (defBody s_places_from) (defScope s_places_from) .none kV_places_from dc_places_from pm_places_from an_places_from cd_places_from ct_places_from), sl_places_from⟩)
    (e_places_from : PySem.W.codeIn K cd_places_from "places_from" = true)
    (p_places_from : PySem.W.keepIn K (.ref f_places_from) = true)
    (a_lost_places : PySem.W.nsIn K mainGlobals "lost_places" = some (some (.ref f_lost_places)))
    (l_lost_places : K.lookup f_lost_places = some ⟨oc_lost_places, od_lost_places, .func (PySem.W.fnOf "lost_places" "lost_places" (defArgs s_lost_places) (defBody s_lost_places) (defScope s_lost_places) .none kV_lost_places dc_lost_places pm_lost_places an_lost_places cd_lost_places ct_lost_places), sl_lost_places⟩)
    (e_lost_places : PySem.W.codeIn K cd_lost_places "lost_places" = true)
    (p_lost_places : PySem.W.keepIn K (.ref f_lost_places) = true)
    (a_entries_of : PySem.W.nsIn K mainGlobals "entries_of" = some (some (.ref f_entries_of)))
    (l_entries_of : K.lookup f_entries_of = some ⟨oc_entries_of, od_entries_of, .func (PySem.W.fnOf "entries_of" "entries_of" (defArgs s_entries_of) (defBody s_entries_of) (defScope s_entries_of) .none kV_entries_of dc_entries_of pm_entries_of an_entries_of cd_entries_of ct_entries_of), sl_entries_of⟩)
    (e_entries_of : PySem.W.codeIn K cd_entries_of "entries_of" = true)
    (p_entries_of : PySem.W.keepIn K (.ref f_entries_of) = true)
    (a_chances_of : PySem.W.nsIn K mainGlobals "chances_of" = some (some (.ref f_chances_of)))
    (l_chances_of : K.lookup f_chances_of = some ⟨oc_chances_of, od_chances_of, .func (PySem.W.fnOf "chances_of" "chances_of" (defArgs s_chances_of) (defBody s_chances_of) (defScope s_chances_of) .none kV_chances_of dc_chances_of pm_chances_of an_chances_of cd_chances_of ct_chances_of), sl_chances_of⟩)
    (e_chances_of : PySem.W.codeIn K cd_chances_of "chances_of" = true)
    (p_chances_of : PySem.W.keepIn K (.ref f_chances_of) = true)
    (a_end_for : PySem.W.nsIn K mainGlobals "end_for" = some (some (.ref f_end_for)))
    (l_end_for : K.lookup f_end_for = some ⟨oc_end_for, od_end_for, .func (PySem.W.fnOf "end_for" "end_for" (defArgs s_end_for) (defBody s_end_for) (defScope s_end_for) .none kV_end_for dc_end_for pm_end_for an_end_for cd_end_for ct_end_for), sl_end_for⟩)
    (e_end_for : PySem.W.codeIn K cd_end_for "end_for" = true)
    (p_end_for : PySem.W.keepIn K (.ref f_end_for) = true)
    (a_first_keeping_move : PySem.W.nsIn K mainGlobals "first_keeping_move" = some (some (.ref f_first_keeping_move)))
    (l_first_keeping_move : K.lookup f_first_keeping_move = some ⟨oc_first_keeping_move, od_first_keeping_move, .func (PySem.W.fnOf "first_keeping_move" "first_keeping_move" (defArgs s_first_keeping_move) (defBody s_first_keeping_move) (defScope s_first_keeping_move) .none kV_first_keeping_move dc_first_keeping_move pm_first_keeping_move an_first_keeping_move cd_first_keeping_move ct_first_keeping_move), sl_first_keeping_move⟩)
    (e_first_keeping_move : PySem.W.codeIn K cd_first_keeping_move "first_keeping_move" = true)
    (p_first_keeping_move : PySem.W.keepIn K (.ref f_first_keeping_move) = true)
    (a_what_bound : PySem.W.nsIn K mainGlobals "what_bound" = some (some (.ref f_what_bound)))
    (l_what_bound : K.lookup f_what_bound = some ⟨oc_what_bound, od_what_bound, .func (PySem.W.fnOf "what_bound" "what_bound" (defArgs s_what_bound) (defBody s_what_bound) (defScope s_what_bound) .none kV_what_bound dc_what_bound pm_what_bound an_what_bound cd_what_bound ct_what_bound), sl_what_bound⟩)
    (e_what_bound : PySem.W.codeIn K cd_what_bound "what_bound" = true)
    (p_what_bound : PySem.W.keepIn K (.ref f_what_bound) = true)
    (a_Agreement_init : PySem.W.findIn K (.ref c_Agreement) "__init__" = some (some (.ref f_Agreement_init)))
    (i_Agreement_init : PySem.W.isFn K (.ref f_Agreement_init) = true)
    (l_Agreement_init : K.lookup f_Agreement_init = some ⟨oc_Agreement_init, od_Agreement_init, .func (PySem.W.fnOf "__init__" "Agreement.__init__" (defArgs s_Agreement_init) (defBody s_Agreement_init) (defScope s_Agreement_init) .none kV_Agreement_init dc_Agreement_init pm_Agreement_init an_Agreement_init cd_Agreement_init ct_Agreement_init), sl_Agreement_init⟩)
    (e_Agreement_init : PySem.W.codeIn K cd_Agreement_init "Agreement.__init__" = true)
    (p_Agreement_init : PySem.W.keepIn K (.ref f_Agreement_init) = true)
    (a_Agreement_begin : PySem.W.findIn K (.ref c_Agreement) "begin" = some (some (.ref f_Agreement_begin)))
    (i_Agreement_begin : PySem.W.isFn K (.ref f_Agreement_begin) = true)
    (l_Agreement_begin : K.lookup f_Agreement_begin = some ⟨oc_Agreement_begin, od_Agreement_begin, .func (PySem.W.fnOf "begin" "Agreement.begin" (defArgs s_Agreement_begin) (defBody s_Agreement_begin) (defScope s_Agreement_begin) .none kV_Agreement_begin dc_Agreement_begin pm_Agreement_begin an_Agreement_begin cd_Agreement_begin ct_Agreement_begin), sl_Agreement_begin⟩)
    (e_Agreement_begin : PySem.W.codeIn K cd_Agreement_begin "Agreement.begin" = true)
    (p_Agreement_begin : PySem.W.keepIn K (.ref f_Agreement_begin) = true)
    (a_Agreement_act : PySem.W.findIn K (.ref c_Agreement) "act" = some (some (.ref f_Agreement_act)))
    (i_Agreement_act : PySem.W.isFn K (.ref f_Agreement_act) = true)
    (l_Agreement_act : K.lookup f_Agreement_act = some ⟨oc_Agreement_act, od_Agreement_act, .func (PySem.W.fnOf "act" "Agreement.act" (defArgs s_Agreement_act) (defBody s_Agreement_act) (defScope s_Agreement_act) .none kV_Agreement_act dc_Agreement_act pm_Agreement_act an_Agreement_act cd_Agreement_act ct_Agreement_act), sl_Agreement_act⟩)
    (e_Agreement_act : PySem.W.codeIn K cd_Agreement_act "Agreement.act" = true)
    (p_Agreement_act : PySem.W.keepIn K (.ref f_Agreement_act) = true)
    (a_Agreement_names : PySem.W.findIn K (.ref c_Agreement) "names" = some (some (.ref f_Agreement_names)))
    (i_Agreement_names : PySem.W.isFn K (.ref f_Agreement_names) = true)
    (l_Agreement_names : K.lookup f_Agreement_names = some ⟨oc_Agreement_names, od_Agreement_names, .func (PySem.W.fnOf "names" "Agreement.names" (defArgs s_Agreement_names) (defBody s_Agreement_names) (defScope s_Agreement_names) .none kV_Agreement_names dc_Agreement_names pm_Agreement_names an_Agreement_names cd_Agreement_names ct_Agreement_names), sl_Agreement_names⟩)
    (e_Agreement_names : PySem.W.codeIn K cd_Agreement_names "Agreement.names" = true)
    (p_Agreement_names : PySem.W.keepIn K (.ref f_Agreement_names) = true)
    (a_Agreement_clause : PySem.W.findIn K (.ref c_Agreement) "clause" = some (some (.ref f_Agreement_clause)))
    (i_Agreement_clause : PySem.W.isFn K (.ref f_Agreement_clause) = true)
    (l_Agreement_clause : K.lookup f_Agreement_clause = some ⟨oc_Agreement_clause, od_Agreement_clause, .func (PySem.W.fnOf "clause" "Agreement.clause" (defArgs s_Agreement_clause) (defBody s_Agreement_clause) (defScope s_Agreement_clause) .none kV_Agreement_clause dc_Agreement_clause pm_Agreement_clause an_Agreement_clause cd_Agreement_clause ct_Agreement_clause), sl_Agreement_clause⟩)
    (e_Agreement_clause : PySem.W.codeIn K cd_Agreement_clause "Agreement.clause" = true)
    (p_Agreement_clause : PySem.W.keepIn K (.ref f_Agreement_clause) = true)
    (a_Agreement_fits : PySem.W.findIn K (.ref c_Agreement) "fits" = some (some (.ref f_Agreement_fits)))
    (i_Agreement_fits : PySem.W.isFn K (.ref f_Agreement_fits) = true)
    (l_Agreement_fits : K.lookup f_Agreement_fits = some ⟨oc_Agreement_fits, od_Agreement_fits, .func (PySem.W.fnOf "fits" "Agreement.fits" (defArgs s_Agreement_fits) (defBody s_Agreement_fits) (defScope s_Agreement_fits) .none kV_Agreement_fits dc_Agreement_fits pm_Agreement_fits an_Agreement_fits cd_Agreement_fits ct_Agreement_fits), sl_Agreement_fits⟩)
    (e_Agreement_fits : PySem.W.codeIn K cd_Agreement_fits "Agreement.fits" = true)
    (p_Agreement_fits : PySem.W.keepIn K (.ref f_Agreement_fits) = true)
    (a_Agreement_go : PySem.W.findIn K (.ref c_Agreement) "go" = some (some (.ref f_Agreement_go)))
    (i_Agreement_go : PySem.W.isFn K (.ref f_Agreement_go) = true)
    (l_Agreement_go : K.lookup f_Agreement_go = some ⟨oc_Agreement_go, od_Agreement_go, .func (PySem.W.fnOf "go" "Agreement.go" (defArgs s_Agreement_go) (defBody s_Agreement_go) (defScope s_Agreement_go) .none kV_Agreement_go dc_Agreement_go pm_Agreement_go an_Agreement_go cd_Agreement_go ct_Agreement_go), sl_Agreement_go⟩)
    (e_Agreement_go : PySem.W.codeIn K cd_Agreement_go "Agreement.go" = true)
    (p_Agreement_go : PySem.W.keepIn K (.ref f_Agreement_go) = true)
    (a_Agreement_do : PySem.W.findIn K (.ref c_Agreement) "do" = some (some (.ref f_Agreement_do)))
    (i_Agreement_do : PySem.W.isFn K (.ref f_Agreement_do) = true)
    (l_Agreement_do : K.lookup f_Agreement_do = some ⟨oc_Agreement_do, od_Agreement_do, .func (PySem.W.fnOf "do" "Agreement.do" (defArgs s_Agreement_do) (defBody s_Agreement_do) (defScope s_Agreement_do) .none kV_Agreement_do dc_Agreement_do pm_Agreement_do an_Agreement_do cd_Agreement_do ct_Agreement_do), sl_Agreement_do⟩)
    (e_Agreement_do : PySem.W.codeIn K cd_Agreement_do "Agreement.do" = true)
    (p_Agreement_do : PySem.W.keepIn K (.ref f_Agreement_do) = true)
    (a_Agreement_owed : PySem.W.findIn K (.ref c_Agreement) "owed" = some (some (.ref f_Agreement_owed)))
    (i_Agreement_owed : PySem.W.isFn K (.ref f_Agreement_owed) = true)
    (l_Agreement_owed : K.lookup f_Agreement_owed = some ⟨oc_Agreement_owed, od_Agreement_owed, .func (PySem.W.fnOf "owed" "Agreement.owed" (defArgs s_Agreement_owed) (defBody s_Agreement_owed) (defScope s_Agreement_owed) .none kV_Agreement_owed dc_Agreement_owed pm_Agreement_owed an_Agreement_owed cd_Agreement_owed ct_Agreement_owed), sl_Agreement_owed⟩)
    (e_Agreement_owed : PySem.W.codeIn K cd_Agreement_owed "Agreement.owed" = true)
    (p_Agreement_owed : PySem.W.keepIn K (.ref f_Agreement_owed) = true)
    (a_Agreement_can : PySem.W.findIn K (.ref c_Agreement) "can" = some (some (.ref f_Agreement_can)))
    (i_Agreement_can : PySem.W.isFn K (.ref f_Agreement_can) = true)
    (l_Agreement_can : K.lookup f_Agreement_can = some ⟨oc_Agreement_can, od_Agreement_can, .func (PySem.W.fnOf "can" "Agreement.can" (defArgs s_Agreement_can) (defBody s_Agreement_can) (defScope s_Agreement_can) .none kV_Agreement_can dc_Agreement_can pm_Agreement_can an_Agreement_can cd_Agreement_can ct_Agreement_can), sl_Agreement_can⟩)
    (e_Agreement_can : PySem.W.codeIn K cd_Agreement_can "Agreement.can" = true)
    (p_Agreement_can : PySem.W.keepIn K (.ref f_Agreement_can) = true)
    (a_Agreement_best : PySem.W.findIn K (.ref c_Agreement) "best" = some (some (.ref f_Agreement_best)))
    (i_Agreement_best : PySem.W.isFn K (.ref f_Agreement_best) = true)
    (l_Agreement_best : K.lookup f_Agreement_best = some ⟨oc_Agreement_best, od_Agreement_best, .func (PySem.W.fnOf "best" "Agreement.best" (defArgs s_Agreement_best) (defBody s_Agreement_best) (defScope s_Agreement_best) .none kV_Agreement_best dc_Agreement_best pm_Agreement_best an_Agreement_best cd_Agreement_best ct_Agreement_best), sl_Agreement_best⟩)
    (e_Agreement_best : PySem.W.codeIn K cd_Agreement_best "Agreement.best" = true)
    (p_Agreement_best : PySem.W.keepIn K (.ref f_Agreement_best) = true)
    (a_answers : PySem.W.nsIn K mainGlobals "answers" = some (some (.ref f_answers)))
    (l_answers : K.lookup f_answers = some ⟨oc_answers, od_answers, .func (PySem.W.fnOf "answers" "answers" (defArgs s_answers) (defBody s_answers) (defScope s_answers) .none kV_answers dc_answers pm_answers an_answers cd_answers ct_answers), sl_answers⟩)
    (e_answers : PySem.W.codeIn K cd_answers "answers" = true)
    (p_answers : PySem.W.keepIn K (.ref f_answers) = true)
    (a_answer_of : PySem.W.nsIn K mainGlobals "answer_of" = some (some (.ref f_answer_of)))
    (l_answer_of : K.lookup f_answer_of = some ⟨oc_answer_of, od_answer_of, .func (PySem.W.fnOf "answer_of" "answer_of" (defArgs s_answer_of) (defBody s_answer_of) (defScope s_answer_of) .none kV_answer_of dc_answer_of pm_answer_of an_answer_of cd_answer_of ct_answer_of), sl_answer_of⟩)
    (e_answer_of : PySem.W.codeIn K cd_answer_of "answer_of" = true)
    (p_answer_of : PySem.W.keepIn K (.ref f_answer_of) = true)
    (a_clause_of : PySem.W.nsIn K mainGlobals "clause_of" = some (some (.ref f_clause_of)))
    (l_clause_of : K.lookup f_clause_of = some ⟨oc_clause_of, od_clause_of, .func (PySem.W.fnOf "clause_of" "clause_of" (defArgs s_clause_of) (defBody s_clause_of) (defScope s_clause_of) .none kV_clause_of dc_clause_of pm_clause_of an_clause_of cd_clause_of ct_clause_of), sl_clause_of⟩)
    (e_clause_of : PySem.W.codeIn K cd_clause_of "clause_of" = true)
    (p_clause_of : PySem.W.keepIn K (.ref f_clause_of) = true)
    (pg_Clause : PySem.W.plainGet K c_Clause Str.empty = true)
    (hd_Clause : PySem.W.hasDictIn K c_Clause = true)
    (po_Clause : PySem.W.plainOver K c_Clause = true)
    (sa_Clause : PySem.W.findIn K (.ref c_Clause) "__setattr__" = some (some (.builtin "object.__setattr__")))
    (mk_Clause : PySem.W.makesIn K c_Clause = true)
    (kc_Clause : PySem.W.keepIn K (.ref c_Clause) = true)
    (n_Clause_when : PySem.W.findIn K (.ref c_Clause) "when" = some none)
    (n_Clause_what : PySem.W.findIn K (.ref c_Clause) "what" = some none)
    (n_Clause_must : PySem.W.findIn K (.ref c_Clause) "must" = some none)
    (n_Clause_who : PySem.W.findIn K (.ref c_Clause) "who" = some none)
    (n_Clause_deed : PySem.W.findIn K (.ref c_Clause) "deed" = some none)
    (n_Clause_days : PySem.W.findIn K (.ref c_Clause) "days" = some none)
    (pg_Outcome : PySem.W.plainGet K c_Outcome Str.empty = true)
    (hd_Outcome : PySem.W.hasDictIn K c_Outcome = true)
    (po_Outcome : PySem.W.plainOver K c_Outcome = true)
    (sa_Outcome : PySem.W.findIn K (.ref c_Outcome) "__setattr__" = some (some (.builtin "object.__setattr__")))
    (mk_Outcome : PySem.W.makesIn K c_Outcome = true)
    (kc_Outcome : PySem.W.keepIn K (.ref c_Outcome) = true)
    (n_Outcome_deed : PySem.W.findIn K (.ref c_Outcome) "deed" = some none)
    (n_Outcome_place : PySem.W.findIn K (.ref c_Outcome) "place" = some none)
    (n_Outcome_broke : PySem.W.findIn K (.ref c_Outcome) "broke" = some none)
    (pg_Course : PySem.W.plainGet K c_Course Str.empty = true)
    (hd_Course : PySem.W.hasDictIn K c_Course = true)
    (po_Course : PySem.W.plainOver K c_Course = true)
    (sa_Course : PySem.W.findIn K (.ref c_Course) "__setattr__" = some (some (.builtin "object.__setattr__")))
    (mk_Course : PySem.W.makesIn K c_Course = true)
    (kc_Course : PySem.W.keepIn K (.ref c_Course) = true)
    (n_Course_parties : PySem.W.findIn K (.ref c_Course) "parties" = some none)
    (n_Course_owners : PySem.W.findIn K (.ref c_Course) "owners" = some none)
    (n_Course_clauses : PySem.W.findIn K (.ref c_Course) "clauses" = some none)
    (n_Course_known : PySem.W.findIn K (.ref c_Course) "known" = some none)
    (pg_Agreement : PySem.W.plainGet K c_Agreement Str.empty = true)
    (hd_Agreement : PySem.W.hasDictIn K c_Agreement = true)
    (po_Agreement : PySem.W.plainOver K c_Agreement = true)
    (sa_Agreement : PySem.W.findIn K (.ref c_Agreement) "__setattr__" = some (some (.builtin "object.__setattr__")))
    (mk_Agreement : PySem.W.makesIn K c_Agreement = true)
    (kc_Agreement : PySem.W.keepIn K (.ref c_Agreement) = true)
    (n_Agreement_parties : PySem.W.findIn K (.ref c_Agreement) "parties" = some none)
    (n_Agreement_owners : PySem.W.findIn K (.ref c_Agreement) "owners" = some none)
    (n_Agreement_clauses : PySem.W.findIn K (.ref c_Agreement) "clauses" = some none)
    (n_Agreement_gone : PySem.W.findIn K (.ref c_Agreement) "gone" = some none)
    (n_Agreement_course : PySem.W.findIn K (.ref c_Agreement) "course" = some none)
    (n_Agreement_place : PySem.W.findIn K (.ref c_Agreement) "place" = some none)
    (v_ACT_COUNT : PySem.W.nsIn K mainGlobals "ACT_COUNT" = some (some (.int (16) t_ACT_COUNT)))
    (v_MOST_PARTIES : PySem.W.nsIn K mainGlobals "MOST_PARTIES" = some (some (.int (4) t_MOST_PARTIES)))
    (v_MOST_CLAUSES : PySem.W.nsIn K mainGlobals "MOST_CLAUSES" = some (some (.int (8) t_MOST_CLAUSES)))
    (v_MOST_DAYS : PySem.W.nsIn K mainGlobals "MOST_DAYS" = some (some (.int (7) t_MOST_DAYS)))
    (v_MUST : PySem.W.nsIn K mainGlobals "MUST" = some (some (.int (1) t_MUST)))
    (v_AT_THE_BEGINNING : PySem.W.nsIn K mainGlobals "AT_THE_BEGINNING" = some (some (.int (0) t_AT_THE_BEGINNING)))
    (v_BY_AN_ACT : PySem.W.nsIn K mainGlobals "BY_AN_ACT" = some (some (.int (1) t_BY_AN_ACT)))
    (v_BY_A_KEPT_CLAUSE : PySem.W.nsIn K mainGlobals "BY_A_KEPT_CLAUSE" = some (some (.int (2) t_BY_A_KEPT_CLAUSE)))
    (v_BY_A_BROKEN_CLAUSE : PySem.W.nsIn K mainGlobals "BY_A_BROKEN_CLAUSE" = some (some (.int (3) t_BY_A_BROKEN_CLAUSE)))
    (v_NO_ACT : PySem.W.nsIn K mainGlobals "NO_ACT" = some (some (.int (255) t_NO_ACT)))
    (v_MOST_PLACES : PySem.W.nsIn K mainGlobals "MOST_PLACES" = some (some (.int (300) t_MOST_PLACES)))
    (v_BROKEN : PySem.W.nsIn K mainGlobals "BROKEN" = some (some .none))
    (v_DONE : PySem.W.nsIn K mainGlobals "DONE" = some (some (.int (0) t_DONE)))
    (v_NOT_THEIR_TURN : PySem.W.nsIn K mainGlobals "NOT_THEIR_TURN" = some (some (.int (-1) t_NOT_THEIR_TURN)))
    (v_NOT_NOW : PySem.W.nsIn K mainGlobals "NOT_NOW" = some (some (.int (-16) t_NOT_NOW)))
    (v_NAMED : PySem.W.nsIn K mainGlobals "NAMED" = some (some (.int (-17) t_NAMED)))
    (v_WRONG : PySem.W.nsIn K mainGlobals "WRONG" = some (some (.int (-22) t_WRONG)))
    (v_FULL : PySem.W.nsIn K mainGlobals "FULL" = some (some (.int (-28) t_FULL)))
    (v_CANNOT : PySem.W.nsIn K mainGlobals "CANNOT" = some (some (.int (-33) t_CANNOT)))
    (v_TOO_MANY : PySem.W.nsIn K mainGlobals "TOO_MANY" = some (some (.int (-75) t_TOO_MANY)))
    (v_BEGIN : PySem.W.nsIn K mainGlobals "BEGIN" = some (some (.int (0) t_BEGIN)))
    (v_ACT : PySem.W.nsIn K mainGlobals "ACT" = some (some (.int (1) t_ACT)))
    (v_CLAUSE : PySem.W.nsIn K mainGlobals "CLAUSE" = some (some (.int (2) t_CLAUSE)))
    (v_GO : PySem.W.nsIn K mainGlobals "GO" = some (some (.int (3) t_GO)))
    (v_DO : PySem.W.nsIn K mainGlobals "DO" = some (some (.int (4) t_DO)))
    (v_OWED : PySem.W.nsIn K mainGlobals "OWED" = some (some (.int (5) t_OWED)))
    (v_CAN : PySem.W.nsIn K mainGlobals "CAN" = some (some (.int (6) t_CAN)))
    (v_NUMBER_COUNTS : PySem.W.nsIn K mainGlobals "NUMBER_COUNTS" = some (some (.ref k_NUMBER_COUNTS)))
    (q_NUMBER_COUNTS : K.lookup k_NUMBER_COUNTS = some ⟨.type "tuple", od_NUMBER_COUNTS, .seq #[.int (1) t_NUMBER_COUNTS_0, .int (2) t_NUMBER_COUNTS_1, .int (6) t_NUMBER_COUNTS_2, .int (0) t_NUMBER_COUNTS_3, .int (2) t_NUMBER_COUNTS_4, .int (0) t_NUMBER_COUNTS_5, .int (1) t_NUMBER_COUNTS_6, .int (0) t_NUMBER_COUNTS_7] nn_NUMBER_COUNTS, sl_NUMBER_COUNTS⟩)
    (no_any : PySem.W.nsIn K mainGlobals "any" = some none)
    (no_enumerate : PySem.W.nsIn K mainGlobals "enumerate" = some none)
    (no_len : PySem.W.nsIn K mainGlobals "len" = some none)
    (no_list : PySem.W.nsIn K mainGlobals "list" = some none)
    (no_max : PySem.W.nsIn K mainGlobals "max" = some none)
    (no_range : PySem.W.nsIn K mainGlobals "range" = some none)
    (no_tuple : PySem.W.nsIn K mainGlobals "tuple" = some none)
    : ∃ A : Ad, Txt K mg A := by
  refine ⟨{ c_Clause := c_Clause, c_Outcome := c_Outcome, c_Course := c_Course, c_Agreement := c_Agreement, f_Clause_init := f_Clause_init, f_Outcome_init := f_Outcome_init, f_Course_init := f_Course_init, f_Course_first_place := f_Course_first_place, f_Course_moves := f_Course_moves, f_Course_outcome := f_Course_outcome, f_Course_outcomes := f_Course_outcomes, f_Course_different_outcomes := f_Course_different_outcomes, f_do_act := f_do_act, f_end_day := f_end_day, f_call_up := f_call_up, f_is_called_up := f_is_called_up, f_places_from := f_places_from, f_lost_places := f_lost_places, f_entries_of := f_entries_of, f_chances_of := f_chances_of, f_end_for := f_end_for, f_first_keeping_move := f_first_keeping_move, f_what_bound := f_what_bound, f_Agreement_init := f_Agreement_init, f_Agreement_begin := f_Agreement_begin, f_Agreement_act := f_Agreement_act, f_Agreement_names := f_Agreement_names, f_Agreement_clause := f_Agreement_clause, f_Agreement_fits := f_Agreement_fits, f_Agreement_go := f_Agreement_go, f_Agreement_do := f_Agreement_do, f_Agreement_owed := f_Agreement_owed, f_Agreement_can := f_Agreement_can, f_Agreement_best := f_Agreement_best, f_answers := f_answers, f_answer_of := f_answer_of, f_clause_of := f_clause_of, d_Clause_init := PySem.W.fnOf "__init__" "Clause.__init__" (defArgs s_Clause_init) (defBody s_Clause_init) (defScope s_Clause_init) .none kV_Clause_init dc_Clause_init pm_Clause_init an_Clause_init cd_Clause_init ct_Clause_init, d_Outcome_init := PySem.W.fnOf "__init__" "Outcome.__init__" (defArgs s_Outcome_init) (defBody s_Outcome_init) (defScope s_Outcome_init) .none kV_Outcome_init dc_Outcome_init pm_Outcome_init an_Outcome_init cd_Outcome_init ct_Outcome_init, d_Course_init := PySem.W.fnOf "__init__" "Course.__init__" (defArgs s_Course_init) (defBody s_Course_init) (defScope s_Course_init) .none kV_Course_init dc_Course_init pm_Course_init an_Course_init cd_Course_init ct_Course_init, d_Course_first_place := PySem.W.fnOf "first_place" "Course.first_place" (defArgs s_Course_first_place) (defBody s_Course_first_place) (defScope s_Course_first_place) .none kV_Course_first_place dc_Course_first_place pm_Course_first_place an_Course_first_place cd_Course_first_place ct_Course_first_place, d_Course_moves := PySem.W.fnOf "moves" "Course.moves" (defArgs s_Course_moves) (defBody s_Course_moves) (defScope s_Course_moves) .none kV_Course_moves dc_Course_moves pm_Course_moves an_Course_moves cd_Course_moves ct_Course_moves, d_Course_outcome := PySem.W.fnOf "outcome" "Course.outcome" (defArgs s_Course_outcome) (defBody s_Course_outcome) (defScope s_Course_outcome) .none kV_Course_outcome dc_Course_outcome pm_Course_outcome an_Course_outcome cd_Course_outcome ct_Course_outcome, d_Course_outcomes := PySem.W.fnOf "outcomes" "Course.outcomes" (defArgs s_Course_outcomes) (defBody s_Course_outcomes) (defScope s_Course_outcomes) .none kV_Course_outcomes dc_Course_outcomes pm_Course_outcomes an_Course_outcomes cd_Course_outcomes ct_Course_outcomes, d_Course_different_outcomes := PySem.W.fnOf "different_outcomes" "Course.different_outcomes" (defArgs s_Course_different_outcomes) (defBody s_Course_different_outcomes) (defScope s_Course_different_outcomes) .none kV_Course_different_outcomes dc_Course_different_outcomes pm_Course_different_outcomes an_Course_different_outcomes cd_Course_different_outcomes ct_Course_different_outcomes, d_do_act := PySem.W.fnOf "do_act" "do_act" (defArgs s_do_act) (defBody s_do_act) (defScope s_do_act) .none kV_do_act dc_do_act pm_do_act an_do_act cd_do_act ct_do_act, d_end_day := PySem.W.fnOf "end_day" "end_day" (defArgs s_end_day) (defBody s_end_day) (defScope s_end_day) .none kV_end_day dc_end_day pm_end_day an_end_day cd_end_day ct_end_day, d_call_up := PySem.W.fnOf "call_up" "call_up" (defArgs s_call_up) (defBody s_call_up) (defScope s_call_up) .none kV_call_up dc_call_up pm_call_up an_call_up cd_call_up ct_call_up, d_is_called_up := PySem.W.fnOf "is_called_up" "is_called_up" (defArgs s_is_called_up) (defBody s_is_called_up) (defScope s_is_called_up) .none kV_is_called_up dc_is_called_up pm_is_called_up an_is_called_up cd_is_called_up ct_is_called_up, d_places_from := PySem.W.fnOf "places_from" "places_from" (defArgs s_places_from) (defBody s_places_from) (defScope s_places_from) .none kV_places_from dc_places_from pm_places_from an_places_from cd_places_from ct_places_from, d_lost_places := PySem.W.fnOf "lost_places" "lost_places" (defArgs s_lost_places) (defBody s_lost_places) (defScope s_lost_places) .none kV_lost_places dc_lost_places pm_lost_places an_lost_places cd_lost_places ct_lost_places, d_entries_of := PySem.W.fnOf "entries_of" "entries_of" (defArgs s_entries_of) (defBody s_entries_of) (defScope s_entries_of) .none kV_entries_of dc_entries_of pm_entries_of an_entries_of cd_entries_of ct_entries_of, d_chances_of := PySem.W.fnOf "chances_of" "chances_of" (defArgs s_chances_of) (defBody s_chances_of) (defScope s_chances_of) .none kV_chances_of dc_chances_of pm_chances_of an_chances_of cd_chances_of ct_chances_of, d_end_for := PySem.W.fnOf "end_for" "end_for" (defArgs s_end_for) (defBody s_end_for) (defScope s_end_for) .none kV_end_for dc_end_for pm_end_for an_end_for cd_end_for ct_end_for, d_first_keeping_move := PySem.W.fnOf "first_keeping_move" "first_keeping_move" (defArgs s_first_keeping_move) (defBody s_first_keeping_move) (defScope s_first_keeping_move) .none kV_first_keeping_move dc_first_keeping_move pm_first_keeping_move an_first_keeping_move cd_first_keeping_move ct_first_keeping_move, d_what_bound := PySem.W.fnOf "what_bound" "what_bound" (defArgs s_what_bound) (defBody s_what_bound) (defScope s_what_bound) .none kV_what_bound dc_what_bound pm_what_bound an_what_bound cd_what_bound ct_what_bound, d_Agreement_init := PySem.W.fnOf "__init__" "Agreement.__init__" (defArgs s_Agreement_init) (defBody s_Agreement_init) (defScope s_Agreement_init) .none kV_Agreement_init dc_Agreement_init pm_Agreement_init an_Agreement_init cd_Agreement_init ct_Agreement_init, d_Agreement_begin := PySem.W.fnOf "begin" "Agreement.begin" (defArgs s_Agreement_begin) (defBody s_Agreement_begin) (defScope s_Agreement_begin) .none kV_Agreement_begin dc_Agreement_begin pm_Agreement_begin an_Agreement_begin cd_Agreement_begin ct_Agreement_begin, d_Agreement_act := PySem.W.fnOf "act" "Agreement.act" (defArgs s_Agreement_act) (defBody s_Agreement_act) (defScope s_Agreement_act) .none kV_Agreement_act dc_Agreement_act pm_Agreement_act an_Agreement_act cd_Agreement_act ct_Agreement_act, d_Agreement_names := PySem.W.fnOf "names" "Agreement.names" (defArgs s_Agreement_names) (defBody s_Agreement_names) (defScope s_Agreement_names) .none kV_Agreement_names dc_Agreement_names pm_Agreement_names an_Agreement_names cd_Agreement_names ct_Agreement_names, d_Agreement_clause := PySem.W.fnOf "clause" "Agreement.clause" (defArgs s_Agreement_clause) (defBody s_Agreement_clause) (defScope s_Agreement_clause) .none kV_Agreement_clause dc_Agreement_clause pm_Agreement_clause an_Agreement_clause cd_Agreement_clause ct_Agreement_clause, d_Agreement_fits := PySem.W.fnOf "fits" "Agreement.fits" (defArgs s_Agreement_fits) (defBody s_Agreement_fits) (defScope s_Agreement_fits) .none kV_Agreement_fits dc_Agreement_fits pm_Agreement_fits an_Agreement_fits cd_Agreement_fits ct_Agreement_fits, d_Agreement_go := PySem.W.fnOf "go" "Agreement.go" (defArgs s_Agreement_go) (defBody s_Agreement_go) (defScope s_Agreement_go) .none kV_Agreement_go dc_Agreement_go pm_Agreement_go an_Agreement_go cd_Agreement_go ct_Agreement_go, d_Agreement_do := PySem.W.fnOf "do" "Agreement.do" (defArgs s_Agreement_do) (defBody s_Agreement_do) (defScope s_Agreement_do) .none kV_Agreement_do dc_Agreement_do pm_Agreement_do an_Agreement_do cd_Agreement_do ct_Agreement_do, d_Agreement_owed := PySem.W.fnOf "owed" "Agreement.owed" (defArgs s_Agreement_owed) (defBody s_Agreement_owed) (defScope s_Agreement_owed) .none kV_Agreement_owed dc_Agreement_owed pm_Agreement_owed an_Agreement_owed cd_Agreement_owed ct_Agreement_owed, d_Agreement_can := PySem.W.fnOf "can" "Agreement.can" (defArgs s_Agreement_can) (defBody s_Agreement_can) (defScope s_Agreement_can) .none kV_Agreement_can dc_Agreement_can pm_Agreement_can an_Agreement_can cd_Agreement_can ct_Agreement_can, d_Agreement_best := PySem.W.fnOf "best" "Agreement.best" (defArgs s_Agreement_best) (defBody s_Agreement_best) (defScope s_Agreement_best) .none kV_Agreement_best dc_Agreement_best pm_Agreement_best an_Agreement_best cd_Agreement_best ct_Agreement_best, d_answers := PySem.W.fnOf "answers" "answers" (defArgs s_answers) (defBody s_answers) (defScope s_answers) .none kV_answers dc_answers pm_answers an_answers cd_answers ct_answers, d_answer_of := PySem.W.fnOf "answer_of" "answer_of" (defArgs s_answer_of) (defBody s_answer_of) (defScope s_answer_of) .none kV_answer_of dc_answer_of pm_answer_of an_answer_of cd_answer_of ct_answer_of, d_clause_of := PySem.W.fnOf "clause_of" "clause_of" (defArgs s_clause_of) (defBody s_clause_of) (defScope s_clause_of) .none kV_clause_of dc_clause_of pm_clause_of an_clause_of cd_clause_of ct_clause_of, k_NUMBER_COUNTS := k_NUMBER_COUNTS }, ?_⟩
  exact {
    mg_Clause := PySem.W.mg_of X G aC_Clause,
    cl_Clause := ⟨pg_Clause, hd_Clause, po_Clause, sa_Clause⟩,
    M_Clause := ⟨mk_Clause, a_Clause_init, i_Clause_init, kc_Clause⟩,
    n_Clause_when := n_Clause_when,
    n_Clause_what := n_Clause_what,
    n_Clause_must := n_Clause_must,
    n_Clause_who := n_Clause_who,
    n_Clause_deed := n_Clause_deed,
    n_Clause_days := n_Clause_days,
    mg_Outcome := PySem.W.mg_of X G aC_Outcome,
    cl_Outcome := ⟨pg_Outcome, hd_Outcome, po_Outcome, sa_Outcome⟩,
    M_Outcome := ⟨mk_Outcome, a_Outcome_init, i_Outcome_init, kc_Outcome⟩,
    n_Outcome_deed := n_Outcome_deed,
    n_Outcome_place := n_Outcome_place,
    n_Outcome_broke := n_Outcome_broke,
    mg_Course := PySem.W.mg_of X G aC_Course,
    cl_Course := ⟨pg_Course, hd_Course, po_Course, sa_Course⟩,
    M_Course := ⟨mk_Course, a_Course_init, i_Course_init, kc_Course⟩,
    n_Course_parties := n_Course_parties,
    n_Course_owners := n_Course_owners,
    n_Course_clauses := n_Course_clauses,
    n_Course_known := n_Course_known,
    mg_Agreement := PySem.W.mg_of X G aC_Agreement,
    cl_Agreement := ⟨pg_Agreement, hd_Agreement, po_Agreement, sa_Agreement⟩,
    M_Agreement := ⟨mk_Agreement, a_Agreement_init, i_Agreement_init, kc_Agreement⟩,
    n_Agreement_parties := n_Agreement_parties,
    n_Agreement_owners := n_Agreement_owners,
    n_Agreement_clauses := n_Agreement_clauses,
    n_Agreement_gone := n_Agreement_gone,
    n_Agreement_course := n_Agreement_course,
    n_Agreement_place := n_Agreement_place,
    F_Clause_init := fun_mk (st := s_Clause_init) l_Clause_init e_Clause_init p_Clause_init,
    F_Outcome_init := fun_mk (st := s_Outcome_init) l_Outcome_init e_Outcome_init p_Outcome_init,
    F_Course_init := fun_mk (st := s_Course_init) l_Course_init e_Course_init p_Course_init,
    F_Course_first_place := fun_mk (st := s_Course_first_place) l_Course_first_place e_Course_first_place p_Course_first_place,
    m_Course_first_place := ⟨a_Course_first_place, i_Course_first_place, p_Course_first_place⟩,
    F_Course_moves := fun_mk (st := s_Course_moves) l_Course_moves e_Course_moves p_Course_moves,
    m_Course_moves := ⟨a_Course_moves, i_Course_moves, p_Course_moves⟩,
    F_Course_outcome := fun_mk (st := s_Course_outcome) l_Course_outcome e_Course_outcome p_Course_outcome,
    m_Course_outcome := ⟨a_Course_outcome, i_Course_outcome, p_Course_outcome⟩,
    F_Course_outcomes := fun_mk (st := s_Course_outcomes) l_Course_outcomes e_Course_outcomes p_Course_outcomes,
    m_Course_outcomes := ⟨a_Course_outcomes, i_Course_outcomes, p_Course_outcomes⟩,
    F_Course_different_outcomes := fun_mk (st := s_Course_different_outcomes) l_Course_different_outcomes e_Course_different_outcomes p_Course_different_outcomes,
    m_Course_different_outcomes := ⟨a_Course_different_outcomes, i_Course_different_outcomes, p_Course_different_outcomes⟩,
    F_do_act := fun_mk (st := s_do_act) l_do_act e_do_act p_do_act,
    mg_do_act := PySem.W.mg_of X G a_do_act,
    F_end_day := fun_mk (st := s_end_day) l_end_day e_end_day p_end_day,
    mg_end_day := PySem.W.mg_of X G a_end_day,
    F_call_up := fun_mk (st := s_call_up) l_call_up e_call_up p_call_up,
    mg_call_up := PySem.W.mg_of X G a_call_up,
    F_is_called_up := fun_mk (st := s_is_called_up) l_is_called_up e_is_called_up p_is_called_up,
    mg_is_called_up := PySem.W.mg_of X G a_is_called_up,
    F_places_from := fun_mk (st := s_places_from) l_places_from e_places_from p_places_from,
    mg_places_from := PySem.W.mg_of X G a_places_from,
    F_lost_places := fun_mk (st := s_lost_places) l_lost_places e_lost_places p_lost_places,
    mg_lost_places := PySem.W.mg_of X G a_lost_places,
    F_entries_of := fun_mk (st := s_entries_of) l_entries_of e_entries_of p_entries_of,
    mg_entries_of := PySem.W.mg_of X G a_entries_of,
    F_chances_of := fun_mk (st := s_chances_of) l_chances_of e_chances_of p_chances_of,
    mg_chances_of := PySem.W.mg_of X G a_chances_of,
    F_end_for := fun_mk (st := s_end_for) l_end_for e_end_for p_end_for,
    mg_end_for := PySem.W.mg_of X G a_end_for,
    F_first_keeping_move := fun_mk (st := s_first_keeping_move) l_first_keeping_move e_first_keeping_move p_first_keeping_move,
    mg_first_keeping_move := PySem.W.mg_of X G a_first_keeping_move,
    F_what_bound := fun_mk (st := s_what_bound) l_what_bound e_what_bound p_what_bound,
    mg_what_bound := PySem.W.mg_of X G a_what_bound,
    F_Agreement_init := fun_mk (st := s_Agreement_init) l_Agreement_init e_Agreement_init p_Agreement_init,
    F_Agreement_begin := fun_mk (st := s_Agreement_begin) l_Agreement_begin e_Agreement_begin p_Agreement_begin,
    m_Agreement_begin := ⟨a_Agreement_begin, i_Agreement_begin, p_Agreement_begin⟩,
    F_Agreement_act := fun_mk (st := s_Agreement_act) l_Agreement_act e_Agreement_act p_Agreement_act,
    m_Agreement_act := ⟨a_Agreement_act, i_Agreement_act, p_Agreement_act⟩,
    F_Agreement_names := fun_mk (st := s_Agreement_names) l_Agreement_names e_Agreement_names p_Agreement_names,
    m_Agreement_names := ⟨a_Agreement_names, i_Agreement_names, p_Agreement_names⟩,
    F_Agreement_clause := fun_mk (st := s_Agreement_clause) l_Agreement_clause e_Agreement_clause p_Agreement_clause,
    m_Agreement_clause := ⟨a_Agreement_clause, i_Agreement_clause, p_Agreement_clause⟩,
    F_Agreement_fits := fun_mk (st := s_Agreement_fits) l_Agreement_fits e_Agreement_fits p_Agreement_fits,
    m_Agreement_fits := ⟨a_Agreement_fits, i_Agreement_fits, p_Agreement_fits⟩,
    F_Agreement_go := fun_mk (st := s_Agreement_go) l_Agreement_go e_Agreement_go p_Agreement_go,
    m_Agreement_go := ⟨a_Agreement_go, i_Agreement_go, p_Agreement_go⟩,
    F_Agreement_do := fun_mk (st := s_Agreement_do) l_Agreement_do e_Agreement_do p_Agreement_do,
    m_Agreement_do := ⟨a_Agreement_do, i_Agreement_do, p_Agreement_do⟩,
    F_Agreement_owed := fun_mk (st := s_Agreement_owed) l_Agreement_owed e_Agreement_owed p_Agreement_owed,
    m_Agreement_owed := ⟨a_Agreement_owed, i_Agreement_owed, p_Agreement_owed⟩,
    F_Agreement_can := fun_mk (st := s_Agreement_can) l_Agreement_can e_Agreement_can p_Agreement_can,
    m_Agreement_can := ⟨a_Agreement_can, i_Agreement_can, p_Agreement_can⟩,
    F_Agreement_best := fun_mk (st := s_Agreement_best) l_Agreement_best e_Agreement_best p_Agreement_best,
    m_Agreement_best := ⟨a_Agreement_best, i_Agreement_best, p_Agreement_best⟩,
    F_answers := fun_mk (st := s_answers) l_answers e_answers p_answers,
    mg_answers := PySem.W.mg_of X G a_answers,
    F_answer_of := fun_mk (st := s_answer_of) l_answer_of e_answer_of p_answer_of,
    mg_answer_of := PySem.W.mg_of X G a_answer_of,
    F_clause_of := fun_mk (st := s_clause_of) l_clause_of e_clause_of p_clause_of,
    mg_clause_of := PySem.W.mg_of X G a_clause_of,
    v_ACT_COUNT := ⟨_, PySem.W.mg_of X G v_ACT_COUNT⟩,
    v_MOST_PARTIES := ⟨_, PySem.W.mg_of X G v_MOST_PARTIES⟩,
    v_MOST_CLAUSES := ⟨_, PySem.W.mg_of X G v_MOST_CLAUSES⟩,
    v_MOST_DAYS := ⟨_, PySem.W.mg_of X G v_MOST_DAYS⟩,
    v_MUST := ⟨_, PySem.W.mg_of X G v_MUST⟩,
    v_AT_THE_BEGINNING := ⟨_, PySem.W.mg_of X G v_AT_THE_BEGINNING⟩,
    v_BY_AN_ACT := ⟨_, PySem.W.mg_of X G v_BY_AN_ACT⟩,
    v_BY_A_KEPT_CLAUSE := ⟨_, PySem.W.mg_of X G v_BY_A_KEPT_CLAUSE⟩,
    v_BY_A_BROKEN_CLAUSE := ⟨_, PySem.W.mg_of X G v_BY_A_BROKEN_CLAUSE⟩,
    v_NO_ACT := ⟨_, PySem.W.mg_of X G v_NO_ACT⟩,
    v_MOST_PLACES := ⟨_, PySem.W.mg_of X G v_MOST_PLACES⟩,
    v_BROKEN := PySem.W.mg_of X G v_BROKEN,
    v_DONE := ⟨_, PySem.W.mg_of X G v_DONE⟩,
    v_NOT_THEIR_TURN := ⟨_, PySem.W.mg_of X G v_NOT_THEIR_TURN⟩,
    v_NOT_NOW := ⟨_, PySem.W.mg_of X G v_NOT_NOW⟩,
    v_NAMED := ⟨_, PySem.W.mg_of X G v_NAMED⟩,
    v_WRONG := ⟨_, PySem.W.mg_of X G v_WRONG⟩,
    v_FULL := ⟨_, PySem.W.mg_of X G v_FULL⟩,
    v_CANNOT := ⟨_, PySem.W.mg_of X G v_CANNOT⟩,
    v_TOO_MANY := ⟨_, PySem.W.mg_of X G v_TOO_MANY⟩,
    v_BEGIN := ⟨_, PySem.W.mg_of X G v_BEGIN⟩,
    v_ACT := ⟨_, PySem.W.mg_of X G v_ACT⟩,
    v_CLAUSE := ⟨_, PySem.W.mg_of X G v_CLAUSE⟩,
    v_GO := ⟨_, PySem.W.mg_of X G v_GO⟩,
    v_DO := ⟨_, PySem.W.mg_of X G v_DO⟩,
    v_OWED := ⟨_, PySem.W.mg_of X G v_OWED⟩,
    v_CAN := ⟨_, PySem.W.mg_of X G v_CAN⟩,
    v_NUMBER_COUNTS := PySem.W.mg_of X G v_NUMBER_COUNTS,
    q_NUMBER_COUNTS := fun _ => .inr ⟨_, _, _, q_NUMBER_COUNTS, rfl, rfl, (by show 8 ≤ sizeLine; decide), (.cons ⟨_, rfl⟩ (.cons ⟨_, rfl⟩ (.cons ⟨_, rfl⟩ (.cons ⟨_, rfl⟩ (.cons ⟨_, rfl⟩ (.cons ⟨_, rfl⟩ (.cons ⟨_, rfl⟩ (.cons ⟨_, rfl⟩ .nil))))))))⟩,
    no_any := PySem.W.ns_none_of X G no_any,
    no_enumerate := PySem.W.ns_none_of X G no_enumerate,
    no_len := PySem.W.ns_none_of X G no_len,
    no_list := PySem.W.ns_none_of X G no_list,
    no_max := PySem.W.ns_none_of X G no_max,
    no_range := PySem.W.ns_none_of X G no_range,
    no_tuple := PySem.W.ns_none_of X G no_tuple }

noncomputable def spAll (K : PySem.W.Frag) : Sp := fun vs H Q _ => ∃ (a : Addr) (ns : List Int), vs = [.ref a] ∧ SqL K H a (ns.map V.int) ∧ PyKp195.answers_asked ns = true ∧ ∀ (H' : Hp) (p : Addr), H' p = some (.lst ((PyKp195.answers ns).map V.int)) → Q (.ref p) H'
theorem all_of {P : Program} {w : World} {K : PySem.W.Frag} {mg : Str → Option Value} {fa : Addr} (hfa : mg "answers" = some (.ref fa)) (x : ∃ A : Ad, Txt K mg A) :
    ∃ fd : FuncData, (∀ (s : Shared) (us : List Value), us.length = (["calls"] : List Str).length → BindsTo s fd ⟨us, []⟩ ((["calls"] : List Str).zip us)) ∧ ∀ base : Heap, K.In base → base.Ns mainGlobals mg → FnOk P w K mg base CX0 11 fa fd ["calls"] (spAll K) := by
  obtain ⟨A, T⟩ := x
  have e := hfa.symm.trans T.mg_answers
  cases e
  refine ⟨A.d_answers, fun s us hu => ?_, fun base _ _ => ok_answers T⟩
  obtain ⟨oc, od, kV, doc, pm, an, cdv, ct, osl, e, lk, hcd⟩ := T.F_answers.ex
  rw [e]
  exact all1 us hu fun _ => .of_eq rfl
end KT
open PySem PySem.W PyProof.Rows
set_option maxRecDepth 100000 in
set_option maxHeartbeats 0 in
theorem PySem.Challenge.cw_keepable_s01_answers_holds : PySem.Challenge.rw_keepable_s01_answers.Holds := by
  w_on; k_headS; (case hw => exact ⟨[.list [.int 0, .int 1]], by decide +kernel, by decide +kernel⟩)
  k_fillS
  refine L2.walk_specK (r := PySem.Challenge.rw_keepable_s01_answers) (k := 11) (CX := L2.CX0) (ps := ["calls"]) (sp := KT.spAll) (by decide +kernel) rfl rfl ⟨rfl, by decide, by decide⟩ (fun w h Y => PySem.W.kIn_of Y) ?F ?S (fun _ _ _ _ z => z)
  case F =>
    intro w mg fa h Y KX G hmg
    refine KT.all_of hmg ?_
    refine' KT.txt_mk KX G ?aC_Clause ?aC_Outcome ?aC_Course ?aC_Agreement ?a_Clause_init ?i_Clause_init ?l_Clause_init ?e_Clause_init ?p_Clause_init ?a_Outcome_init ?i_Outcome_init ?l_Outcome_init ?e_Outcome_init ?p_Outcome_init ?a_Course_init ?i_Course_init ?l_Course_init ?e_Course_init ?p_Course_init ?a_Course_first_place ?i_Course_first_place ?l_Course_first_place ?e_Course_first_place ?p_Course_first_place ?a_Course_moves ?i_Course_moves ?l_Course_moves ?e_Course_moves ?p_Course_moves ?a_Course_outcome ?i_Course_outcome ?l_Course_outcome ?e_Course_outcome ?p_Course_outcome ?a_Course_outcomes ?i_Course_outcomes ?l_Course_outcomes ?e_Course_outcomes ?p_Course_outcomes ?a_Course_different_outcomes ?i_Course_different_outcomes ?l_Course_different_outcomes ?e_Course_different_outcomes ?p_Course_different_outcomes ?a_do_act ?l_do_act ?e_do_act ?p_do_act ?a_end_day ?l_end_day ?e_end_day ?p_end_day ?a_call_up ?l_call_up ?e_call_up ?p_call_up ?a_is_called_up ?l_is_called_up ?e_is_called_up ?p_is_called_up ?a_places_from ?l_places_from ?e_places_from ?p_places_from ?a_lost_places ?l_lost_places ?e_lost_places ?p_lost_places ?a_entries_of ?l_entries_of ?e_entries_of ?p_entries_of ?a_chances_of ?l_chances_of ?e_chances_of ?p_chances_of ?a_end_for ?l_end_for ?e_end_for ?p_end_for ?a_first_keeping_move ?l_first_keeping_move ?e_first_keeping_move ?p_first_keeping_move ?a_what_bound ?l_what_bound ?e_what_bound ?p_what_bound ?a_Agreement_init ?i_Agreement_init ?l_Agreement_init ?e_Agreement_init ?p_Agreement_init ?a_Agreement_begin ?i_Agreement_begin ?l_Agreement_begin ?e_Agreement_begin ?p_Agreement_begin ?a_Agreement_act ?i_Agreement_act ?l_Agreement_act ?e_Agreement_act ?p_Agreement_act ?a_Agreement_names ?i_Agreement_names ?l_Agreement_names ?e_Agreement_names ?p_Agreement_names ?a_Agreement_clause ?i_Agreement_clause ?l_Agreement_clause ?e_Agreement_clause ?p_Agreement_clause ?a_Agreement_fits ?i_Agreement_fits ?l_Agreement_fits ?e_Agreement_fits ?p_Agreement_fits ?a_Agreement_go ?i_Agreement_go ?l_Agreement_go ?e_Agreement_go ?p_Agreement_go ?a_Agreement_do ?i_Agreement_do ?l_Agreement_do ?e_Agreement_do ?p_Agreement_do ?a_Agreement_owed ?i_Agreement_owed ?l_Agreement_owed ?e_Agreement_owed ?p_Agreement_owed ?a_Agreement_can ?i_Agreement_can ?l_Agreement_can ?e_Agreement_can ?p_Agreement_can ?a_Agreement_best ?i_Agreement_best ?l_Agreement_best ?e_Agreement_best ?p_Agreement_best ?a_answers ?l_answers ?e_answers ?p_answers ?a_answer_of ?l_answer_of ?e_answer_of ?p_answer_of ?a_clause_of ?l_clause_of ?e_clause_of ?p_clause_of ?pg_Clause ?hd_Clause ?po_Clause ?sa_Clause ?mk_Clause ?kc_Clause ?n_Clause_when ?n_Clause_what ?n_Clause_must ?n_Clause_who ?n_Clause_deed ?n_Clause_days ?pg_Outcome ?hd_Outcome ?po_Outcome ?sa_Outcome ?mk_Outcome ?kc_Outcome ?n_Outcome_deed ?n_Outcome_place ?n_Outcome_broke ?pg_Course ?hd_Course ?po_Course ?sa_Course ?mk_Course ?kc_Course ?n_Course_parties ?n_Course_owners ?n_Course_clauses ?n_Course_known ?pg_Agreement ?hd_Agreement ?po_Agreement ?sa_Agreement ?mk_Agreement ?kc_Agreement ?n_Agreement_parties ?n_Agreement_owners ?n_Agreement_clauses ?n_Agreement_gone ?n_Agreement_course ?n_Agreement_place ?v_ACT_COUNT ?v_MOST_PARTIES ?v_MOST_CLAUSES ?v_MOST_DAYS ?v_MUST ?v_AT_THE_BEGINNING ?v_BY_AN_ACT ?v_BY_A_KEPT_CLAUSE ?v_BY_A_BROKEN_CLAUSE ?v_NO_ACT ?v_MOST_PLACES ?v_BROKEN ?v_DONE ?v_NOT_THEIR_TURN ?v_NOT_NOW ?v_NAMED ?v_WRONG ?v_FULL ?v_CANNOT ?v_TOO_MANY ?v_BEGIN ?v_ACT ?v_CLAUSE ?v_GO ?v_DO ?v_OWED ?v_CAN ?v_NUMBER_COUNTS ?q_NUMBER_COUNTS ?no_any ?no_enumerate ?no_len ?no_list ?no_max ?no_range ?no_tuple
    (case aC_Clause => k_is)
    (case aC_Outcome => k_is)
    (case aC_Course => k_is)
    (case aC_Agreement => k_is)
    (case a_Clause_init => k_is)
    (case i_Clause_init => k_is)
    (case l_Clause_init => k_is)
    (case e_Clause_init => k_is)
    (case p_Clause_init => k_is)
    (case a_Outcome_init => k_is)
    (case i_Outcome_init => k_is)
    (case l_Outcome_init => k_is)
    (case e_Outcome_init => k_is)
    (case p_Outcome_init => k_is)
    (case a_Course_init => k_is)
    (case i_Course_init => k_is)
    (case l_Course_init => k_is)
    (case e_Course_init => k_is)
    (case p_Course_init => k_is)
    (case a_Course_first_place => k_is)
    (case i_Course_first_place => k_is)
    (case l_Course_first_place => k_is)
    (case e_Course_first_place => k_is)
    (case p_Course_first_place => k_is)
    (case a_Course_moves => k_is)
    (case i_Course_moves => k_is)
    (case l_Course_moves => k_is)
    (case e_Course_moves => k_is)
    (case p_Course_moves => k_is)
    (case a_Course_outcome => k_is)
    (case i_Course_outcome => k_is)
    (case l_Course_outcome => k_is)
    (case e_Course_outcome => k_is)
    (case p_Course_outcome => k_is)
    (case a_Course_outcomes => k_is)
    (case i_Course_outcomes => k_is)
    (case l_Course_outcomes => k_is)
    (case e_Course_outcomes => k_is)
    (case p_Course_outcomes => k_is)
    (case a_Course_different_outcomes => k_is)
    (case i_Course_different_outcomes => k_is)
    (case l_Course_different_outcomes => k_is)
    (case e_Course_different_outcomes => k_is)
    (case p_Course_different_outcomes => k_is)
    (case a_do_act => k_is)
    (case l_do_act => k_is)
    (case e_do_act => k_is)
    (case p_do_act => k_is)
    (case a_end_day => k_is)
    (case l_end_day => k_is)
    (case e_end_day => k_is)
    (case p_end_day => k_is)
    (case a_call_up => k_is)
    (case l_call_up => k_is)
    (case e_call_up => k_is)
    (case p_call_up => k_is)
    (case a_is_called_up => k_is)
    (case l_is_called_up => k_is)
    (case e_is_called_up => k_is)
    (case p_is_called_up => k_is)
    (case a_places_from => k_is)
    (case l_places_from => k_is)
    (case e_places_from => k_is)
    (case p_places_from => k_is)
    (case a_lost_places => k_is)
    (case l_lost_places => k_is)
    (case e_lost_places => k_is)
    (case p_lost_places => k_is)
    (case a_entries_of => k_is)
    (case l_entries_of => k_is)
    (case e_entries_of => k_is)
    (case p_entries_of => k_is)
    (case a_chances_of => k_is)
    (case l_chances_of => k_is)
    (case e_chances_of => k_is)
    (case p_chances_of => k_is)
    (case a_end_for => k_is)
    (case l_end_for => k_is)
    (case e_end_for => k_is)
    (case p_end_for => k_is)
    (case a_first_keeping_move => k_is)
    (case l_first_keeping_move => k_is)
    (case e_first_keeping_move => k_is)
    (case p_first_keeping_move => k_is)
    (case a_what_bound => k_is)
    (case l_what_bound => k_is)
    (case e_what_bound => k_is)
    (case p_what_bound => k_is)
    (case a_Agreement_init => k_is)
    (case i_Agreement_init => k_is)
    (case l_Agreement_init => k_is)
    (case e_Agreement_init => k_is)
    (case p_Agreement_init => k_is)
    (case a_Agreement_begin => k_is)
    (case i_Agreement_begin => k_is)
    (case l_Agreement_begin => k_is)
    (case e_Agreement_begin => k_is)
    (case p_Agreement_begin => k_is)
    (case a_Agreement_act => k_is)
    (case i_Agreement_act => k_is)
    (case l_Agreement_act => k_is)
    (case e_Agreement_act => k_is)
    (case p_Agreement_act => k_is)
    (case a_Agreement_names => k_is)
    (case i_Agreement_names => k_is)
    (case l_Agreement_names => k_is)
    (case e_Agreement_names => k_is)
    (case p_Agreement_names => k_is)
    (case a_Agreement_clause => k_is)
    (case i_Agreement_clause => k_is)
    (case l_Agreement_clause => k_is)
    (case e_Agreement_clause => k_is)
    (case p_Agreement_clause => k_is)
    (case a_Agreement_fits => k_is)
    (case i_Agreement_fits => k_is)
    (case l_Agreement_fits => k_is)
    (case e_Agreement_fits => k_is)
    (case p_Agreement_fits => k_is)
    (case a_Agreement_go => k_is)
    (case i_Agreement_go => k_is)
    (case l_Agreement_go => k_is)
    (case e_Agreement_go => k_is)
    (case p_Agreement_go => k_is)
    (case a_Agreement_do => k_is)
    (case i_Agreement_do => k_is)
    (case l_Agreement_do => k_is)
    (case e_Agreement_do => k_is)
    (case p_Agreement_do => k_is)
    (case a_Agreement_owed => k_is)
    (case i_Agreement_owed => k_is)
    (case l_Agreement_owed => k_is)
    (case e_Agreement_owed => k_is)
    (case p_Agreement_owed => k_is)
    (case a_Agreement_can => k_is)
    (case i_Agreement_can => k_is)
    (case l_Agreement_can => k_is)
    (case e_Agreement_can => k_is)
    (case p_Agreement_can => k_is)
    (case a_Agreement_best => k_is)
    (case i_Agreement_best => k_is)
    (case l_Agreement_best => k_is)
    (case e_Agreement_best => k_is)
    (case p_Agreement_best => k_is)
    (case a_answers => k_is)
    (case l_answers => k_is)
    (case e_answers => k_is)
    (case p_answers => k_is)
    (case a_answer_of => k_is)
    (case l_answer_of => k_is)
    (case e_answer_of => k_is)
    (case p_answer_of => k_is)
    (case a_clause_of => k_is)
    (case l_clause_of => k_is)
    (case e_clause_of => k_is)
    (case p_clause_of => k_is)
    (case pg_Clause => k_is)
    (case hd_Clause => k_is)
    (case po_Clause => k_is)
    (case sa_Clause => k_is)
    (case mk_Clause => k_is)
    (case kc_Clause => k_is)
    (case n_Clause_when => k_is)
    (case n_Clause_what => k_is)
    (case n_Clause_must => k_is)
    (case n_Clause_who => k_is)
    (case n_Clause_deed => k_is)
    (case n_Clause_days => k_is)
    (case pg_Outcome => k_is)
    (case hd_Outcome => k_is)
    (case po_Outcome => k_is)
    (case sa_Outcome => k_is)
    (case mk_Outcome => k_is)
    (case kc_Outcome => k_is)
    (case n_Outcome_deed => k_is)
    (case n_Outcome_place => k_is)
    (case n_Outcome_broke => k_is)
    (case pg_Course => k_is)
    (case hd_Course => k_is)
    (case po_Course => k_is)
    (case sa_Course => k_is)
    (case mk_Course => k_is)
    (case kc_Course => k_is)
    (case n_Course_parties => k_is)
    (case n_Course_owners => k_is)
    (case n_Course_clauses => k_is)
    (case n_Course_known => k_is)
    (case pg_Agreement => k_is)
    (case hd_Agreement => k_is)
    (case po_Agreement => k_is)
    (case sa_Agreement => k_is)
    (case mk_Agreement => k_is)
    (case kc_Agreement => k_is)
    (case n_Agreement_parties => k_is)
    (case n_Agreement_owners => k_is)
    (case n_Agreement_clauses => k_is)
    (case n_Agreement_gone => k_is)
    (case n_Agreement_course => k_is)
    (case n_Agreement_place => k_is)
    (case v_ACT_COUNT => k_is)
    (case v_MOST_PARTIES => k_is)
    (case v_MOST_CLAUSES => k_is)
    (case v_MOST_DAYS => k_is)
    (case v_MUST => k_is)
    (case v_AT_THE_BEGINNING => k_is)
    (case v_BY_AN_ACT => k_is)
    (case v_BY_A_KEPT_CLAUSE => k_is)
    (case v_BY_A_BROKEN_CLAUSE => k_is)
    (case v_NO_ACT => k_is)
    (case v_MOST_PLACES => k_is)
    (case v_BROKEN => k_is)
    (case v_DONE => k_is)
    (case v_NOT_THEIR_TURN => k_is)
    (case v_NOT_NOW => k_is)
    (case v_NAMED => k_is)
    (case v_WRONG => k_is)
    (case v_FULL => k_is)
    (case v_CANNOT => k_is)
    (case v_TOO_MANY => k_is)
    (case v_BEGIN => k_is)
    (case v_ACT => k_is)
    (case v_CLAUSE => k_is)
    (case v_GO => k_is)
    (case v_DO => k_is)
    (case v_OWED => k_is)
    (case v_CAN => k_is)
    (case v_NUMBER_COUNTS => k_is)
    (case q_NUMBER_COUNTS => k_is)
    (case no_any => k_is)
    (case no_enumerate => k_is)
    (case no_len => k_is)
    (case no_list => k_is)
    (case no_max => k_is)
    (case no_range => k_is)
    (case no_tuple => k_is)

  case S =>
    intro K H xs a hO hwi hask hx
    cases hx with
    | cons h1 h2 =>
      cases h2
      cases h1 with
      | lst hs ha =>
        have e := L2.ints_dw a.1 _ ha
        subst e
        exact ⟨_, a.1, rfl, hs, hask, fun H' p hp => .lst (L2.SqL.of hp) (L2.dw_ints _)⟩
#print axioms PySem.Challenge.cw_keepable_s01_answers_holds
