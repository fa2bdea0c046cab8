import PyProof.Rows.All
import Wide.All
import OpenK.AllK
import Wide.FinOn
import Open.SpecLaws
import KE.OsHead
import KE.OsGo
import KE.KDictZip
import HandS.ForSpec
import HandS.Comp
import HandS.Dict
import HandS.Iter
import HandS.More
import HandS.TupSets
import HandS.Flow
import HandS.Strs
import HandS.SetFor
import HandS.Deep
import PySem.Challenge.RW_factcores_s01_answers
set_option Elab.async false
set_option maxRecDepth 100000
set_option maxHeartbeats 4000000
/-! set(xs) of a list of whole numbers; xs.extend(t); dict(zip(xs, ys)) -/
namespace FcS
open PySem PySem.Spec PyProof.Rows L2
/-- a set as set() lays it -/
abbrev newSet (w : World) : Obj := { cls := .type "set", dict := none, data := .set #[] 0 (.fresh 0 0 (!w.params.followText "set-order")) }
section
variable {P : Program} {w : World} {A : Around} {E : Value → Shared → Prop} {s : Shared}
theorem set_of_list {l : Addr} {items : Array Value} (ns : List Int) {Q : Value → Shared → Prop} (calm : A.handled = none) (lst : s.heap.IsList l items) (hI : IntsAre items.toList ns) (few : ns.length + 1 < scanBound)
    (out : ∀ (h' : Heap) (tk c : Nat), SetR w h' s.heap.objs.size (fun j => decide (j ∈ ns)) c → c ≤ ns.length → (∀ b o, s.heap.get? b = some o → h'.get? b = some o) → Q (.ref s.heap.objs.size) { s with heap := h', toks := tk }) :
    wpAny (model P w) A (call (Value.type "set") [Value.ref l]) Q E s := by
  have sz : items.size = ns.length := by
    have q := IntsAre.length hI
    rwa [Array.length_toList] at q
  have at_ : ∀ (i : Nat) (v : Value), items[i]? = some v → ∃ k t, ns[i]? = some k ∧ v = .int k t := fun i v hv => by
    have hi : i < ns.length := sz ▸ (Array.getElem?_eq_some_iff.mp hv).1
    obtain ⟨t, e⟩ := PyProof.Rows.IntsAre.int_at hI i v (by rw [Array.getElem?_toList]; exact hv)
    refine ⟨ns[i], t, List.getElem?_eq_getElem hi, e.trans ?_⟩
    rw [List.getD_eq_getElem?_getD, List.getElem?_eq_getElem hi] <;> rfl
  obtain ⟨c0, tl0, mro0⟩ := F.called_set.mro
  have f1 := F.called_set.made
  have f2 := F.called_set.sub
  have f3 := F.called_set.notType
  have f4 := F.called_set.canCreate
  have f5 := F.typeCall_set_1 (.ref l)
  have room := Around.under_plain (A := A) (weight_type_call_type "set" [Value.ref l] []) rfl
  refine wpAny_call (codeAny_of_tree (show wpAny _ _ (callAny (Value.type "set") _) _ _ _ from wpAny_pure ⟨Code.quiet_builtin _ (by decide +kernel), codeAny_builtin F.entry_type_call ?_⟩))
  rw [room]
  repeat (any_goals (first | assumption | wp_step))
  refine codeAny_mono (code_set_led1 (.ref l) (E := E) (Q₁ := fun obj s₁ => obj = .ref s.heap.objs.size ∧ s₁ = { s with heap := s.heap.push (newSet w) }) ⟨rfl, rfl⟩) fun r s₁ hr => ?_
  match r, hr with
  | .error e, hr => exact hr
  | .ok (.ret obj), hr =>
    obtain ⟨rfl, rfl⟩ := hr
    have laid : (s.heap.push (newSet w)).get? s.heap.objs.size = some (newSet w) := Heap.get?_push_size _ rfl
    have isSet : Shared.TypeIs { s with heap := s.heap.push (newSet w) } (.ref s.heap.objs.size) "set" := ⟨_, laid, rfl⟩
    have f6 := F.called_set.init.lookup
    have f7 := F.called_set.init.bind (.ref s.heap.objs.size)
    repeat (any_goals (first | assumption | wp_step))
    refine codeAny_mono (codeAny_call_builtin (R := wants (fun r s₂ => r = .none ∧ ∃ h' tk c, s₂ = { s with heap := h', toks := tk } ∧ SetR w h' s.heap.objs.size (fun j => decide (j ∈ ns)) c ∧ c ≤ ns.length ∧ (∀ b o, s.heap.get? b = some o → h'.get? b = some o)) E) F.called_set.init.plain F.entry_set_init (check_set_init_1 isSet ?_)) fun r₂ s₂ hr₂ => ?_
    · obtain ⟨⟨oc, od, odat, osl⟩, hol, hcl, nl, hdl⟩ := lst
      simp only at hcl hdl
      subst hcl hdl
      have g1 := F.sub_list_set
      have g2 := F.sub_list_frozenset
      have g3 : (Value.type "list" == Value.type "dict") = false := by decide
      have there : (s.heap.push (newSet w)).get? l = some { cls := .type "list", dict := od, data := .seq items nl, slots := osl } := Heap.get?_push_of_some _ hol
      have lst1 : (s.heap.push (newSet w)).IsList l items := ⟨_, there, rfl, nl, rfl⟩
      unfold Builtin.«set.__init__»
      unfold noKeywords
      unfold Builtin.Frozenset.updateFrom
      generalize hPI : pyIter = PI
      wp_walk
      subst hPI
      refine wpAny_pyIter_list lst1 (wpAny_bind (wpAny_runValue ?_))
      have lt : l < s.heap.objs.size := Heap.lt_size hol
      have calm3 : A.in1.in1.in1.handled = none := by simp [calm]
      have z1 : (s.heap.push (newSet w)).objs.size = s.heap.objs.size + 1 := Heap.size_push ..
      have apart : l ≠ (s.heap.push (newSet w)).objs.size := by rw [z1]; exact Nat.ne_of_lt (Nat.lt_succ_of_lt lt)
      have off : s.heap.objs.size ∉ [(s.heap.push (newSet w)).objs.size, l] := by
        simp only [List.mem_cons, List.not_mem_nil, or_false, not_or]
        exact ⟨by rw [z1]; exact Nat.ne_of_lt (Nat.lt_succ_self _), Nat.ne_of_gt lt⟩
      refine set_update_ints ((Walks.list calm3 _ l apart items).toS) s.heap.objs.size off ns sz few at_ (items.size - 0) 0 _ rfl (Nat.zero_le _) ⟨⟨_, Heap.get?_push_size _ rfl, rfl, rfl⟩, lst1.push _⟩ ⟨0, Nat.le_refl 0, setR_new_at (Heap.get?_push_of_some _ laid)⟩ ?_
      intro s' c' hm hc' hS'
      obtain ⟨h', gn, dr, tk', os'⟩ := s'
      obtain rfl : gn = s.gens := hm.gens
      obtain rfl : dr = s.drawn := hm.drawn
      obtain rfl : os' = s.os := hm.os
      show wpAny _ _ _ _ _ _
      refine wpAny_pure (show wpAny _ _ (ret Value.none) _ _ _ from ?_)
      refine wpAny_pure ⟨rfl, h', tk', c', rfl, hS', sz ▸ hc', fun b o e => ?_⟩
      have hb : b < s.heap.objs.size := Heap.lt_size e
      refine hm.heap b o ?_ (Heap.get?_push_of_some _ (Heap.get?_push_of_some _ e))
      simp only [List.mem_cons, List.not_mem_nil, or_false, not_or]
      exact ⟨Nat.ne_of_lt hb, by rw [z1]; exact Nat.ne_of_lt (Nat.lt_succ_of_lt hb)⟩
    · match r₂, hr₂ with
      | .error e, hr₂ => exact hr₂
      | .ok (.ret r), hr₂ =>
        obtain ⟨rfl, hp', tk, c', rfl, laid', cl, old⟩ := hr₂
        repeat (any_goals (first | assumption | wp_step))
        exact out _ _ _ laid' cl old
      | .ok .next, hr₂ => exact hr₂.elim
      | .ok .brk, hr₂ => exact hr₂.elim
      | .ok .cont, hr₂ => exact hr₂.elim
  | .ok .next, hr => exact hr.elim
  | .ok .brk, hr => exact hr.elim
  | .ok .cont, hr => exact hr.elim
end
end FcS

namespace FcS
open PySem PySem.Spec PyProof.Rows L2
section
variable {X : Cx}
/-- set(xs), xs a list of whole numbers -/
def rSetL (K : PySem.W.Frag) (w : World) : List V → Hp → VK → Prop := fun vs H Q => ∃ (l : Addr) (ns : List Int), vs = [V.ref l] ∧ SqL K H l (ns.map V.int) ∧ ns.length ≤ 1000 ∧
  ∀ (a : Addr) (n : Nat), H a = none → n ≤ ns.length → Q (.ref a) (upd H a (SetO w a (fun j => decide (j ∈ ns)) n))
theorem cr_setL (hc : X.calm = true) : CallR X (.type "set") (rSetL X.K X.w) := by
  intro pins s σ H vs us Q I r h
  obtain ⟨l, ns, rfl, hl, hn, q⟩ := h
  rw [Vals.ref1 r]
  obtain ⟨its, rvals, pl, _⟩ := I.list hl
  refine set_of_list (P := X.prog) (w := X.w) ns (I.ok.hd hc) pl.isList (by simpa using ints_of_vals rvals) (by unfold scanBound; omega) fun h' tk c R hcn k => ?_
  exact ⟨.ref s.heap.objs.size, upd H s.heap.objs.size (SetO X.w s.heap.objs.size (fun j => decide (j ∈ ns)) c), I.laid (t' := tk) k (Nat.le_refl _) (setO_new R), rfl, q _ c (I.hok.fresh (Nat.le_refl _)) hcn⟩

/-- xs.extend(t), t a tuple -/
theorem extend_tuple (l : Addr) (items : Array Value) (n : Nat) (b : Addr) (items2 : Array Value) (n2 : Nat) (dd : Option Addr) (sl : Array (Option Value)) (h0 : ¬(!items.isEmpty && Builtin.List.listTooLong (items.size + items2.size)) = true) (h1 : items.size ≤ sizeLine) (h2 : items.size + items2.size ≤ sizeLine + 1) :
    Meets (Builtin.«list.extend» ⟨[.ref l, .ref b], []⟩) (fun _ R s => s.heap.get? l = some { cls := .type "list", dict := none, data := .seq items n, slots := #[] } ∧ s.heap.get? b = some { cls := .type "tuple", dict := dd, data := .seq items2 n2, slots := sl } ∧
      R (.ok (.ret Value.none)) { s with heap := s.heap.update l (Obj.mapSeq fun x => x ++ items2), toks := s.toks }) :=
  .of_wp fun prog w A R s h => by
    obtain ⟨hp, g, d, tk, os⟩ := s
    obtain ⟨hl, hb, h⟩ := h
    have f1 := AutoSeq1.sub_tuple_tuple
    have f2 := AutoSeq1.sub_tuple_list
    have f3 := AutoSeq1.idx_int
    have f4 := AutoSeq1.sub_list_list
    have hz : (items ++ items2).size ≤ sizeLine + 1 := by rw [Array.size_append]; exact h2
    wp_walk using (wpAny_updateSeq hl rfl (hz := h1) (_hz' := hz)), AutoSeq1.wpAny_loadPart' hl, AutoSeq1.wpAny_loadPart' hb
    exact ⟨_, rfl, h⟩
def rExtT (K : PySem.W.Frag) : V → List V → Hp → VK → Prop := fun x vs H Q => ∃ l b xs zs, x = .ref l ∧ vs = [.ref b] ∧ H l = some (.lst xs) ∧ SqT K H b zs ∧ xs.length + zs.length ≤ sizeLine ∧ Q .non (upd H l (.lst (xs ++ zs)))
theorem mt_extT : MtM X "list.extend" (rExtT X.K) := by
  intro pins s σ H x vs v us Q I rx rv h
  obtain ⟨l, b, xs, ts, rfl, rfl, hH, hB, most, go⟩ := h
  cases rx
  obtain ⟨u, rfl, ru⟩ := rv.one
  cases ru
  obtain ⟨_, its, n, r, hl, e⟩ := I.lstM hH
  obtain ⟨its2, r2, ⟨⟨oc, od, odat, osl⟩, ho, hcl, n2, hd⟩, _⟩ := I.tuple hB
  simp only at hcl hd
  subst hcl hd
  have l2 := r2.length
  have sz : its.toArray.size + its2.toArray.size ≤ sizeLine := by rw [List.size_toArray, List.size_toArray]; omega
  have short : ¬ (!its.toArray.isEmpty && Builtin.List.listTooLong (its.toArray.size + its2.toArray.size)) = true := by
    rw [notLongL sz, Bool.and_false]
    exact Bool.false_ne_true
  refine call_meets F.slot_list_extend ⟨_, e, rfl⟩ F.entry_list_extend (F.args_list_extend_2 _ _) (extend_tuple l its.toArray n b its2.toArray n2 od osl short (by rw [List.size_toArray]; omega) (by omega)) ⟨e, ho, ?_⟩
  have grown : (xs ++ ts).length ≤ sizeLine := by rw [List.length_append]; exact most
  exact ⟨.non, _, I.lset (its' := its ++ its2) hH e (by simp) (r.append r2) grown, rfl, go⟩

/-- dict(zip(xs, ys)), two lists of whole numbers -/
def kvI (xs ys : List Int) : List (Key × V) := (xs.zip ys).map fun p => (Sum.inl p.1, V.int p.2)
def tDictZip (K : PySem.W.Frag) (t : TA) : TE := fun σ H Q => t σ H fun vs H2 => ∃ (a b : Addr) (xs ys : List Int), vs = [.ref a, .ref b] ∧ SqL K H2 a (xs.map V.int) ∧ SqL K H2 b (ys.map V.int) ∧ xs.length = ys.length ∧
  ∀ p, H2 p = none → Q (.ref p) (upd H2 p (.dK (mergeK [] (kvI xs ys))))
theorem kv_rel : ∀ {xs ys : List Int} {us ws : List Value}, Vals (xs.map V.int) us → Vals (ys.map V.int) ws → xs.length = ys.length →
    ∃ rs : List (Key × Value), KV (kvI xs ys) rs ∧ rs.length = us.length ∧ ∀ (i : Nat) (key v : Value), us[i]? = some key → ws[i]? = some v → ∃ k : Key, rs[i]? = some (k, v) ∧ ∃ (j : Int) (t : Tok), k = Sum.inl j ∧ key = Value.int j t
  | [], [], _, _, .nil, .nil, _ => ⟨[], .nil, rfl, fun i key v h => by simp at h⟩
  | x :: xs, y :: ys, _, _, .cons r1 t1, .cons (b := w) r2 t2, h => by
    obtain ⟨rs, q1, q2, q3⟩ := kv_rel t1 t2 (by simpa using h)
    obtain ⟨t, rfl⟩ := r1
    refine ⟨(Sum.inl x, w) :: rs, .cons ⟨rfl, r2⟩ q1, by rw [List.length_cons, List.length_cons, q2], fun i key v h1 h2 => ?_⟩
    cases i with
    | zero =>
      simp at h1 h2
      subst h1 h2
      exact ⟨_, rfl, x, t, rfl, rfl⟩
    | succ i => exact q3 i key v (by simpa using h1) (by simpa using h2)
theorem mergeK_len (kvs : List (Key × V)) : (mergeK [] kvs).length ≤ kvs.length := by
  have := length_mergeK kvs []
  simpa using this
theorem pe_dictZip {a b : Expr} {t : TA} {p p2 q pos : Pos} (hc : X.calm = true) (hg : Gl X "dict") (hm : X.mg "dict" = none) (hg2 : Gl X "zip") (hm2 : X.mg "zip" = none) (ha : PA X [a, b] t)
    (n1 : starEach [a, b] X.env = (false, eval a X.env) :: starEach [b] X.env := by rfl) (n3 : (backTo q (starEach [b] X.env)).any (·.1) = false := by rfl)
    (n4 : starEach [Expr.Call (.Name "zip" p2) [a, b] [] q] X.env = (false, eval (.Call (.Name "zip" p2) [a, b] [] q) X.env) :: starEach [] X.env := by rfl) :
    PE X (.Call (.Name "dict" p) [.Call (.Name "zip" p2) [a, b] [] q] [] pos) (tDictZip X.K t) := by
  refine ⟨fun pins s σ H Q I h => ?_⟩
  refine Call_ (ld_blt I hg hm PyProof.Rows.boot_dict ?_)
  refine PyProof.Rows.callWith_type1 (PyProof.Rows.args_cons ?_ n4) n4 rfl
  refine Call_ (ld_blt I hg2 hm2 PyProof.Rows.boot_zip ?_)
  refine PyProof.Rows.callWith_type1 (thn (ha.run q pins s σ H _ I h) fun us s1 ⟨vs, H1, I1, r1, q1⟩ => ?_) n1 n3
  obtain ⟨l1, l2, xs, ys, rfl, hx, hy, hlen, q1⟩ := q1
  cases r1 with
  | cons e1 r1 =>
  cases r1 with
  | cons e2 r1 =>
  cases r1
  cases e1
  cases e2
  obtain ⟨its1, v1, p1, z1⟩ := I1.list hx
  obtain ⟨its2, v2, p2, z2⟩ := I1.list hy
  have lt1 : l1 < s1.heap.objs.size := p1.lt
  have lt2 : l2 < s1.heap.objs.size := p2.lt
  have w1 := v1.length
  have w2 := v2.length
  rw [List.length_map] at w1 w2 z1
  refine call_zip_2 p1.isList p2.isList fun h' hz hTI hTO i1 i2 hsz hk => PyProof.Rows.args_nil ?_
  obtain ⟨rs, q2, q3, q4⟩ := kv_rel v1 v2 hlen
  refine PySem.call_dict_pairs (knd := mixKind X.prog X.w) (kvs := rs) (PairArg.zip (s1.heap.objs.size + 4) (s1.heap.objs.size + 2) (s1.heap.objs.size + 3) s1.heap.objs.size (s1.heap.objs.size + 1) l1 l2 (PySem.W.ktu_apart s1.heap.objs.size l1 l2 lt1 lt2) its1.toArray its2.toArray)
    (I1.ok.hd hc) ⟨hz, hTI, ⟨_, _, hTO⟩, i1, i2, p1.isList.at fun o e => hk _ o e, p2.isList.at fun o e => hk _ o e⟩ ⟨?_, fun i key v ⟨h1, h2⟩ => ?_⟩ ?_ fun h2 tk hd k => ?_
  · rw [q3, List.size_toArray, List.size_toArray]
    omega
  · obtain ⟨k, a1, j, t, rfl, rfl⟩ := q4 i key v (by simpa using h1) (by simpa using h2)
    exact ⟨_, a1, mixKind_int X.prog X.w j t⟩
  · rw [List.size_toArray, List.size_toArray]
    omega
  · have hm0 : (h'.objs.size == sysModules) = false := beq_eq_false_iff_ne.mpr (Nat.ne_of_gt (Nat.lt_of_lt_of_le I1.big (by rw [hsz]; exact Nat.le_add_right _ _)))
    have hl0 : (mergeK [] (kvI xs ys)).length ≤ sizeLine := by
      refine Nat.le_trans (mergeK_len _) ?_
      unfold kvI
      rw [List.length_map, List.length_zip]
      omega
    have keep : ∀ b u, s1.heap.get? b = some u → h2.get? b = some u := fun b u e => k b u (fun hb => by
      have lt := Heap.lt_size e
      simp only [List.mem_cons, or_false, List.not_mem_nil] at hb
      rcases hb with z | z | z | z <;> rw [z] at lt
      · exact absurd lt (Nat.not_lt_of_ge (Nat.le_add_right _ _))
      · exact absurd lt (Nat.not_lt_of_ge (Nat.le_add_right _ _))
      · exact absurd lt (Nat.lt_irrefl _)
      · exact absurd lt (Nat.not_lt_of_ge (Nat.le_add_right _ _))) (hk b u e)
    have ge : s1.heap.objs.size ≤ h'.objs.size := by rw [hsz]; exact Nat.le_add_right _ _
    exact ⟨.ref h'.objs.size, upd H1 h'.objs.size (.dK (mergeK [] (kvI xs ys))), I1.laid (t' := tk) keep ge (show ObjOk X.prog X.w _ _ _ (.dK (mergeK [] (kvI xs ys))) from ⟨hl0, hm0, merged [] rs, KV.merge q2 .nil, hd⟩), rfl, q1 _ (I1.hok.fresh ge)⟩
end
end FcS

namespace Fc
open Dx (Fact Facts Map)

/-! ### order of facts -/
def FLt (f g : Fact) : Prop := f.t < g.t ∨ f.t = g.t ∧ (f.a < g.a ∨ f.a = g.a ∧ f.b < g.b)
theorem less_iff (f g : Fact) : Dx.less f.key g.key = true ↔ FLt f g := by
  unfold Dx.Fact.key FLt
  simp only [Dx.less, Bool.or_eq_true, Bool.and_eq_true, decide_eq_true_eq, beq_iff_eq, Bool.false_eq_true, and_false, or_false]
theorem FLt.irr (f : Fact) : ¬ FLt f f := by unfold FLt; omega
theorem FLt.tr {f g h : Fact} : FLt f g → FLt g h → FLt f h := by unfold FLt; omega
theorem FLt.tot {f g : Fact} (h : f ≠ g) (k : ¬ FLt f g) : FLt g f := by
  obtain ⟨t, a, b⟩ := f
  obtain ⟨t', a', b'⟩ := g
  have q : ¬ (t = t' ∧ a = a' ∧ b = b') := fun e => h (by rw [e.1, e.2.1, e.2.2])
  unfold FLt at k ⊢
  simp only at k ⊢
  omega
abbrev Srt (l : Facts) : Prop := l.Pairwise FLt
theorem srt_nodup {l : Facts} (h : Srt l) : l.Nodup := by
  show l.Pairwise (· ≠ ·)
  refine List.Pairwise.imp (fun {a b} h e => ?_) h
  subst e
  exact FLt.irr _ h
theorem pw_ext {α : Type} {R : α → α → Prop} (irr : ∀ a, ¬ R a a) (tr : ∀ {a b c}, R a b → R b c → R a c) : ∀ {l k : List α}, l.Pairwise R → k.Pairwise R → (∀ x, x ∈ l ↔ x ∈ k) → l = k
  | [], [], _, _, _ => rfl
  | [], b :: k, _, _, h => absurd ((h b).2 List.mem_cons_self) (by simp)
  | a :: l, [], _, _, h => absurd ((h a).1 List.mem_cons_self) (by simp)
  | a :: l, b :: k, hl, hk, h => by
    obtain ⟨la, ll⟩ := List.pairwise_cons.mp hl
    obtain ⟨kb, kk⟩ := List.pairwise_cons.mp hk
    have e : a = b := by
      rcases List.mem_cons.mp ((h a).1 List.mem_cons_self) with e | m
      · exact e
      · rcases List.mem_cons.mp ((h b).2 List.mem_cons_self) with e | m2
        · exact e.symm
        · exact absurd (tr (kb a m) (la b m2)) (irr b)
    subst e
    rw [pw_ext irr tr ll kk fun x => ⟨fun hx => ?_, fun hx => ?_⟩]
    · rcases List.mem_cons.mp ((h x).1 (List.mem_cons_of_mem _ hx)) with e | m
      · subst e; exact absurd (la x hx) (irr x)
      · exact m
    · rcases List.mem_cons.mp ((h x).2 (List.mem_cons_of_mem _ hx)) with e | m
      · subst e; exact absurd (kb x hx) (irr x)
      · exact m
theorem srt_ext {l k : Facts} (hl : Srt l) (hk : Srt k) (h : ∀ x, x ∈ l ↔ x ∈ k) : l = k := pw_ext FLt.irr FLt.tr hl hk h
theorem put_mem (f x : Fact) : ∀ l : Facts, x ∈ Dx.put f l ↔ x = f ∨ x ∈ l
  | [] => by simp [Dx.put]
  | g :: r => by
    unfold Dx.put
    by_cases e : f = g
    · subst e
      simp
    · rw [if_neg e]
      split
      · simp
      · rw [List.mem_cons, put_mem f x r, List.mem_cons]
        constructor
        · rintro (h | h | h)
          · exact .inr (.inl h)
          · exact .inl h
          · exact .inr (.inr h)
        · rintro (h | h | h)
          · exact .inr (.inl h)
          · exact .inl h
          · exact .inr (.inr h)
theorem put_srt (f : Fact) : ∀ l : Facts, Srt l → Srt (Dx.put f l)
  | [], _ => List.pairwise_cons.mpr ⟨by simp, List.Pairwise.nil⟩
  | g :: r, h => by
    obtain ⟨hg, hr⟩ := List.pairwise_cons.mp h
    unfold Dx.put
    by_cases e : f = g
    · rw [if_pos e]; exact h
    · rw [if_neg e]
      by_cases c : Dx.less f.key g.key = true
      · rw [if_pos c]
        rw [less_iff] at c
        refine List.pairwise_cons.mpr ⟨fun x hx => ?_, h⟩
        rcases List.mem_cons.mp hx with e2 | m
        · subst e2; exact c
        · exact FLt.tr c (hg x m)
      · rw [if_neg c]
        rw [less_iff] at c
        refine List.pairwise_cons.mpr ⟨fun x hx => ?_, put_srt f r hr⟩
        rcases (put_mem f x r).1 hx with e2 | m
        · subst e2; exact FLt.tot e c
        · exact hg x m
theorem fold_put : ∀ (l s : Facts), (Srt s → Srt (l.foldl (fun s f => Dx.put f s) s)) ∧ ∀ x, x ∈ l.foldl (fun s f => Dx.put f s) s ↔ x ∈ s ∨ x ∈ l
  | [], s => ⟨id, fun x => by simp⟩
  | f :: l, s => by
    obtain ⟨h1, h2⟩ := fold_put l (Dx.put f s)
    refine ⟨fun hs => h1 (put_srt f s hs), fun x => ?_⟩
    rw [List.foldl_cons, h2 x, put_mem, List.mem_cons]
    constructor
    · rintro ((h | h) | h)
      · exact .inr (.inl h)
      · exact .inl h
      · exact .inr (.inr h)
    · rintro (h | h | h)
      · exact .inl (.inr h)
      · exact .inl (.inl h)
      · exact .inr h
theorem tidy_srt (l : Facts) : Srt (Dx.tidy l) := (fold_put l []).1 List.Pairwise.nil
theorem tidy_mem (l : Facts) (x : Fact) : x ∈ Dx.tidy l ↔ x ∈ l := by
  show x ∈ l.foldl _ [] ↔ _
  rw [(fold_put l []).2 x]
  simp
theorem tidy_eq {l k : Facts} (hk : Srt k) (h : ∀ x, x ∈ k ↔ x ∈ l) : k = Dx.tidy l := srt_ext hk (tidy_srt l) fun x => by rw [h, tidy_mem]
theorem put_eq {f : Fact} {l k : Facts} (hl : Srt l) (hk : Srt k) (h : ∀ x, x ∈ k ↔ x = f ∨ x ∈ l) : k = Dx.put f l := srt_ext hk (put_srt f l hl) fun x => by rw [h, put_mem]
theorem nodup_len {α : Type} : ∀ {l D : List α}, l.Nodup → (∀ x ∈ l, x ∈ D) → l.length ≤ D.length
  | [], D, _, _ => Nat.zero_le D.length
  | x :: l, D, nd, sub => by
    obtain ⟨s, t, rfl⟩ := List.append_of_mem (sub x List.mem_cons_self)
    obtain ⟨out, nd'⟩ := List.nodup_cons.mp nd
    have ih := nodup_len (D := s ++ t) nd' fun y hy => by
      have m := sub y (List.mem_cons_of_mem x hy)
      rw [List.mem_append, List.mem_cons] at m
      rw [List.mem_append]
      rcases m with m | m | m
      · exact .inl m
      · exact absurd (m ▸ hy) out
      · exact .inr m
    rw [List.length_append] at ih
    rw [List.length_append, List.length_cons, List.length_cons]
    omega
theorem tidy_len (l : Facts) : (Dx.tidy l).length ≤ l.length := nodup_len (srt_nodup (tidy_srt l)) fun x hx => (tidy_mem l x).1 hx
theorem tidy_len_nodup {l : Facts} (h : l.Nodup) : (Dx.tidy l).length = l.length := Nat.le_antisymm (tidy_len l) (nodup_len h fun x hx => (tidy_mem l x).2 hx)
theorem put_len (f : Fact) {l : Facts} (h : Srt l) (hf : f ∉ l) : (Dx.put f l).length = l.length + 1 := by
  have n1 : (f :: l).Nodup := List.nodup_cons.mpr ⟨hf, srt_nodup h⟩
  have a := nodup_len (srt_nodup (put_srt f l h)) (D := f :: l) fun x hx => by
    rw [List.mem_cons]; exact (put_mem f x l).1 hx
  have b := nodup_len n1 (D := Dx.put f l) fun x hx => by
    rw [put_mem]; exact List.mem_cons.mp hx
  rw [List.length_cons] at a b
  omega

/-! ### values -/
theorem up_mem (v x : Nat) : ∀ l : List Nat, x ∈ Dx.up v l ↔ x = v ∨ x ∈ l
  | [] => by simp [Dx.up]
  | g :: r => by
    unfold Dx.up
    by_cases e : v = g
    · subst e
      simp
    · rw [if_neg e]
      split
      · simp
      · rw [List.mem_cons, up_mem v x r, List.mem_cons]
        constructor
        · rintro (h | h | h)
          · exact .inr (.inl h)
          · exact .inl h
          · exact .inr (.inr h)
        · rintro (h | h | h)
          · exact .inr (.inl h)
          · exact .inl h
          · exact .inr (.inr h)
abbrev Asc (l : List Nat) : Prop := l.Pairwise (· < ·)
theorem asc_ext {l k : List Nat} (hl : Asc l) (hk : Asc k) (h : ∀ x, x ∈ l ↔ x ∈ k) : l = k := pw_ext Nat.lt_irrefl Nat.lt_trans hl hk h
theorem asc_nodup {l : List Nat} (h : Asc l) : l.Nodup := by
  show l.Pairwise (· ≠ ·)
  exact List.Pairwise.imp (fun {a b} h => by omega) h
theorem up_asc (v : Nat) : ∀ l : List Nat, Asc l → Asc (Dx.up v l)
  | [], _ => List.pairwise_cons.mpr ⟨by simp, List.Pairwise.nil⟩
  | g :: r, h => by
    obtain ⟨hg, hr⟩ := List.pairwise_cons.mp h
    unfold Dx.up
    by_cases e : v = g
    · rw [if_pos e]; exact h
    · rw [if_neg e]
      by_cases c : v < g
      · rw [if_pos c]
        refine List.pairwise_cons.mpr ⟨fun x hx => ?_, h⟩
        rcases List.mem_cons.mp hx with e2 | m
        · omega
        · have := hg x m; omega
      · rw [if_neg c]
        refine List.pairwise_cons.mpr ⟨fun x hx => ?_, up_asc v r hr⟩
        rcases (up_mem v x r).1 hx with e2 | m
        · omega
        · exact hg x m
theorem fold_up : ∀ (l s : List Nat), (Asc s → Asc (l.foldl (fun m v => Dx.up v m) s)) ∧ ∀ x, x ∈ l.foldl (fun m v => Dx.up v m) s ↔ x ∈ s ∨ x ∈ l
  | [], s => ⟨id, fun x => by simp⟩
  | f :: l, s => by
    obtain ⟨h1, h2⟩ := fold_up l (Dx.up f s)
    refine ⟨fun hs => h1 (up_asc f s hs), fun x => ?_⟩
    rw [List.foldl_cons, h2 x, up_mem, List.mem_cons]
    constructor
    · rintro ((h | h) | h)
      · exact .inr (.inl h)
      · exact .inl h
      · exact .inr (.inr h)
    · rintro (h | h | h)
      · exact .inl (.inr h)
      · exact .inl (.inl h)
      · exact .inr h
/-- the two values of each fact -/
def vals2 (l : Facts) : List Nat := l.flatMap fun f => [f.a, f.b]
theorem values_asc (l : Facts) : Asc (Dx.values l) := (fold_up (vals2 l) []).1 List.Pairwise.nil
theorem values_mem (l : Facts) (x : Nat) : x ∈ Dx.values l ↔ x ∈ vals2 l := by
  show x ∈ (vals2 l).foldl _ [] ↔ _
  rw [(fold_up (vals2 l) []).2 x]
  simp
theorem values_eq {l : Facts} {k : List Nat} (hk : Asc k) (h : ∀ x, x ∈ k ↔ x ∈ vals2 l) : k = Dx.values l := asc_ext hk (values_asc l) fun x => by rw [h, values_mem]
theorem vals2_mem (l : Facts) (x : Nat) : x ∈ vals2 l ↔ ∃ f ∈ l, x = f.a ∨ x = f.b := by
  unfold vals2
  simp [List.mem_flatMap]
theorem vals2_len (l : Facts) : (vals2 l).length = 2 * l.length := by
  induction l with
  | nil => rfl
  | cons f l ih =>
    show ([f.a, f.b] ++ vals2 l).length = _
    rw [List.length_append, ih, List.length_cons]
    simp
    omega
theorem values_len (l : Facts) : (Dx.values l).length ≤ 2 * l.length := by
  rw [← vals2_len]
  exact nodup_len (asc_nodup (values_asc l)) fun x hx => (values_mem l x).1 hx
theorem known_iff (v : Nat) : Dx.known v = true ↔ v < 100 := by
  unfold Dx.known Dx.UNKNOWN
  exact decide_eq_true_iff
theorem unk_mem (l : Facts) (x : Nat) : x ∈ Dx.unknowns l ↔ 100 ≤ x ∧ x ∈ vals2 l := by
  unfold Dx.unknowns
  rw [List.mem_filter, values_mem]
  have := known_iff x
  cases h : Dx.known x
  · simp only [h] at this
    simp at this
    simp [this]
  · simp only [h] at this
    simp at this
    simp
    omega
theorem unk_asc (l : Facts) : Asc (Dx.unknowns l) := List.Pairwise.filter _ (values_asc l)
theorem unk_nodup (l : Facts) : (Dx.unknowns l).Nodup := asc_nodup (unk_asc l)
end Fc

namespace Fc
open Dx (Fact Facts Map)

/-! ### mappings -/
def fnd (m : Map) (v : Nat) : Option Nat := (m.find? fun p => p.1 == v).map (·.2)
abbrev keys (m : Map) : List Nat := m.map (·.1)
theorem fnd_none {m : Map} {v : Nat} (h : v ∉ keys m) : fnd m v = none := by
  unfold fnd
  have : (m.find? fun p => p.1 == v) = none := List.find?_eq_none.mpr fun p hp e => h (List.mem_map.mpr ⟨p, hp, eq_of_beq e⟩)
  rw [this]; rfl
theorem fnd_some {m : Map} {v : Nat} (h : v ∈ keys m) : ∃ w, fnd m v = some w := by
  unfold fnd
  cases e : (m.find? fun p => p.1 == v) with
  | some p => exact ⟨p.2, rfl⟩
  | none =>
    obtain ⟨p, hp, rfl⟩ := List.mem_map.mp h
    have := List.find?_eq_none.mp e p hp
    simp at this
theorem fnd_app {m x : Map} {v w : Nat} (h : fnd m v = some w) : fnd (m ++ x) v = some w := by
  unfold fnd at h ⊢
  rw [List.find?_append]
  cases e : (m.find? fun p => p.1 == v) with
  | some p => rw [e] at h; exact h
  | none => rw [e] at h; cases h
theorem fnd_cons (p : Nat × Nat) (m : Map) (v : Nat) : fnd (p :: m) v = if p.1 = v then some p.2 else fnd m v := by
  unfold fnd
  rw [List.find?_cons]
  by_cases e : p.1 = v
  · rw [if_pos e, show (p.1 == v) = true from beq_iff_eq.mpr e]; rfl
  · rw [if_neg e, show (p.1 == v) = false from beq_false_of_ne e]
/-- mapping.get(v, v) -/
def look (m : Map) (v : Nat) : Nat := (fnd m v).getD v
def UK (m : Map) : Prop := ∀ v ∈ keys m, 100 ≤ v
theorem of_look {m : Map} (h : UK m) (v : Nat) : m.of v = look m v := by
  unfold Dx.Map.of
  by_cases k : Dx.known v = true
  · rw [if_pos k]
    rw [known_iff] at k
    have : v ∉ keys m := fun e => by have := h v e; omega
    show v = (fnd m v).getD v
    rw [fnd_none this]
    rfl
  · rw [if_neg k]; rfl
theorem of_known {m : Map} {v : Nat} (h : v < 100) : m.of v = v := by
  unfold Dx.Map.of
  rw [if_pos ((known_iff v).mpr h)]

/-! ### what may become what -/
def mbv (m : Map) (v g : Nat) : Bool := if 100 ≤ v ∧ v ∉ keys m then true else decide (look m v = g)
def mb (m : Map) (f g : Fact) : Bool := if f.t ≠ g.t then false else mbv m f.a g.a && mbv m f.b g.b
def fits (m : Map) (l k : Facts) : Bool := l.all fun f => k.any fun g => mb m f g
theorem mbv_of {m x : Map} (hm : UK m) (v : Nat) : mbv m v ((m ++ x : Map).of v) = true := by
  unfold mbv
  by_cases c : 100 ≤ v ∧ v ∉ keys m
  · rw [if_pos c]
  · rw [if_neg c]
    refine decide_eq_true ?_
    rcases Nat.lt_or_ge v 100 with h | h
    · rw [of_known h]
      have : v ∉ keys m := fun e => by have := hm v e; omega
      unfold look
      rw [fnd_none this]; rfl
    · have hk : v ∈ keys m := Classical.byContradiction fun e => c ⟨h, e⟩
      obtain ⟨w, e⟩ := fnd_some hk
      unfold look Dx.Map.of
      rw [e, if_neg (by rw [known_iff]; omega)]
      show w = (fnd (m ++ x) v).getD v
      rw [fnd_app e]; rfl
theorem fits_of {m x : Map} {l k : Facts} (hm : UK m) (h : (l.all fun f => k.contains ((m ++ x : Map).fact f)) = true) : fits m l k = true := by
  unfold fits
  rw [List.all_eq_true] at h ⊢
  intro f hf
  have h1 := h f hf
  rw [List.any_eq_true]
  refine ⟨_, List.contains_iff_mem.mp h1, ?_⟩
  unfold mb Dx.Map.fact
  rw [if_neg (fun h => h rfl), Bool.and_eq_true]
  exact ⟨mbv_of hm _, mbv_of hm _⟩
theorem mbv_full {m : Map} (hm : UK m) {v : Nat} (hv : 100 ≤ v → v ∈ keys m) (g : Nat) : mbv m v g = decide (m.of v = g) := by
  unfold mbv
  rw [if_neg (fun c => c.2 (hv c.1)), of_look hm]
theorem mb_full {m : Map} (hm : UK m) {f : Fact} (ha : 100 ≤ f.a → f.a ∈ keys m) (hb : 100 ≤ f.b → f.b ∈ keys m) (g : Fact) : mb m f g = decide (m.fact f = g) := by
  obtain ⟨t, a, b⟩ := f
  obtain ⟨t', a', b'⟩ := g
  unfold mb Dx.Map.fact
  rw [mbv_full hm ha, mbv_full hm hb]
  simp only [Fact.mk.injEq]
  by_cases e : t = t'
  · subst e; simp
  · simp [e]
theorem fits_full {m : Map} {l k : Facts} (hm : UK m) (h : ∀ v ∈ vals2 l, 100 ≤ v → v ∈ keys m) : fits m l k = l.all fun f => k.contains (m.fact f) := by
  unfold fits
  rw [Bool.eq_iff_iff, List.all_eq_true, List.all_eq_true]
  have key : ∀ f ∈ l, ((k.any fun g => mb m f g) = true ↔ k.contains (m.fact f) = true) := fun f hf => by
    have ha : f.a ∈ vals2 l := (vals2_mem l _).mpr ⟨f, hf, .inl rfl⟩
    have hb : f.b ∈ vals2 l := (vals2_mem l _).mpr ⟨f, hf, .inr rfl⟩
    rw [List.any_eq_true, List.contains_iff_mem]
    constructor
    · rintro ⟨g, hg, e⟩
      rw [mb_full hm (h _ ha) (h _ hb), decide_eq_true_eq] at e
      rw [e]; exact hg
    · intro hg
      exact ⟨_, hg, by rw [mb_full hm (h _ ha) (h _ hb), decide_eq_true_eq]⟩
  exact ⟨fun hh f hf => (key f hf).1 (hh f hf), fun hh f hf => (key f hf).2 (hh f hf)⟩
theorem into_inv {l k : Facts} : ∀ {us : List Nat} {m m' : Map}, Dx.into l k us m = some m' → ∃ x : Map, m' = m ++ x ∧ keys x = us ∧ (∀ p ∈ x, p.2 ∈ Dx.values k) ∧ (l.all fun f => k.contains (m'.fact f)) = true
  | [], m, m', h => by
    unfold Dx.into at h
    by_cases c : (l.all fun f => k.contains (m.fact f)) = true
    · rw [if_pos c] at h
      cases h
      exact ⟨[], by simp, rfl, by simp, c⟩
    · rw [if_neg c] at h; cases h
  | u :: us, m, m', h => by
    unfold Dx.into at h
    obtain ⟨v, hv, e⟩ := List.exists_of_findSome?_eq_some h
    obtain ⟨x, e1, e2, e3, e4⟩ := into_inv e
    refine ⟨(u, v) :: x, ?_, ?_, ?_, e4⟩
    · rw [e1]; simp
    · show u :: keys x = _; rw [e2]
    · intro p hp
      rcases List.mem_cons.mp hp with q | q
      · subst q; exact hv
      · exact e3 p q
theorem into_nofit {l k : Facts} {us : List Nat} {m : Map} (hm : UK m) (h : fits m l k = false) : Dx.into l k us m = none := by
  cases e : Dx.into l k us m with
  | none => rfl
  | some m' =>
    obtain ⟨x, rfl, _, _, e4⟩ := into_inv e
    rw [fits_of hm e4] at h
    cases h
theorem into_nil {l k : Facts} {m : Map} (hm : UK m) (hc : ∀ v ∈ vals2 l, 100 ≤ v → v ∈ keys m) (h : fits m l k = true) : Dx.into l k [] m = some m := by
  rw [fits_full hm hc] at h
  unfold Dx.into
  rw [if_pos h]
theorem map_inv {l k : Facts} {m : Map} (h : Dx.map? l k = some m) : keys m = Dx.unknowns l ∧ (∀ p ∈ m, p.2 ∈ Dx.values k) ∧ ∀ f ∈ l, m.fact f ∈ k := by
  obtain ⟨x, e1, e2, e3, e4⟩ := into_inv h
  rw [List.nil_append] at e1
  subst e1
  refine ⟨e2, e3, fun f hf => ?_⟩
  rw [List.all_eq_true] at e4
  exact List.contains_iff_mem.mp (e4 f hf)

/-! ### cores -/
def FBd (f : Fact) : Prop := f.t < 2 ∧ f.a < 300 ∧ f.b < 300
def Bd (l : Facts) : Prop := ∀ f ∈ l, FBd f
theorem without_mem (l : Facts) (f x : Fact) : x ∈ Dx03.without l f ↔ x ∈ l ∧ x ≠ f := by
  unfold Dx03.without
  rw [List.mem_filter]
  simp
theorem without_srt {l : Facts} (f : Fact) (h : Srt l) : Srt (Dx03.without l f) := List.Pairwise.filter _ h
theorem without_len {l : Facts} {f : Fact} (hf : f ∈ l) : (Dx03.without l f).length < l.length := by
  unfold Dx03.without
  have h1 := List.length_filter_le (fun g => g != f) l
  rcases Nat.lt_or_ge (l.filter (fun g => g != f)).length l.length with h | h
  · exact h
  · have h2 := (List.length_filter_eq_length_iff (p := fun g => g != f) (l := l)).1 (by omega) f hf
    simp at h2
theorem without_bd {l : Facts} (f : Fact) (h : Bd l) : Bd (Dx03.without l f) := fun x hx => h x ((without_mem l f x).1 hx).1
theorem shrink_inv {l k : Facts} (h : Dx03.shrink l = some k) : ∃ f ∈ l, ∃ m, Dx.map? l (Dx03.without l f) = some m ∧ k = Dx.tidy (l.map m.fact) := by
  unfold Dx03.shrink at h
  obtain ⟨f, hf, e⟩ := List.exists_of_findSome?_eq_some h
  cases em : Dx.map? l (Dx03.without l f) with
  | none => rw [em] at e; cases e
  | some m =>
    rw [em] at e
    exact ⟨f, hf, m, em, (Option.some.inj e).symm⟩
theorem image_sub {l k : Facts} {m : Map} (h : ∀ f ∈ l, m.fact f ∈ k) : ∀ x ∈ Dx.tidy (l.map m.fact), x ∈ k := fun x hx => by
  obtain ⟨f, hf, rfl⟩ := List.mem_map.mp ((tidy_mem _ x).1 hx)
  exact h f hf
theorem shrink_sub {l k : Facts} (h : Dx03.shrink l = some k) : (∀ x ∈ k, x ∈ l) ∧ k.length < l.length ∧ Srt k := by
  obtain ⟨f, hf, m, e, rfl⟩ := shrink_inv h
  have sub := image_sub (map_inv e).2.2
  refine ⟨fun x hx => ((without_mem l f x).1 (sub x hx)).1, ?_, tidy_srt _⟩
  exact Nat.lt_of_le_of_lt (nodup_len (srt_nodup (tidy_srt _)) sub) (without_len hf)
theorem least_fuel : ∀ (n : Nat) (l : Facts), l.length < n → ∀ n', l.length < n' → Dx03.least n l = Dx03.least n' l
  | 0, _, h, _, _ => absurd h (Nat.not_lt_zero _)
  | n + 1, l, h, 0, h' => absurd h' (Nat.not_lt_zero _)
  | n + 1, l, h, n' + 1, h' => by
    unfold Dx03.least
    cases e : Dx03.shrink l with
    | none => rfl
    | some k =>
      have := (shrink_sub e).2.1
      exact least_fuel n k (by omega) n' (by omega)
theorem core_step {l k : Facts} (h : Dx03.shrink l = some k) : Dx03.core l = Dx03.core k := by
  have := (shrink_sub h).2.1
  unfold Dx03.core
  rw [show Dx03.least (l.length + 1) l = Dx03.least l.length k by rw [Dx03.least, h]]
  exact least_fuel _ _ (by omega) _ (by omega)
theorem core_end {l : Facts} (h : Dx03.shrink l = none) : Dx03.core l = l := by
  unfold Dx03.core Dx03.least
  rw [h]
theorem unk_sub {l k : Facts} (h : ∀ x ∈ k, x ∈ l) : ∀ v ∈ Dx.unknowns k, v ∈ Dx.unknowns l := fun v hv => by
  obtain ⟨h1, h2⟩ := (unk_mem k v).1 hv
  obtain ⟨f, hf, e⟩ := (vals2_mem k v).1 h2
  exact (unk_mem l v).2 ⟨h1, (vals2_mem l v).2 ⟨f, h f hf, e⟩⟩
theorem unk_len_sub {l k : Facts} (h : ∀ x ∈ k, x ∈ l) : (Dx.unknowns k).length ≤ (Dx.unknowns l).length := nodup_len (unk_nodup k) (unk_sub h)
/-- what a store may be -/
structure Ok (l : Facts) : Prop where
  srt : Srt l
  bd : Bd l
  len : l.length ≤ 6
  unk : (Dx.unknowns l).length ≤ 4
theorem Ok.sub {l k : Facts} (h : Ok l) (s : Srt k) (hs : ∀ x ∈ k, x ∈ l) : Ok k :=
  ⟨s, fun x hx => h.bd x (hs x hx), Nat.le_trans (nodup_len (srt_nodup s) hs) h.len, Nat.le_trans (unk_len_sub hs) h.unk⟩
theorem Ok.shrink {l k : Facts} (h : Ok l) (e : Dx03.shrink l = some k) : Ok k := h.sub (shrink_sub e).2.2 (shrink_sub e).1
theorem Ok.without {l : Facts} (h : Ok l) (f : Fact) : Ok (Dx03.without l f) := h.sub (without_srt f h.srt) fun x hx => ((without_mem l f x).1 hx).1
theorem Ok.core : ∀ (n : Nat) {l : Facts}, l.length ≤ n → Ok l → Ok (Dx03.core l) ∧ Dx03.shrink (Dx03.core l) = none
  | n, l, hn, h => by
    cases e : Dx03.shrink l with
    | none => rw [core_end e]; exact ⟨h, e⟩
    | some k =>
      have q := (shrink_sub e).2.1
      rw [core_step e]
      match n with
      | 0 => omega
      | n + 1 => exact Ok.core n (by omega) (h.shrink e)

/-! ### isomorphisms -/
/-- all orders of the values; the fuel is their number -/
def arr : Nat → List Nat → List (List Nat)
  | _, [] => [[]]
  | 0, _ :: _ => []
  | n + 1, v :: vs => (v :: vs).flatMap fun x => (arr n ((v :: vs).filter fun y => y != x)).map (x :: ·)
theorem arr_nil (n : Nat) : arr n [] = [[]] := by cases n <;> rfl
theorem filter_ne_len {l : List Nat} (h : l.Nodup) {x : Nat} (hx : x ∈ l) : (l.filter fun y => y != x).length + 1 = l.length := by
  induction l with
  | nil => cases hx
  | cons a l ih =>
    obtain ⟨h1, h2⟩ := List.nodup_cons.mp h
    by_cases e : a = x
    · subst e
      rw [List.filter_cons, if_neg (by simp), List.length_cons]
      congr 1
      congr 1
      rw [List.filter_eq_self]
      intro y hy
      have : y ≠ a := fun e => h1 (e ▸ hy)
      simpa using this
    · rw [List.filter_cons, if_pos (by simpa using e), List.length_cons, List.length_cons]
      rw [ih h2 (by rcases List.mem_cons.mp hx with q | q; exact absurd q.symm e; exact q)]
theorem arr_inv : ∀ (n : Nat) (l : List Nat), l.Nodup → ∀ as ∈ arr n l, as.length = l.length ∧ ∀ x ∈ as, x ∈ l
  | n, [], _, as, h => by
    rw [arr_nil] at h
    simp at h
    subst h
    simp
  | 0, _ :: _, _, as, h => by cases h
  | n + 1, v :: vs, hn, as, h => by
    unfold arr at h
    obtain ⟨x, hx, h1⟩ := List.mem_flatMap.mp h
    obtain ⟨r, hr, rfl⟩ := List.mem_map.mp h1
    obtain ⟨i1, i2⟩ := arr_inv n _ (List.Pairwise.filter _ hn) r hr
    have := filter_ne_len hn hx
    refine ⟨by rw [List.length_cons, i1]; exact this, fun y hy => ?_⟩
    rcases List.mem_cons.mp hy with q | q
    · subst q; exact hx
    · exact (List.mem_filter.mp (i2 y q)).1
theorem findSome_flatMap {α β γ : Type} (f : α → List β) (g : β → Option γ) : ∀ l : List α, (l.flatMap f).findSome? g = l.findSome? fun a => (f a).findSome? g
  | [] => rfl
  | a :: l => by
    rw [List.flatMap_cons, List.findSome?_append, List.findSome?_cons, findSome_flatMap f g l]
    cases (f a).findSome? g <;> rfl
theorem findSome_filter {α β : Type} (p : α → Bool) (g : α → Option β) : ∀ l : List α, (l.filter p).findSome? g = l.findSome? fun a => if p a = true then g a else none
  | [] => rfl
  | a :: l => by
    rw [List.filter_cons, List.findSome?_cons]
    by_cases c : p a = true
    · rw [if_pos c, if_pos c, List.findSome?_cons, findSome_filter p g l]
    · rw [if_neg c, if_neg c, findSome_filter p g l]
theorem findSome_congr {α β : Type} {f g : α → Option β} : ∀ {l : List α}, (∀ a ∈ l, f a = g a) → l.findSome? f = l.findSome? g
  | [], _ => rfl
  | a :: l, h => by
    rw [List.findSome?_cons, List.findSome?_cons, h a List.mem_cons_self, findSome_congr fun b hb => h b (List.mem_cons_of_mem _ hb)]
def left (k : Facts) (m : Map) : List Nat := (Dx.unknowns k).filter fun v => !(m.any fun p => p.2 == v)
theorem left_nodup (k : Facts) (m : Map) : (left k m).Nodup := List.Pairwise.filter _ (unk_nodup k)
theorem left_app (k : Facts) (m : Map) (u v : Nat) : left k (m ++ [(u, v)]) = (left k m).filter fun y => y != v := by
  unfold left
  rw [List.filter_filter]
  congr 1
  funext y
  rw [List.any_append]
  simp
  rw [Bool.and_comm, show (v == y) = (y == v) from Bool.eq_iff_iff.mpr ⟨fun h => beq_iff_eq.mpr (eq_of_beq h).symm, fun h => beq_iff_eq.mpr (eq_of_beq h).symm⟩]
  rfl
def isoAt (l k : Facts) (m : Map) : Option Map := if Dx.tidy (l.map m.fact) = k then some m else none
theorem names_arr (l k : Facts) : ∀ (us : List Nat) (m : Map), us.length = (left k m).length → Dx03.names l k us m = (arr us.length (left k m)).findSome? fun as => isoAt l k (m ++ us.zip as)
  | [], m, h => by
    have e : left k m = [] := List.eq_nil_of_length_eq_zero h.symm
    rw [e, arr_nil]
    rw [List.findSome?_cons, List.findSome?_nil]
    rw [List.zip_nil_left, List.append_nil]
    show isoAt l k m = _
    cases isoAt l k m <;> rfl
  | u :: r, m, h => by
    obtain ⟨v0, vs, e⟩ : ∃ v0 vs, left k m = v0 :: vs := by
      cases e : left k m with
      | nil => rw [e] at h; cases h
      | cons v0 vs => exact ⟨v0, vs, rfl⟩
    have step : Dx03.names l k (u :: r) m = (left k m).findSome? fun v => Dx03.names l k r (m ++ [(u, v)]) := by
      unfold left
      rw [findSome_filter]
      show (Dx.unknowns k).findSome? _ = _
      refine findSome_congr fun v _ => ?_
      cases hc : (m.any fun p => p.2 == v)
      · rfl
      · rfl
    rw [step]
    have e2 : arr (u :: r).length (left k m) = (left k m).flatMap fun x => (arr r.length ((left k m).filter fun y => y != x)).map (x :: ·) := by
      rw [e]; rfl
    rw [e2, findSome_flatMap]
    refine findSome_congr fun v hv => ?_
    have hl := filter_ne_len (left_nodup k m) hv
    rw [names_arr l k r (m ++ [(u, v)]) (by rw [left_app]; rw [List.length_cons] at h; omega), left_app, List.findSome?_map]
    refine findSome_congr fun as _ => ?_
    show isoAt l k _ = isoAt l k (m ++ (u :: r).zip (v :: as))
    rw [List.zip_cons_cons, List.append_assoc]
    rfl
theorem left_nil (k : Facts) : left k [] = Dx.unknowns k := by
  unfold left
  rw [List.filter_eq_self]
  intro a _
  rfl
theorem names_inv (l k : Facts) : ∀ (us : List Nat) (m m' : Map), Dx03.names l k us m = some m' → (m.map (·.2)).Nodup → ∃ x : Map, m' = m ++ x ∧ keys x = us ∧ (m'.map (·.2)).Nodup ∧ (∀ p ∈ x, p.2 ∈ Dx.unknowns k) ∧ Dx.tidy (l.map m'.fact) = k
  | [], m, m', h, hn => by
    unfold Dx03.names at h
    by_cases c : Dx.tidy (l.map m.fact) = k
    · rw [if_pos c] at h
      cases h
      exact ⟨[], by simp, rfl, hn, by simp, c⟩
    · rw [if_neg c] at h; cases h
  | u :: us, m, m', h, hn => by
    unfold Dx03.names at h
    obtain ⟨v, hv, e⟩ := List.exists_of_findSome?_eq_some h
    cases hc : (m.any fun p => p.2 == v)
    · rw [hc, if_neg (by decide)] at e
      obtain ⟨x, e1, e2, e3, e4, e5⟩ := names_inv l k us _ m' e (by
        rw [List.map_append]
        refine List.nodup_append.mpr ⟨hn, by simp, ?_⟩
        intro a ha b hb q
        simp at hb
        obtain ⟨p, hp, rfl⟩ := List.mem_map.mp ha
        rw [List.any_eq_false] at hc
        exact hc p hp (beq_iff_eq.mpr (q.trans hb)))
      refine ⟨(u, v) :: x, by rw [e1]; simp, by show u :: keys x = _; rw [e2], e3, ?_, e5⟩
      intro p hp
      rcases List.mem_cons.mp hp with q | q
      · subst q; exact hv
      · exact e4 p q
    · rw [hc, if_pos rfl] at e; cases e
theorem fnd_mem {m : Map} {v w : Nat} (h : fnd m v = some w) : (v, w) ∈ m := by
  unfold fnd at h
  cases e : (m.find? fun p => p.1 == v) with
  | none => rw [e] at h; cases h
  | some p =>
    rw [e] at h
    have h1 := List.find?_some e
    have h2 := List.mem_of_find?_eq_some e
    have e1 : p.1 = v := eq_of_beq h1
    have e2 : p.2 = w := Option.some.inj h
    rw [← e1, ← e2]
    exact h2
theorem nodup_snd {m : Map} (h : (m.map (·.2)).Nodup) {a b w : Nat} (ha : (a, w) ∈ m) (hb : (b, w) ∈ m) : a = b := by
  induction m with
  | nil => cases ha
  | cons p m ih =>
    obtain ⟨h1, h2⟩ := List.nodup_cons.mp h
    rcases List.mem_cons.mp ha with e | e <;> rcases List.mem_cons.mp hb with f | f
    · rw [← e] at f; injection f with f1 _; exact f1.symm
    · exact absurd (List.mem_map.mpr ⟨_, f, by rw [← e]⟩) h1
    · exact absurd (List.mem_map.mpr ⟨_, e, by rw [← f]⟩) h1
    · exact ih h2 e f
theorem of_inj {m : Map} (hv : ∀ p ∈ m, 100 ≤ p.2) (hn : (m.map (·.2)).Nodup) {a b : Nat} (ha : 100 ≤ a → a ∈ keys m) (hb : 100 ≤ b → b ∈ keys m) (h : m.of a = m.of b) : a = b := by
  have un : ∀ c, 100 ≤ c → c ∈ keys m → ∃ w, (c, w) ∈ m ∧ m.of c = w ∧ 100 ≤ w := fun c hc k => by
    obtain ⟨w, e⟩ := fnd_some k
    refine ⟨w, fnd_mem e, ?_, hv _ (fnd_mem e)⟩
    unfold Dx.Map.of
    rw [if_neg (by rw [known_iff]; omega)]
    show (fnd m c).getD c = w
    rw [e]; rfl
  rcases Nat.lt_or_ge a 100 with h1 | h1 <;> rcases Nat.lt_or_ge b 100 with h2 | h2
  · rw [of_known h1, of_known h2] at h; exact h
  · obtain ⟨w, _, e, q⟩ := un b h2 (hb h2)
    rw [of_known h1, e] at h; omega
  · obtain ⟨w, _, e, q⟩ := un a h1 (ha h1)
    rw [of_known h2, e] at h; omega
  · obtain ⟨w, m1, e, q⟩ := un a h1 (ha h1)
    obtain ⟨w2, m2, e2, q2⟩ := un b h2 (hb h2)
    rw [e, e2] at h
    subst h
    exact nodup_snd hn m1 m2
theorem names_len {l k : Facts} (hl : Srt l) {m : Map} (h : Dx03.names l k (Dx.unknowns l) [] = some m) : l.length = k.length := by
  obtain ⟨x, e1, e2, e3, e4, e5⟩ := names_inv l k _ _ _ h (by simp)
  rw [List.nil_append] at e1
  subst e1
  rw [← e5]
  have : (l.map m.fact).Nodup := by
    have inj : ∀ f ∈ l, ∀ g ∈ l, m.fact f = m.fact g → f = g := fun f hf g hg e => by
      have val : ∀ f ∈ l, (100 ≤ f.a → f.a ∈ keys m) ∧ (100 ≤ f.b → f.b ∈ keys m) := fun f hf => ⟨fun h => by
        rw [e2, unk_mem]; exact ⟨h, (vals2_mem l _).2 ⟨f, hf, .inl rfl⟩⟩, fun h => by
        rw [e2, unk_mem]; exact ⟨h, (vals2_mem l _).2 ⟨f, hf, .inr rfl⟩⟩⟩
      have hv : ∀ p ∈ m, 100 ≤ p.2 := fun p hp => ((unk_mem k _).1 (e4 p hp)).1
      obtain ⟨t, a, b⟩ := f
      obtain ⟨t', a', b'⟩ := g
      unfold Dx.Map.fact at e
      injection e with q1 q2 q3
      have r1 := of_inj hv e3 (val _ hf).1 (val _ hg).1 q2
      have r2 := of_inj hv e3 (val _ hf).2 (val _ hg).2 q3
      simp only at r1 r2 q1
      rw [q1, r1, r2]
    exact List.pairwise_map.mpr (List.Pairwise.imp_of_mem (fun {f g} hf hg hne e => hne (inj f hf g hg e)) (srt_nodup hl))
  rw [tidy_len_nodup this, List.length_map]
/-- alike as the program looks for it -/
theorem alike_eq {l k : Facts} (hl : Srt l) : Dx03.alike l k = if (Dx.unknowns l).length = (Dx.unknowns k).length then (arr (Dx.unknowns l).length (Dx.unknowns k)).findSome? fun as => isoAt l k ((Dx.unknowns l).zip as) else none := by
  unfold Dx03.alike
  by_cases c : (Dx.unknowns l).length = (Dx.unknowns k).length
  · rw [if_pos c]
    have e := names_arr l k (Dx.unknowns l) [] (by rw [left_nil]; exact c)
    rw [left_nil] at e
    have e' : ∀ as, isoAt l k (([] : Map) ++ (Dx.unknowns l).zip as) = isoAt l k ((Dx.unknowns l).zip as) := fun as => rfl
    simp only [e'] at e
    rw [← e]
    by_cases d : l.length = k.length
    · rw [if_pos ⟨d, c⟩]
    · rw [if_neg (fun z => d z.1)]
      cases q : Dx03.names l k (Dx.unknowns l) [] with
      | none => rfl
      | some m => exact absurd (names_len hl q) d
  · rw [if_neg c, if_neg (fun z => c z.2)]

/-! ### renaming -/
def ren (us : List Nat) (n : Nat) : Map := us.zipIdx n |>.map fun p => (p.1, 100 + p.2)
theorem ren_keys (us : List Nat) (n : Nat) : keys (ren us n) = us := by
  unfold ren keys
  rw [List.map_map]
  show (us.zipIdx n).map (fun p => p.1) = us
  exact List.zipIdx_map_fst n us
theorem ren_look : ∀ (us : List Nat) (n v : Nat), v ∈ us → fnd (ren us n) v = some (100 + n + us.idxOf v)
  | [], _, _, h => by cases h
  | u :: us, n, v, h => by
    unfold ren
    rw [List.zipIdx_cons, List.map_cons, fnd_cons]
    by_cases e : u = v
    · rw [if_pos e]
      subst e
      simp
    · rw [if_neg e]
      have := ren_look us (n + 1) v (by rcases List.mem_cons.mp h with q | q; exact absurd q.symm e; exact q)
      unfold ren at this
      rw [this, List.idxOf_cons, show (u == v) = false from beq_false_of_ne e]
      congr 1
      simp
      omega
theorem plain_eq (l : Facts) : Dx03.plain l = Dx.tidy (l.map (ren (Dx.unknowns l) 0).fact) := by
  unfold Dx03.plain
  show Dx.tidy (l.map _) = _
  congr 1
  refine List.map_congr_left fun f hf => ?_
  have key : ∀ v ∈ vals2 l, (ren (Dx.unknowns l) 0).of v = if Dx.known v = true then v else 100 + (Dx.unknowns l).idxOf v := fun v hv => by
    unfold Dx.Map.of
    by_cases c : Dx.known v = true
    · rw [if_pos c, if_pos c]
    · rw [if_neg c, if_neg c]
      show (fnd _ v).getD v = _
      rw [ren_look _ _ _ ((unk_mem l v).2 ⟨by rw [known_iff] at c; omega, hv⟩)]
      rfl
  unfold Dx.Map.fact
  rw [key f.a ((vals2_mem l _).2 ⟨f, hf, .inl rfl⟩), key f.b ((vals2_mem l _).2 ⟨f, hf, .inr rfl⟩)]
end Fc

namespace Fc
open Dx (Fact Facts Map)
open Dx03 (House)
/-! ### the calls as one list -/
abbrev zs (ns : List Nat) : List Int := ns.map fun n : Nat => (n : Int)
def cnt (n : Nat) : Nat := ([0, 4, 4, 1, 1, 1, 1, 0, 0, 1] : List Nat).getD n 0
theorem shape_inv {n a b : Nat} (h : PyDx03.shape (n : Int) = some (a, b)) : n ≤ 9 ∧ a = cnt n ∧ b = 0 := by
  unfold PyDx03.shape at h
  have h9 : n ≤ 9 := by
    rcases Nat.lt_or_ge 9 n with c | c
    · rw [if_neg (by omega), if_neg (by omega), if_neg (by omega), if_neg (by omega), if_neg (by omega), if_neg (by omega), if_neg (by omega), if_neg (by omega), if_neg (by omega), if_neg (by omega)] at h
      cases h
    · exact c
  refine ⟨h9, ?_⟩
  match n, h9, h with
  | 0, _, h => cases h; exact ⟨rfl, rfl⟩
  | 1, _, h => cases h; exact ⟨rfl, rfl⟩
  | 2, _, h => cases h; exact ⟨rfl, rfl⟩
  | 3, _, h => cases h; exact ⟨rfl, rfl⟩
  | 4, _, h => cases h; exact ⟨rfl, rfl⟩
  | 5, _, h => cases h; exact ⟨rfl, rfl⟩
  | 6, _, h => cases h; exact ⟨rfl, rfl⟩
  | 7, _, h => cases h; exact ⟨rfl, rfl⟩
  | 8, _, h => cases h; exact ⟨rfl, rfl⟩
  | 9, _, h => cases h; exact ⟨rfl, rfl⟩
theorem zs_take (ns : List Nat) (k : Nat) : (zs ns).take k = zs (ns.take k) := by
  unfold zs
  rw [List.map_take]
theorem zs_drop (ns : List Nat) (k : Nat) : (zs ns).drop k = zs (ns.drop k) := by
  unfold zs
  rw [List.map_drop]
theorem calls_cons {f n : Nat} {r : List Nat} {cs : List (List (List Int))} (h : PyFlat.calls PyDx03.shape f (zs (n :: r)) = some cs) :
    n ≤ 9 ∧ cnt n ≤ r.length ∧ ∃ f' cs', cs = [zs (n :: r.take (cnt n))] :: cs' ∧ PyFlat.calls PyDx03.shape f' (zs (r.drop (cnt n))) = some cs' := by
  cases f with
  | zero => cases h
  | succ f =>
    have h : (match PyFlat.call PyDx03.shape ((n : Int) :: zs r) with
      | none => none
      | some (c, t) => match PyFlat.calls PyDx03.shape f t with
        | none => none
        | some cs => some (c :: cs)) = some cs := h
    cases e : PyFlat.call PyDx03.shape ((n : Int) :: zs r) with
    | none => rw [e] at h; cases h
    | some q =>
      obtain ⟨c, t⟩ := q
      rw [e] at h
      have e : (match PyDx03.shape (n : Int) with
        | none => none
        | some (a, k) => if (zs r).length < a then none else match PyFlat.rows k ((zs r).drop a) with
          | none => none
          | some (xs, t) => some (((n : Int) :: (zs r).take a) :: xs, t)) = some (c, t) := e
      cases es : PyDx03.shape (n : Int) with
      | none => rw [es] at e; cases e
      | some q =>
        obtain ⟨a, b⟩ := q
        obtain ⟨h9, rfl, rfl⟩ := shape_inv es
        rw [es] at e
        have e : (if (zs r).length < cnt n then none else some ([((n : Int) :: (zs r).take (cnt n))], (zs r).drop (cnt n))) = some (c, t) := e
        by_cases cl : (zs r).length < cnt n
        · rw [if_pos cl] at e; cases e
        · rw [if_neg cl] at e
          cases e
          have h : (match PyFlat.calls PyDx03.shape f ((zs r).drop (cnt n)) with
            | none => none
            | some cs => some ([((n : Int) :: (zs r).take (cnt n))] :: cs)) = some cs := h
          cases ec : PyFlat.calls PyDx03.shape f ((zs r).drop (cnt n)) with
          | none => rw [ec] at h; cases h
          | some cs' =>
            rw [ec] at h
            cases h
            refine ⟨h9, ?_, f, cs', ?_, ?_⟩
            · unfold zs at cl
              rw [List.length_map] at cl
              omega
            · rw [zs_take]
              rfl
            · rw [← zs_drop]
              exact ec
theorem calls_nil {f : Nat} {cs : List (List (List Int))} (h : PyFlat.calls PyDx03.shape f [] = some cs) : cs = [] := by
  cases f <;> (cases h; rfl)
theorem whole_id (c : List (List Int)) : PyDx03.whole c = c := by
  unfold PyDx03.whole
  split <;> rfl
/-- the answer's numbers from a state on -/
def due (S : House) (cs : List (List (List Int))) : List Int := PyFlat.told (PyFlat.played Dx03Neutral.step S cs)
theorem due_nil (S : House) : due S [] = [] := rfl
theorem due_cons (S : House) (c : List (List Int)) (cs : List (List (List Int))) : due S (c :: cs) = ((Dx03Neutral.step S c).2.length : Int) :: (Dx03Neutral.step S c).2 ++ due (Dx03Neutral.step S c).1 cs := rfl
theorem answers_eq {l : List Int} {cs : List (List (List Int))} (h : PyFlat.calls PyDx03.shape l.length l = some cs) : PyDx03.answers l = due Dx03.init cs := by
  have e : PyDx03.calls l = some cs := by
    unfold PyDx03.calls
    rw [h]
    show some (cs.map PyDx03.whole) = some cs
    congr 1
    conv => rhs; rw [← List.map_id cs]
    exact List.map_congr_left fun c _ => whole_id c
  unfold PyDx03.answers
  rw [e]
  rfl
theorem asked_calls {l : List Int} (h : PyDx03.answers_asked l = true) : ∃ cs, PyFlat.calls PyDx03.shape l.length l = some cs := by
  unfold PyDx03.answers_asked at h
  cases e : PyFlat.calls PyDx03.shape l.length l with
  | none => rw [e] at h; cases h
  | some cs => exact ⟨cs, rfl⟩
/-- the call that a number and its whole numbers name -/
def callN (n k : Nat) (as : List Nat) : Dx03.Call :=
  if n = 1 then .fact k (as.getD 0 0) (as.getD 1 0) (as.getD 2 0) else if n = 2 then .gone k (as.getD 0 0) (as.getD 1 0) (as.getD 2 0) else
  if n = 3 then .facts k else if n = 4 then .core k else if n = 5 then .spare k else if n = 6 then .map k else .keep k
theorem step_hi {S : House} {n k : Nat} {as : List Nat} (h : 1 < k) : Dx03.step S (callN n k as) = (S, Dx03.ok (-2)) := by
  unfold callN
  split
  · exact if_pos h
  · split
    · exact if_pos h
    · split
      · exact if_pos h
      · split
        · exact if_pos h
        · split
          · exact if_pos h
          · split
            · exact if_pos h
            · exact if_pos h
theorem step_is {S : House} {n : Nat} {as : List Nat} (h9 : n ≤ 9) (hl : as.length = cnt n) : Dx03Neutral.step S [zs (n :: as)] =
    (let c := if n = 0 then Dx03.Call.begins else if n = 7 then .same else if n = 8 then .alike else callN n (as.getD 0 0) (as.drop 1)
     ((Dx03.step S c).1, Dx03Neutral.out (Dx03.step S c).2)) := by
  match n, h9, as, hl with
  | 0, _, [], _ => rfl
  | 1, _, [k, t, a, b], _ => rfl
  | 2, _, [k, t, a, b], _ => rfl
  | 3, _, [k], _ => rfl
  | 4, _, [k], _ => rfl
  | 5, _, [k], _ => rfl
  | 6, _, [k], _ => rfl
  | 7, _, [], _ => rfl
  | 8, _, [], _ => rfl
  | 9, _, [k], _ => rfl
/-- what a call answers is short -/
theorem told_len (l : Facts) : (Dx03Neutral.out (Dx03.told l)).length = 1 + 3 * l.length := by
  show ((l.length : Int) :: (l.flatMap fun f => [f.t, f.a, f.b]).map fun n : Nat => (n : Int)).length = _
  rw [List.length_cons, List.length_map]
  have : (l.flatMap fun f => [f.t, f.a, f.b]).length = 3 * l.length := by
    induction l with
    | nil => rfl
    | cons f l ih =>
      rw [List.flatMap_cons, List.length_append, ih, List.length_cons]
      simp
      omega
  omega
theorem toldMap_len (m : Map) : (Dx03Neutral.out (Dx03.toldMap (some m))).length = 1 + 2 * m.length := by
  show ((1 : Int) :: (m.flatMap fun p => [p.1, p.2]).map fun n : Nat => (n : Int)).length = _
  rw [List.length_cons, List.length_map]
  have : (m.flatMap fun p => [p.1, p.2]).length = 2 * m.length := by
    induction m with
    | nil => rfl
    | cons f l ih =>
      rw [List.flatMap_cons, List.length_append, ih, List.length_cons]
      simp
      omega
  omega
end Fc

namespace Fc
open PySem PySem.Spec PyProof.Rows L2 FcS
open Dx (Fact Facts Map)
def top (i : Nat) : Stmt := PySem.Challenge.pw_factcores_s01_answers.main.body.getD i (.Pass ⟨0, 0, 0, 0⟩)
abbrev cs (ns : List Nat) : List Int := ns.map fun n : Nat => (n : Int)
abbrev nV (ns : List Nat) : List V := (cs ns).map V.int
theorem nV_len (ns : List Nat) : (nV ns).length = ns.length := by rw [List.length_map, List.length_map]
theorem nV_app (ns ms : List Nat) : nV (ns ++ ms) = nV ns ++ nV ms := by
  unfold nV cs
  rw [List.map_append, List.map_append]
theorem nV_get {ns : List Nat} {i : Nat} {y : V} (h : (nV ns)[i]? = some y) : ∃ n, ns[i]? = some n ∧ y = V.int (n : Int) := by
  unfold nV cs at h
  rw [List.getElem?_map, List.getElem?_map] at h
  cases e : ns[i]? with
  | none => rw [e] at h; cases h
  | some n => rw [e] at h; exact ⟨n, rfl, (Option.some.inj h).symm⟩
theorem get_nV {ns : List Nat} {i n : Nat} (h : ns[i]? = some n) : (nV ns)[i]? = some (V.int (n : Int)) := by
  unfold nV cs
  rw [List.getElem?_map, List.getElem?_map, h]
  rfl
def fV (f : Fact) : List V := [V.int (f.t : Int), V.int (f.a : Int), V.int (f.b : Int)]
/-- a list of whole numbers, of facts, a mapping -/
def NL (H : Hp) (a : Addr) (ns : List Nat) : Prop := H a = some (.lst (nV ns))
def FA (H : Hp) (a : Addr) (l : Facts) : Prop := ∃ qs : List (Addr × Fact), H a = some (.lst (qs.map fun q => V.ref q.1)) ∧ (∀ q ∈ qs, H q.1 = some (.tup (fV q.2))) ∧ qs.map (·.2) = l
def kvM (m : Map) : List (Key × V) := m.map fun p => ((Sum.inl (p.1 : Int) : Key), V.int (p.2 : Int))
def DM (H : Hp) (a : Addr) (m : Map) : Prop := H a = some (.dK (kvM m))
/-- what is handed back: all that stood stands -/
def Ret (H : Hp) (Q : VK) (Post : V → Hp → Prop) : Prop := ∀ v H2, Same H H2 → Post v H2 → Q v H2
theorem Same.new {H H' : Hp} {p : Addr} {o : HO} (s : Same H H') (h : H p = none) : Same H (upd H' p o) := fun b u e => by
  rw [upd_ne (ne_of_none e h)]
  exact s b u e
theorem Same.one {H : Hp} {p : Addr} {o : HO} (h : H p = none) : Same H (upd H p o) := Same.new (Same.refl H) h
theorem NL.mono {H H' : Hp} {a : Addr} {ns : List Nat} (h : NL H a ns) (s : Same H H') : NL H' a ns := s _ _ h
theorem DM.mono {H H' : Hp} {a : Addr} {m : Map} (h : DM H a m) (s : Same H H') : DM H' a m := s _ _ h
theorem FA.mono {H H' : Hp} {a : Addr} {l : Facts} (h : FA H a l) (s : Same H H') : FA H' a l := by
  obtain ⟨qs, h1, h2, h3⟩ := h
  exact ⟨qs, s _ _ h1, fun q hq => s _ _ (h2 q hq), h3⟩
theorem FA.lst {H : Hp} {a : Addr} {l : Facts} (h : FA H a l) : ∃ qs : List (Addr × Fact), H a = some (.lst (qs.map fun q => V.ref q.1)) ∧ qs.length = l.length ∧ ∀ (i : Nat) (x : V), (qs.map fun q => V.ref q.1)[i]? = some x → ∃ p f, x = .ref p ∧ H p = some (.tup (fV f)) ∧ l[i]? = some f ∧ qs[i]? = some (p, f) := by
  obtain ⟨qs, h1, h2, rfl⟩ := h
  refine ⟨qs, h1, by rw [List.length_map], fun i x hx => ?_⟩
  rw [List.getElem?_map] at hx
  cases e : qs[i]? with
  | none => rw [e] at hx; cases hx
  | some q =>
    rw [e] at hx
    exact ⟨q.1, q.2, (Option.some.inj hx).symm, h2 q (List.mem_of_getElem? e), by rw [List.getElem?_map, e]; rfl, rfl⟩
theorem take_more {α : Type} : ∀ {l : List α} {i : Nat} {x : α}, l[i]? = some x → l.take (i + 1) = l.take i ++ [x]
  | [], i, x, h => by simp at h
  | a :: l, 0, x, h => by
    have e : a = x := Option.some.inj h
    subst e
    rfl
  | a :: l, i + 1, x, h => by
    have ih := take_more (l := l) (i := i) (x := x) h
    show a :: l.take (i + 1) = a :: l.take i ++ [x]
    rw [ih]
    rfl
/-- a def of the program, as a global -/
structure Df (K : PySem.W.Frag) (mg : Str → Option Value) (nm : Str) (st : Stmt) (ps : List Str) (f : Addr) (fd : FuncData) : Prop where
  F : Fun K nm nm st f fd
  b : Binds K fd ps []
  g : mg nm = some (.ref f)
/-- the built-ins' names are not written over -/
structure Blt (mg : Str → Option Value) : Prop where
  set : mg "set" = none
  sorted : mg "sorted" = none
  len : mg "len" = none
  dict : mg "dict" = none
  zip : mg "zip" = none
  enumerate : mg "enumerate" = none
  list : mg "list" = none
  tuple : mg "tuple" = none
theorem if_t {c : Bool} {A B : Prop} (hc : c = true) (h : A) : if c = true then A else B := by
  rw [if_pos hc]
  exact h
theorem if_f {c : Bool} {A B : Prop} (hc : c = false) (h : B) : if c = true then A else B := by
  rw [hc, if_neg Bool.false_ne_true]
  exact h
theorem if_b {c : Bool} {A B : Prop} (h1 : c = true → A) (h2 : c = false → B) : if c = true then A else B := by
  cases c
  · exact if_f rfl (h2 rfl)
  · exact if_t rfl (h1 rfl)
/-! ### the promises of facts.py -/
def spIsU : Sp := fun vs H Q _ => ∃ n : Nat, vs = [.int (n : Int)] ∧ Q (.bl (decide (100 ≤ n))) H
def spVals : Sp := fun vs H Q _ => ∃ (a : Addr) (l : Facts), vs = [.ref a] ∧ FA H a l ∧ l.length ≤ 12 ∧ Ret H Q fun v H' => ∃ p, v = .ref p ∧ NL H' p (Dx.values l)
def spUnk : Sp := fun vs H Q _ => ∃ (a : Addr) (l : Facts), vs = [.ref a] ∧ FA H a l ∧ l.length ≤ 12 ∧ Ret H Q fun v H' => ∃ p, v = .ref p ∧ NL H' p (Dx.unknowns l)
abbrev sIsU : Stmt := top 2
abbrev sVals : Stmt := top 3
abbrev sUnk : Stmt := top 4
abbrev sWo : Stmt := top 5
section
variable {P : Program} {w : World} {K : PySem.W.Frag} {mg : Str → Option Value} {base : Heap}
theorem scIsU : FnScope ["value"] ["value"] (defScope sIsU) := ⟨rfl, rfl, rfl, by decide +kernel, rfl, by decide +kernel, by decide +kernel⟩
theorem ok_isU {f : Addr} {fd : FuncData} {t : Tok} (F : Fun K "is_unknown" "is_unknown" sIsU f fd) (c : mg "FIRST_UNKNOWN" = some (.int 100 t)) : FnOk P w K mg base CX0 1 f fd ["value"] spIsU := by
  refine F.ok scIsU (fun vs H Q E h => ?_) (fun cdv A outer s H vs Q E hr h => ?_)
  · obtain ⟨n, rfl, _⟩ := h
    rfl
  · obtain ⟨n, rfl, k⟩ := h
    refine ⟨_, pss_one (ps_ret (pe_cmpR op_ge (pv 0) (pe_glob (v := .int 100) rfl c ⟨_, rfl⟩) (nomark _))), ?_⟩
    refine ⟨_, rfl, (n : Int), 100, rfl, rfl, ?_⟩
    have e : decide ((100 : Int) ≤ (n : Int)) = decide (100 ≤ n) := by
      rw [Bool.eq_iff_iff, decide_eq_true_eq, decide_eq_true_eq]
      omega
    show Q (.bl (decide ((100 : Int) ≤ (n : Int)))) H
    rw [e]
    exact k
theorem scVals : FnScope ["facts", "found", "fact"] ["facts"] (defScope sVals) := ⟨rfl, rfl, rfl, by decide +kernel, rfl, by decide +kernel, by decide +kernel⟩
theorem vals2_take {l : Facts} {i : Nat} {f : Fact} (h : l[i]? = some f) : vals2 (l.take (i + 1)) = vals2 (l.take i) ++ [f.a] ++ [f.b] := by
  rw [take_more h]
  unfold vals2
  rw [List.flatMap_append]
  simp
theorem ok_vals {f : Addr} {fd : FuncData} (F : Fun K "values_of" "values_of" sVals f fd) (T : Blt mg) : FnOk P w K mg base CX0 1 f fd ["facts"] spVals := by
  refine F.ok scVals (fun vs H Q E h => ?_) (fun cdv A outer s H vs Q E hr h => ?_)
  · obtain ⟨a, l, rfl, _⟩ := h
    rfl
  · obtain ⟨a, l, rfl, hl, hn, k⟩ := h
    refine ⟨_, pss_cons (ps_set (i := 1) scVals.nd rfl (.inl rfl) (pe_lst pa_nil))
      (pss_cons (ps_for PassesOwn.never rfl (pi_list (pv 0)) (pg_name (i := 2) scVals.nd rfl (.inl rfl))
        (pss_cons (ps_expr (pe_bm PySem.F.plainAttrs_list PySem.F.slot_list_append PySem.F.type_list_append mt_append (pv 1) (pa_cons (pe_ix ix_tup (pv 2) pe_int (fun _ _ => rfl)) pa_nil)))
          (pss_one (ps_expr (pe_bm PySem.F.plainAttrs_list PySem.F.slot_list_append PySem.F.type_list_append mt_append (pv 1) (pa_cons (pe_ix ix_tup (pv 2) pe_int (fun _ _ => rfl)) pa_nil))))))
      (pss_one (ps_ret (pe_callB (cr_sortedSet rfl) (by rfl) T.sorted (by decide +kernel) (pa_cons (pe_callTy (cr_setL rfl) (by rfl) T.set (by decide +kernel) (pa_cons (pv 1) pa_nil)) pa_nil))))), ?_⟩
    refine ⟨Nat.zero_le _, fun p np => ?_⟩
    have s1 : Same H (upd H p (.lst [])) := Same.one np
    obtain ⟨qs, q1, q2, q3⟩ := hl.lst
    refine ⟨_, rfl, a, rfl, ⟨_, SqL.of (s1 _ _ q1)⟩, for_list (K := K) (a := a) (xs := qs.map fun q => V.ref q.1) (fun i σ H' => ∃ v : Option V, σ = [some (.ref a), some (.ref p), v] ∧ Same H H' ∧ NL H' p (vals2 (l.take i)))
      ⟨none, rfl, s1, by show upd _ p _ p = _; rw [upd_same]; rfl⟩ (fun i σ H' _ ⟨_, _, s5, _⟩ => SqL.of (s5 _ _ q1)) ?_ ?_⟩
    · rintro i y σ H' hi ⟨v, rfl, s5, n5⟩
      obtain ⟨t, x, rfl, hx, hli, _⟩ := q3 i y hi
      have hx5 := s5 _ _ hx
      have len5 : (nV (vals2 (l.take i))).length < 30 := by
        rw [nV_len, vals2_len, List.length_take]
        omega
      have nt : t ≠ p := ne_of_none hx np
      refine ⟨_, rfl, .inl ⟨rfl, _, SqL.of n5⟩, _, rfl, t, _, 1, _, rfl, rfl, SqT.of hx5, atI_nat (xs := fV x) (j := 1) rfl, p, _, _, rfl, rfl, n5, Nat.lt_of_lt_of_le len5 (by decide), ?_⟩
      refine ⟨_, rfl, .inl ⟨rfl, _, SqL.of upd_same⟩, _, rfl, t, _, 2, _, rfl, rfl, SqT.of (by rw [upd_ne nt]; exact hx5), atI_nat (xs := fV x) (j := 2) rfl, p, _, _, rfl, rfl, upd_same, (by rw [List.length_append]; exact Nat.lt_of_lt_of_le (Nat.add_lt_add_right len5 1) (by decide)), ?_⟩
      refine ⟨_, rfl, Same.new (Same.new s5 np) np, ?_⟩
      unfold NL
      rw [upd_same, vals2_take hli, nV_app, nV_app]
      rfl
    · rintro σ H' ⟨v, rfl, s5, n5⟩
      rw [List.length_map, q2, List.take_length] at n5
      have hlen : (vals2 l).length ≤ 24 := by rw [vals2_len]; omega
      refine ⟨_, rfl, p, cs (vals2 l), rfl, SqL.of n5, by rw [List.length_map]; omega, fun S n nS hS => ?_⟩
      rw [List.length_map] at hS
      refine ⟨S, _, n, rfl, upd_same, by omega, fun ns r asc mem len nr => ?_⟩
      have s6 : Same H' (upd (upd H' S (SetO w S (fun j => decide (j ∈ cs (vals2 l))) n)) r (.lst (ns.map V.int))) := Same.new (Same.one nS) (by
        cases q : H' r with
        | none => rfl
        | some o => rw [Same.one nS _ _ q] at nr; cases nr)
      refine k _ _ (s5.trans s6) ⟨r, rfl, ?_⟩
      have pos : ∀ j ∈ ns, ∃ n ∈ vals2 l, j = (n : Int) := fun j hj => by
        have := (mem j).1 hj
        rw [decide_eq_true_eq] at this
        obtain ⟨n, h1, h2⟩ := List.mem_map.mp this
        exact ⟨n, h1, h2.symm⟩
      have e1 : ns = cs (ns.map Int.toNat) := by
        unfold cs
        rw [List.map_map]
        conv => lhs; rw [← List.map_id ns]
        refine List.map_congr_left fun j hj => ?_
        obtain ⟨n, _, rfl⟩ := pos j hj
        rfl
      have e2 : ns.map Int.toNat = Dx.values l := by
        refine values_eq ?_ fun x => ?_
        · refine List.pairwise_map.mpr (List.Pairwise.imp_of_mem (fun {a b} ha hb h => ?_) asc)
          obtain ⟨x, _, rfl⟩ := pos a ha
          obtain ⟨y, _, rfl⟩ := pos b hb
          exact Int.ofNat_lt.mp h
        · rw [List.mem_map]
          constructor
          · rintro ⟨j, hj, rfl⟩
            obtain ⟨n, h1, rfl⟩ := pos j hj
            exact h1
          · intro hx
            exact ⟨(x : Int), (mem _).2 (by rw [decide_eq_true_eq]; exact List.mem_map.mpr ⟨x, hx, rfl⟩), rfl⟩
      show upd _ r _ r = _
      rw [upd_same]
      conv => lhs; rw [e1, e2]
end
end Fc

namespace Fc
open PySem PySem.Spec PyProof.Rows L2 FcS
open Dx (Fact Facts Map)
theorem back {H H' : Hp} (s : Same H H') {p : Addr} (h : H' p = none) : H p = none := s.free h
def dF (f : Fact) : PyData := .tuple [.int (f.t : Int), .int (f.a : Int), .int (f.b : Int)]
theorem dF_at {K : PySem.W.Frag} {H : Hp} {p : Addr} {f : Fact} (h : H p = some (.tup (fV f))) : Dp K H (.ref p) (dF f) := .tup (SqT.of h) (.cons (.int _) (.cons (.int _) (.cons (.int _) .nil)))
theorem dF_shaped (f : Fact) : SeqAt.shaped (dF f) = true := rfl
theorem dF_eqv (f g : Fact) : PyData.eqv (dF f) (dF g) = decide (f = g) := by
  show (((f.t : Int) == (g.t : Int)) && (((f.a : Int) == (g.a : Int)) && (((f.b : Int) == (g.b : Int)) && true))) = decide (f = g)
  rw [Bool.eq_iff_iff, decide_eq_true_eq]
  simp only [Bool.and_eq_true, beq_iff_eq, Bool.and_true, Int.ofNat_inj]
  obtain ⟨t, a, b⟩ := f
  obtain ⟨t', a', b'⟩ := g
  simp only [Fact.mk.injEq]
def spWo : Sp := fun vs H Q _ => (∃ (a b : Addr) (l : Facts) (f : Fact), vs = [.ref a, .ref b] ∧ FA H a l ∧ H b = some (.tup (fV f)) ∧ l.length ≤ 12 ∧ Ret H Q fun v H' => ∃ p, v = .ref p ∧ H p = none ∧ FA H' p (Dx03.without l f)) ∨
  (∃ (a : Addr) (ns : List Nat) (n : Nat), vs = [.ref a, .int (n : Int)] ∧ NL H a ns ∧ ns.length ≤ 12 ∧ Ret H Q fun v H' => ∃ p, v = .ref p ∧ H p = none ∧ NL H' p (ns.filter fun y => y != n))
theorem take_filter {α : Type} {l : List α} {i : Nat} {x : α} (p : α → Bool) (h : l[i]? = some x) : (l.take (i + 1)).filter p = if p x = true then (l.take i).filter p ++ [x] else (l.take i).filter p := by
  rw [take_more h, List.filter_append, List.filter_cons]
  split
  · simp
  · simp
section
variable {P : Program} {w : World} {K : PySem.W.Frag} {mg : Str → Option Value} {base : Heap}
theorem scUnk : FnScope ["facts", "value"] ["facts"] (defScope sUnk) := ⟨rfl, rfl, rfl, by decide +kernel, rfl, by decide +kernel, by decide +kernel⟩
theorem ok_unk {f f1 f2 : Addr} {fd fd1 fd2 : FuncData} (F : Fun K "unknowns_of" "unknowns_of" sUnk f fd) (D1 : Df K mg "is_unknown" sIsU ["value"] f1 fd1) (D2 : Df K mg "values_of" sVals ["facts"] f2 fd2)
    (G1 : FnOk P w K mg base CX0 1 f1 fd1 ["value"] spIsU) (G2 : FnOk P w K mg base CX0 1 f2 fd2 ["facts"] spVals) : FnOk P w K mg base CX0 2 f fd ["facts"] spUnk := by
  refine F.ok scUnk (fun vs H Q E h => ?_) (fun cdv A outer s H vs Q E hr h => ?_)
  · obtain ⟨a, l, rfl, _⟩ := h
    rfl
  · obtain ⟨a, l, rfl, hl, hn, k⟩ := h
    refine ⟨_, pss_one (ps_ret (pe_lc (own := [("value", 1)]) (g := gName 1) rfl scUnk.nd (pi_list (pe_call G2 hr rfl D2.g D2.F.kp D2.b .nil pass0 (pa_cons (pv 0) pa_nil))) (blkOk_by (N := ["facts", "value"]) (sc := defScope sUnk) (by decide +kernel))
      (fun _ _ _ _ _ => pg_name (i := 1) scUnk.nd rfl (Or.inl rfl)) (fun _ _ _ _ _ => pts_one (pt_val (pe_call G1 hr rfl D1.g D1.F.kp D1.b .nil pass0 (pa_cons (pv 1) pa_nil)))) (fun _ _ _ _ _ => pv 1))), ?_⟩
    refine ⟨_, rfl, a, l, rfl, hl, hn, fun v H1 s1 q => ?_⟩
    obtain ⟨p, rfl, hp⟩ := q
    refine ⟨p, rfl, ⟨_, SqL.of hp⟩, fun D nD => ?_⟩
    have hlen : (Dx.values l).length ≤ 24 := by have := values_len l; omega
    refine lc_list (K := K) (a := p) (xs := nV (Dx.values l)) (fun i H' => Same H1 H' ∧ NL H' D (((Dx.values l).take i).filter fun v => !Dx.known v)) ⟨Same.one nD, by show upd _ D _ D = _; rw [upd_same]; rfl⟩ (fun i H' _ ⟨s5, _⟩ => SqL.of (s5 _ _ hp)) ?_ ?_
    · rintro i x H' hi ⟨s5, n5⟩
      obtain ⟨n, hn, rfl⟩ := nV_get hi
      have ek : decide (100 ≤ n) = !Dx.known n := by
        have := known_iff n
        cases e : Dx.known n
        · simp only [e] at this; simp at this; simpa using this
        · simp only [e] at this; simp at this; simp; omega
      refine ⟨rfl, _, rfl, n, rfl, _, rfl, ?_⟩
      rw [ek]
      have tf := take_filter (fun v => !Dx.known v) hn
      refine if_b (fun c => ?_) (fun c => ?_)
      · rw [if_pos c] at tf
        refine ⟨_, rfl, _, n5, ?_, Same.new s5 nD, ?_⟩
        · rw [nV_len]
          refine Nat.lt_of_le_of_lt (List.length_filter_le _ _) ?_
          rw [List.length_take]
          exact Nat.lt_of_le_of_lt (Nat.min_le_right _ _) (Nat.lt_of_le_of_lt hlen (by decide))
        · show upd _ D _ D = _
          rw [upd_same, tf, nV_app]
          rfl
      · rw [if_neg (by rw [c]; exact Bool.false_ne_true)] at tf
        rw [tf]
        exact ⟨s5, n5⟩
    · rintro H' ⟨s5, n5⟩
      rw [nV_len, List.take_length] at n5
      exact k _ _ (s1.trans s5) ⟨D, rfl, n5⟩
theorem scWo : FnScope ["members", "one", "other"] ["members", "one"] (defScope sWo) := ⟨rfl, rfl, rfl, by decide +kernel, rfl, by decide +kernel, by decide +kernel⟩
theorem ok_wo {f : Addr} {fd : FuncData} (F : Fun K "without" "without" sWo f fd) : FnOk P w K mg base CX0 1 f fd ["members", "one"] spWo := by
  refine F.ok scWo (fun vs H Q E h => ?_) (fun cdv A outer s H vs Q E hr h => ?_)
  · rcases h with ⟨a, b, l, f, rfl, _⟩ | ⟨a, ns, n, rfl, _⟩ <;> rfl
  · refine ⟨_, pss_one (ps_ret (pe_lc (own := [("other", 2)]) (g := gName 2) rfl scWo.nd (pi_list (pv 0)) (blkOk_by (N := ["members", "one", "other"]) (sc := defScope sWo) (by decide +kernel))
      (fun _ _ _ _ _ => pg_name (i := 2) scWo.nd rfl (Or.inl rfl)) (fun _ _ _ _ _ => pts_one (pt_cmpR (r := rNeD K) (op_neD hr.units) (pv 2) (pv 1) (nomark _))) (fun _ _ _ _ _ => pv 2))), ?_⟩
    rcases h with ⟨a, b, l, f, rfl, hl, hb, hn, k⟩ | ⟨a, ns, n, rfl, hl, hn, k⟩
    · obtain ⟨qs, q1, q2, q3⟩ := hl
      have ql : qs.length ≤ 12 := by rw [← q3, List.length_map] at hn; exact hn
      refine ⟨_, rfl, a, rfl, ⟨_, SqL.of q1⟩, fun D nD => ?_⟩
      refine lc_list (K := K) (a := a) (xs := qs.map fun q => V.ref q.1) (fun i H' => Same H H' ∧ H' D = some (.lst (((qs.take i).filter fun q => q.2 != f).map fun q => V.ref q.1))) ⟨Same.one nD, by rw [upd_same]; rfl⟩ (fun i H' _ ⟨s5, _⟩ => SqL.of (s5 _ _ q1)) ?_ ?_
      · rintro i x H' hi ⟨s5, n5⟩
        rw [List.getElem?_map] at hi
        cases e : qs[i]? with
        | none => rw [e] at hi; cases hi
        | some q =>
          rw [e] at hi
          obtain rfl : x = V.ref q.1 := (Option.some.inj hi).symm
          have tf := take_filter (fun q : Addr × Fact => q.2 != f) e
          refine ⟨rfl, _, rfl, _, rfl, dF q.2, dF f, dF_at (s5 _ _ (q2 q (List.mem_of_getElem? e))), dF_at (s5 _ _ hb), dF_shaped _, dF_shaped _, _, rfl, ?_⟩
          rw [dF_eqv]
          have ec : (!decide (q.2 = f)) = (q.2 != f) := rfl
          rw [ec]
          refine if_b (fun c => ?_) (fun c => ?_)
          · rw [if_pos c] at tf
            refine ⟨_, rfl, _, n5, ?_, Same.new s5 nD, ?_⟩
            · rw [List.length_map]
              refine Nat.lt_of_le_of_lt (List.length_filter_le _ _) ?_
              rw [List.length_take]
              exact Nat.lt_of_le_of_lt (Nat.min_le_right _ _) (Nat.lt_of_le_of_lt ql (by decide))
            · rw [upd_same, tf, List.map_append]
              rfl
          · rw [if_neg (by rw [c]; exact Bool.false_ne_true)] at tf
            rw [tf]
            exact ⟨s5, n5⟩
      · rintro H' ⟨s5, n5⟩
        rw [List.length_map, List.take_length] at n5
        refine k _ _ s5 ⟨D, rfl, nD, _, n5, fun q hq => s5 _ _ (q2 q (List.mem_filter.mp hq).1), ?_⟩
        rw [← q3]
        unfold Dx03.without
        rw [List.filter_map]
        rfl
    · refine ⟨_, rfl, a, rfl, ⟨_, SqL.of hl⟩, fun D nD => ?_⟩
      refine lc_list (K := K) (a := a) (xs := nV ns) (fun i H' => Same H H' ∧ NL H' D ((ns.take i).filter fun y => y != n)) ⟨Same.one nD, by show upd _ D _ D = _; rw [upd_same]; rfl⟩ (fun i H' _ ⟨s5, _⟩ => SqL.of (s5 _ _ hl)) ?_ ?_
      · rintro i x H' hi ⟨s5, n5⟩
        obtain ⟨m, hm, rfl⟩ := nV_get hi
        have tf := take_filter (fun y => y != n) hm
        refine ⟨rfl, _, rfl, _, rfl, .int (m : Int), .int (n : Int), .int _, .int _, rfl, rfl, _, rfl, ?_⟩
        have ec : (!PyData.eqv (.int (m : Int)) (.int (n : Int))) = (m != n) := by
          show (!((m : Int) == (n : Int))) = (m != n)
          rw [Bool.eq_iff_iff]
          simp [Int.ofNat_inj]
        rw [ec]
        refine if_b (fun c => ?_) (fun c => ?_)
        · rw [if_pos c] at tf
          refine ⟨_, rfl, _, n5, ?_, Same.new s5 nD, ?_⟩
          · rw [nV_len]
            refine Nat.lt_of_le_of_lt (List.length_filter_le _ _) ?_
            rw [List.length_take]
            exact Nat.lt_of_le_of_lt (Nat.min_le_right _ _) (Nat.lt_of_le_of_lt hn (by decide))
          · show upd _ D _ D = _
            rw [upd_same, tf, nV_app]
            rfl
        · rw [if_neg (by rw [c]; exact Bool.false_ne_true)] at tf
          rw [tf]
          exact ⟨s5, n5⟩
      · rintro H' ⟨s5, n5⟩
        rw [nV_len, List.take_length] at n5
        exact k _ _ s5 ⟨D, rfl, nD, n5⟩
end
end Fc

namespace Fc
open PySem PySem.Spec PyProof.Rows L2 FcS
open Dx (Fact Facts Map)
/-! ### sorted lists of facts -/
def zF (f : Fact) : List Int := [(f.t : Int), (f.a : Int), (f.b : Int)]
def unz (l : List Int) : Fact := ⟨(l.getD 0 0).toNat, (l.getD 1 0).toNat, (l.getD 2 0).toNat⟩
theorem unz_zF (f : Fact) : unz (zF f) = f := rfl
theorem zF_bd {f : Fact} (h : FBd f) : TS.Bd 512 (zF f) := fun m hm => by
  obtain ⟨h1, h2, h3⟩ := h
  simp [zF] at hm
  omega
theorem code_zF (f : Fact) : TS.code 512 (zF f) = f.t * 262144 + f.a * 512 + f.b := by
  show (f.t : Int) * 512 ^ 2 + ((f.a : Int) * 512 ^ 1 + ((f.b : Int) * 512 ^ 0 + 0)) = _
  have e2 : (512 : Int) ^ 2 = 262144 := by decide
  have e1 : (512 : Int) ^ 1 = 512 := by decide
  have e0 : (512 : Int) ^ 0 = 1 := by decide
  rw [e2, e1, e0]
  omega
theorem code_lt {f g : Fact} (hf : FBd f) (hg : FBd g) (h : TS.code 512 (zF f) ≤ TS.code 512 (zF g)) (ne : f ≠ g) : FLt f g := by
  rw [code_zF, code_zF] at h
  obtain ⟨t, a, b⟩ := f
  obtain ⟨t', a', b'⟩ := g
  obtain ⟨f1, f2, f3⟩ := hf
  obtain ⟨g1, g2, g3⟩ := hg
  unfold FLt
  have q : ¬ (t = t' ∧ a = a' ∧ b = b') := fun e => ne (by rw [e.1, e.2.1, e.2.2])
  simp only at *
  omega
/-! ### a mapping as a dict -/
theorem valV_kvM (m : Map) (v : Nat) : valV (kvM m) (Sum.inl (v : Int)) = (fnd m v).map fun w : Nat => V.int (w : Int) := by
  unfold valV kvM fnd
  rw [List.find?_map]
  have e : ((fun kv : Key × V => decide (kv.1 = Sum.inl (v : Int))) ∘ fun p : Nat × Nat => ((Sum.inl (p.1 : Int) : Key), V.int (p.2 : Int))) = fun p => p.1 == v := by
    funext p
    show decide ((Sum.inl (p.1 : Int) : Key) = Sum.inl (v : Int)) = (p.1 == v)
    rw [Bool.eq_iff_iff, decide_eq_true_eq, beq_iff_eq]
    constructor
    · intro h
      injection h with h
      exact Int.ofNat_inj.mp h
    · intro h
      rw [h]
  rw [e]
  cases m.find? fun p => p.1 == v <;> rfl
theorem get_look (m : Map) (v : Nat) : ((fnd m v).map fun w : Nat => V.int (w : Int)).getD (V.int (v : Int)) = V.int ((look m v : Nat) : Int) := by
  unfold look
  cases fnd m v <;> rfl
def spUnder : Sp := fun vs H Q _ => ∃ (d a : Addr) (m : Map) (l : Facts), vs = [.ref d, .ref a] ∧ DM H d m ∧ FA H a l ∧ l.length ≤ 12 ∧ UK m ∧ (∀ f ∈ l, FBd (m.fact f)) ∧ Ret H Q fun v H' => ∃ p, v = .ref p ∧ H p = none ∧ FA H' p (Dx.tidy (l.map m.fact))
abbrev sUnder : Stmt := top 7
section
variable {P : Program} {w : World} {K : PySem.W.Frag} {mg : Str → Option Value} {base : Heap}
theorem scUnder : FnScope ["mapping", "facts", "images", "fact"] ["mapping", "facts"] (defScope sUnder) := ⟨rfl, rfl, rfl, by decide +kernel, rfl, by decide +kernel, by decide +kernel⟩
theorem ok_under {f : Addr} {fd : FuncData} (F : Fun K "facts_under" "facts_under" sUnder f fd) (T : Blt mg) : FnOk P w K mg base CX0 1 f fd ["mapping", "facts"] spUnder := by
  refine F.ok scUnder (fun vs H Q E h => ?_) (fun cdv A outer s H vs Q E hr h => ?_)
  · obtain ⟨d, a, m, l, rfl, _⟩ := h
    rfl
  · obtain ⟨d, a, m, l, rfl, hd, hl, hn, uk, bd, k⟩ := h
    have hu := hu_of hr
    refine ⟨_, pss_cons (ps_setLc (i := 2) (own := [("fact", 3)]) (g := gName 3) (tt := tYes) rfl scUnder.nd rfl rfl (sw_true rfl rfl rfl (by decide +kernel)) (pi_list (pv 1)) (blkOk_by (N := ["mapping", "facts", "images", "fact"]) (sc := defScope sUnder) (by decide +kernel))
      (fun _ _ _ _ _ => pg_name (i := 3) scUnder.nd rfl (Or.inl rfl)) (fun _ _ _ _ _ => pts_nil)
      (fun _ _ _ _ _ => pe_tup (pa_cons (pe_ix (r := rIxT K) ix_tup (pv 3) pe_int (fun _ _ => rfl)) (pa_cons (pe_dget2 hu (pv 0) (pe_ix (r := rIxT K) ix_tup (pv 3) pe_int (fun _ _ => rfl)) (pe_ix (r := rIxT K) ix_tup (pv 3) pe_int (fun _ _ => rfl)) ⟨rfl, rfl, rfl, rfl⟩)
        (pa_cons (pe_dget2 hu (pv 0) (pe_ix (r := rIxT K) ix_tup (pv 3) pe_int (fun _ _ => rfl)) (pe_ix (r := rIxT K) ix_tup (pv 3) pe_int (fun _ _ => rfl)) ⟨rfl, rfl, rfl, rfl⟩) pa_nil)))))
      (pss_one (ps_ret (pe_callB (cr_sortedT rfl) (by rfl) T.sorted (by decide +kernel) (pa_cons (pe_callTy (cr_setOfT rfl hr.units) (by rfl) T.set (by decide +kernel) (pa_cons (pv 2) pa_nil)) pa_nil)))), ?_⟩
    obtain ⟨qs, q1, q2, q3⟩ := hl
    have ql : qs.length = l.length := by rw [← q3, List.length_map]
    refine ⟨_, rfl, a, rfl, ⟨_, SqL.of q1⟩, fun D nD => ?_⟩
    refine lc_list (K := K) (a := a) (xs := qs.map fun q => V.ref q.1) (fun i H' => Same H H' ∧ ∃ rs : List (Addr × Fact), H' D = some (.lst (rs.map fun q => V.ref q.1)) ∧ (∀ q ∈ rs, H' q.1 = some (.tup (fV q.2))) ∧ rs.map (·.2) = (l.take i).map m.fact)
      ⟨Same.one nD, [], by rw [upd_same]; rfl, by simp, rfl⟩ (fun i H' _ ⟨s5, _⟩ => SqL.of (s5 _ _ q1)) ?_ ?_
    · rintro i x H' hi ⟨s5, rs, r1, r2, r3⟩
      rw [List.getElem?_map] at hi
      cases e : qs[i]? with
      | none => rw [e] at hi; cases hi
      | some q =>
        rw [e] at hi
        obtain rfl : x = V.ref q.1 := (Option.some.inj hi).symm
        have hq := s5 _ _ (q2 q (List.mem_of_getElem? e))
        have el : l[i]? = some q.2 := by rw [← q3, List.getElem?_map, e]; rfl
        have g : ∀ v : Nat, (valV (kvM m) (Sum.inl (v : Int))).getD (V.int (v : Int)) = V.int ((m.of v : Nat) : Int) := fun v => by rw [valV_kvM, get_look, of_look uk]
        have hd5 : H' d = some (.dK (kvM m)) := s5 _ _ hd
        refine ⟨rfl, ?_⟩
        unfold tYes
        dsimp only
        refine if_t rfl ?_
        refine ⟨_, rfl, q.1, _, 0, _, rfl, rfl, SqT.of hq, atI_nat (xs := fV q.2) (j := 0) rfl, ?_⟩
        refine ⟨_, rfl, d, rfl, .inl ⟨_, .inl hd5⟩, _, rfl, q.1, _, 1, _, rfl, rfl, SqT.of hq, atI_nat (xs := fV q.2) (j := 1) rfl, _, rfl, q.1, _, 1, _, rfl, rfl, SqT.of hq, atI_nat (xs := fV q.2) (j := 1) rfl, _, DGet.k (k := Sum.inl (q.2.a : Int)) hd5, ?_⟩
        refine ⟨_, rfl, d, rfl, .inl ⟨_, .inl hd5⟩, _, rfl, q.1, _, 2, _, rfl, rfl, SqT.of hq, atI_nat (xs := fV q.2) (j := 2) rfl, _, rfl, q.1, _, 2, _, rfl, rfl, SqT.of hq, atI_nat (xs := fV q.2) (j := 2) rfl, _, DGet.k (k := Sum.inl (q.2.b : Int)) hd5, ?_⟩
        rw [g, g]
        refine ⟨(by show 3 ≤ sizeLine; decide), fun t ht => ?_⟩
        have nDt : D ≠ t := ne_of_none r1 ht
        refine ⟨_, by rw [upd_ne nDt]; exact r1, ?_, Same.new (Same.new s5 (s5.free ht)) nD, rs ++ [(t, m.fact q.2)], ?_, ?_, ?_⟩
        · rw [List.length_map]
          have : rs.length ≤ 12 := by
            have e2 := congrArg List.length r3
            rw [List.length_map, List.length_map, List.length_take] at e2
            omega
          exact Nat.lt_of_le_of_lt this (by decide)
        · rw [upd_same, List.map_append]
          rfl
        · intro q' hq'
          rcases List.mem_append.mp hq' with z | z
          · have z1 := r2 q' z
            have : q'.1 ≠ D := ne_of z1 r1 (by intro z; cases z)
            rw [upd_ne this, upd_ne (ne_of_none z1 ht)]
            exact z1
          · obtain rfl : q' = (t, m.fact q.2) := by simpa using z
            rw [upd_ne (Ne.symm nDt), upd_same]
            rfl
        · rw [List.map_append, r3, take_more el, List.map_append]
          rfl
    · rintro H' ⟨s5, rs, r1, r2, r3⟩
      rw [List.length_map, ql, List.take_length] at r3
      have rl : rs.length = l.length := by
        have := congrArg List.length r3
        rwa [List.length_map, List.length_map] at this
      have rb : ∀ q ∈ rs, FBd q.2 := fun q hq => by
        have : q.2 ∈ l.map m.fact := by rw [← r3]; exact List.mem_map.mpr ⟨q, hq, rfl⟩
        obtain ⟨f, hf, e⟩ := List.mem_map.mp this
        rw [← e]
        exact bd f hf
      refine ⟨_, rfl, D, rs.map fun q => (q.1, zF q.2), rfl, by rw [List.map_map]; exact SqL.of r1, ?_, by rw [List.length_map]; omega, fun S L nS hL1 hL2 => ?_⟩
      · intro p hp
        obtain ⟨q, hq, rfl⟩ := List.mem_map.mp hp
        exact SqT.of (r2 q hq)
      have hLq : ∀ p ∈ L, ∃ q ∈ rs, p = (q.1, zF q.2) := fun p hp => by
        obtain ⟨q, hq, e⟩ := List.mem_map.mp (hL1 p hp)
        exact ⟨q, hq, e.symm⟩
      refine ⟨S, L, 3, 512, rfl, upd_same, ?_, by decide, ?_, fun L' r pm nd _ asc nr => ?_⟩
      · intro p hp
        obtain ⟨q, hq, rfl⟩ := hLq p hp
        exact SqT.of (by rw [upd_ne (ne_of_none (r2 q hq) nS)]; exact r2 q hq)
      · intro p hp
        obtain ⟨q, hq, rfl⟩ := hLq p hp
        exact ⟨rfl, zF_bd (rb q hq)⟩
      have hL' : ∀ p ∈ L', ∃ q ∈ rs, p = (q.1, zF q.2) := fun p hp => hLq p (pm.mem_iff.mp hp)
      have nr' : H' r = none := Same.free (Same.one nS) nr
      have s6 : Same H' (upd (upd H' S (SetTO P w S L)) r (.lst (L'.map fun q => V.ref q.1))) := Same.new (Same.one nS) nr'
      refine k _ _ (s5.trans s6) ⟨r, rfl, Same.free s5 nr', L'.map fun p => (p.1, unz p.2), ?_, ?_, ?_⟩
      · rw [upd_same, List.map_map]
        rfl
      · intro p hp
        obtain ⟨p', hp', rfl⟩ := List.mem_map.mp hp
        obtain ⟨q, hq, rfl⟩ := hL' p' hp'
        exact s6 _ _ (r2 q hq)
      · rw [List.map_map]
        refine tidy_eq ?_ fun x => ?_
        · refine List.pairwise_map.mpr ?_
          have nd2 : L'.Pairwise fun p q => p.2 ≠ q.2 := List.pairwise_map.mp nd
          refine List.Pairwise.imp_of_mem (fun {p p'} hp hp' h => ?_) (List.Pairwise.and asc nd2)
          obtain ⟨q, hq, rfl⟩ := hL' p hp
          obtain ⟨q', hq', rfl⟩ := hL' p' hp'
          exact code_lt (rb q hq) (rb q' hq') h.1 fun e => h.2 (congrArg zF e)
        · rw [List.mem_map, ← r3, List.mem_map]
          constructor
          · rintro ⟨p, hp, rfl⟩
            obtain ⟨q, hq, rfl⟩ := hL' p hp
            exact ⟨q, hq, rfl⟩
          · rintro ⟨q, hq, rfl⟩
            obtain ⟨p, hp, e⟩ := List.mem_map.mp (hL2 (q.1, zF q.2) (List.mem_map.mpr ⟨q, hq, rfl⟩))
            exact ⟨p, pm.mem_iff.mpr hp, by show unz p.2 = q.2; rw [e]; rfl⟩
end
end Fc

namespace Fc
open PySem PySem.Spec PyProof.Rows L2 FcS
open Dx (Fact Facts Map)
abbrev sMbv : Stmt := top 8
abbrev sMb : Stmt := top 9
abbrev sMbo : Stmt := top 10
abbrev sFits : Stmt := top 11
def spMbv : Sp := fun vs H Q _ => ∃ (v g : Nat) (d : Addr) (m : Map), vs = [.int (v : Int), .int (g : Int), .ref d] ∧ DM H d m ∧ Q (.bl (mbv m v g)) H
def spMb : Sp := fun vs H Q _ => ∃ (p q d : Addr) (f g : Fact) (m : Map), vs = [.ref p, .ref q, .ref d] ∧ H p = some (.tup (fV f)) ∧ H q = some (.tup (fV g)) ∧ DM H d m ∧ Q (.bl (mb m f g)) H
def spMbo : Sp := fun vs H Q _ => ∃ (p a d : Addr) (f : Fact) (k : Facts) (m : Map), vs = [.ref p, .ref a, .ref d] ∧ H p = some (.tup (fV f)) ∧ FA H a k ∧ DM H d m ∧ Q (.bl (k.any fun g => mb m f g)) H
def spFits : Sp := fun vs H Q _ => ∃ (d a b : Addr) (m : Map) (l k : Facts), vs = [.ref d, .ref a, .ref b] ∧ DM H d m ∧ FA H a l ∧ FA H b k ∧ Q (.bl (fits m l k)) H
theorem int_eq (a b : Nat) : decide (V.int (a : Int) = V.int (b : Int)) = decide (a = b) := by
  rw [Bool.eq_iff_iff, decide_eq_true_eq, decide_eq_true_eq]
  constructor
  · intro h
    injection h with h
    exact Int.ofNat_inj.mp h
  · intro h
    rw [h]
theorem fnd_isNone (m : Map) (v : Nat) : (fnd m v).isSome = decide (v ∈ keys m) := by
  by_cases h : v ∈ keys m
  · obtain ⟨w, e⟩ := fnd_some h
    rw [e, decide_eq_true h]
    rfl
  · rw [fnd_none h, decide_eq_false h]
    rfl
section
variable {P : Program} {w : World} {K : PySem.W.Frag} {mg : Str → Option Value} {base : Heap}
theorem scMbv : FnScope ["value", "goal", "mapping"] ["value", "goal", "mapping"] (defScope sMbv) := ⟨rfl, rfl, rfl, by decide +kernel, rfl, by decide +kernel, by decide +kernel⟩
theorem ok_mbv {f f1 : Addr} {fd fd1 : FuncData} (F : Fun K "may_become_value" "may_become_value" sMbv f fd) (D1 : Df K mg "is_unknown" sIsU ["value"] f1 fd1) (G1 : FnOk P w K mg base CX0 1 f1 fd1 ["value"] spIsU) :
    FnOk P w K mg base CX0 2 f fd ["value", "goal", "mapping"] spMbv := by
  refine F.ok scMbv (fun vs H Q E h => ?_) (fun cdv A outer s H vs Q E hr h => ?_)
  · obtain ⟨v, g, d, m, rfl, _⟩ := h
    rfl
  · obtain ⟨v, g, d, m, rfl, hd, k⟩ := h
    have hu := hu_of hr
    refine ⟨_, pss_cons (ps_if (PW.pt (pw_and (pt_val (pe_call G1 hr rfl D1.g D1.F.kp D1.b .nil pass0 (pa_cons (pv 0) pa_nil))) (pw_and1 (pt_cmp (pc_dnotin hu (pv 0) (pv 2)))))) (pss_one (ps_ret pe_bl)) pss_nil)
      (pss_one (ps_ret (pe_cmpR op_eq (pe_dget2 hu (pv 2) (pv 0) (pv 0) ⟨rfl, rfl, rfl, rfl⟩) (pv 1) (nomark _)))), ?_⟩
    have fin : (if 100 ≤ v ∧ v ∉ keys m then true else decide (look m v = g)) = mbv m v g := rfl
    have last : ¬ (100 ≤ v ∧ v ∉ keys m) → ∃ x, some (some (V.ref d)) = some (some x) ∧ ∃ a, x = .ref a ∧ IsD H a ∧ ∃ x, some (some (V.int (v : Int))) = some (some x) ∧ ∃ z, some (some (V.int (v : Int))) = some (some z) ∧ ∃ o, DGet H a x o ∧ ∃ y, some (some (V.int (g : Int))) = some (some y) ∧ (scal (o.getD z) y = true ∧ Q (.bl (decide (o.getD z = y))) H) := fun c => by
      refine ⟨_, rfl, d, rfl, .inl ⟨_, .inl hd⟩, _, rfl, _, rfl, _, DGet.k (k := Sum.inl (v : Int)) hd, _, rfl, ?_⟩
      rw [valV_kvM, get_look, int_eq]
      rw [← fin, if_neg c] at k
      exact ⟨rfl, k⟩
    refine ⟨_, rfl, v, rfl, _, rfl, if_b (fun c1 => ?_) (fun c1 => ?_)⟩
    · refine ⟨_, rfl, _, rfl, d, _, rfl, DGet.k (k := Sum.inl (v : Int)) hd, _, rfl, ?_⟩
      rw [valV_kvM, Option.isSome_map, fnd_isNone]
      rw [decide_eq_true_eq] at c1
      refine if_b (fun c2 => ?_) (fun c2 => ?_)
      · have c3 : v ∉ keys m := by simpa using c2
        rw [← fin, if_pos ⟨c1, c3⟩] at k
        exact k
      · refine last fun c => ?_
        simp [c.2] at c2
    · exact last fun c => by simp at c1; omega
theorem scMb : FnScope ["fact", "goal", "mapping"] ["fact", "goal", "mapping"] (defScope sMb) := ⟨rfl, rfl, rfl, by decide +kernel, rfl, by decide +kernel, by decide +kernel⟩
theorem ok_mb {f f1 : Addr} {fd fd1 : FuncData} (F : Fun K "may_become" "may_become" sMb f fd) (D1 : Df K mg "may_become_value" sMbv ["value", "goal", "mapping"] f1 fd1) (G1 : FnOk P w K mg base CX0 2 f1 fd1 ["value", "goal", "mapping"] spMbv) :
    FnOk P w K mg base CX0 3 f fd ["fact", "goal", "mapping"] spMb := by
  refine F.ok scMb (fun vs H Q E h => ?_) (fun cdv A outer s H vs Q E hr h => ?_)
  · obtain ⟨p, q, d, f, g, m, rfl, _⟩ := h
    rfl
  · obtain ⟨p, q, d, f, g, m, rfl, hp, hq, hd, k⟩ := h
    refine ⟨_, pss_cons (ps_if (pt_cmpR op_ne (pe_ix ix_tup (pv 0) pe_int (fun _ _ => rfl)) (pe_ix ix_tup (pv 1) pe_int (fun _ _ => rfl)) (nomark _)) (pss_one (ps_ret pe_bl)) pss_nil)
      (pss_one (ps_ret (pe_and (pe_call G1 hr rfl D1.g D1.F.kp D1.b .nil pass0 (pa_cons (pe_ix ix_tup (pv 0) pe_int (fun _ _ => rfl)) (pa_cons (pe_ix ix_tup (pv 1) pe_int (fun _ _ => rfl)) (pa_cons (pv 2) pa_nil))))
        (pe_one (pe_call G1 hr rfl D1.g D1.F.kp D1.b .nil pass0 (pa_cons (pe_ix ix_tup (pv 0) pe_int (fun _ _ => rfl)) (pa_cons (pe_ix ix_tup (pv 1) pe_int (fun _ _ => rfl)) (pa_cons (pv 2) pa_nil)))))))), ?_⟩
    refine ⟨_, rfl, p, _, 0, _, rfl, rfl, SqT.of hp, atI_nat (xs := fV f) (j := 0) rfl, _, rfl, q, _, 0, _, rfl, rfl, SqT.of hq, atI_nat (xs := fV g) (j := 0) rfl, rfl, _, rfl, ?_⟩
    rw [int_eq]
    refine if_b (fun c => ?_) (fun c => ?_)
    · have c1 : f.t ≠ g.t := by simpa using c
      unfold mb at k
      rw [if_pos c1] at k
      exact k
    · have c1 : ¬ f.t ≠ g.t := by simpa using c
      unfold mb at k
      rw [if_neg c1] at k
      refine ⟨_, rfl, p, _, 1, _, rfl, rfl, SqT.of hp, atI_nat (xs := fV f) (j := 1) rfl, _, rfl, q, _, 1, _, rfl, rfl, SqT.of hq, atI_nat (xs := fV g) (j := 1) rfl, _, rfl, f.a, g.a, d, m, rfl, hd, _, rfl, ?_⟩
      refine if_b (fun c2 => ?_) (fun c2 => ?_)
      · refine ⟨_, rfl, p, _, 2, _, rfl, rfl, SqT.of hp, atI_nat (xs := fV f) (j := 2) rfl, _, rfl, q, _, 2, _, rfl, rfl, SqT.of hq, atI_nat (xs := fV g) (j := 2) rfl, _, rfl, f.b, g.b, d, m, rfl, hd, ?_⟩
        rw [c2, Bool.true_and] at k
        exact k
      · rw [c2, Bool.false_and] at k
        exact k
theorem any_take {l : Facts} {i : Nat} {g : Fact} (p : Fact → Bool) (h : l[i]? = some g) (hp : p g = true) : l.any p = true := List.any_eq_true.mpr ⟨g, List.mem_of_getElem? h, hp⟩
theorem any_more {l : Facts} {i : Nat} {g : Fact} (p : Fact → Bool) (h : l[i]? = some g) (hp : p g = false) (h0 : (l.take i).any p = false) : (l.take (i + 1)).any p = false := by
  rw [take_more h, List.any_append, h0]
  simp [hp]
theorem scMbo : FnScope ["fact", "goals", "mapping", "goal"] ["fact", "goals", "mapping"] (defScope sMbo) := ⟨rfl, rfl, rfl, by decide +kernel, rfl, by decide +kernel, by decide +kernel⟩
theorem ok_mbo {f f1 : Addr} {fd fd1 : FuncData} (F : Fun K "may_become_one_of" "may_become_one_of" sMbo f fd) (D1 : Df K mg "may_become" sMb ["fact", "goal", "mapping"] f1 fd1) (G1 : FnOk P w K mg base CX0 3 f1 fd1 ["fact", "goal", "mapping"] spMb) :
    FnOk P w K mg base CX0 4 f fd ["fact", "goals", "mapping"] spMbo := by
  refine F.ok scMbo (fun vs H Q E h => ?_) (fun cdv A outer s H vs Q E hr h => ?_)
  · obtain ⟨p, a, d, f, k, m, rfl, _⟩ := h
    rfl
  · obtain ⟨p, a, d, f, gs, m, rfl, hp, ha, hd, k⟩ := h
    refine ⟨_, pss_cons (ps_for PassesOwn.never rfl (pi_list (pv 1)) (pg_name (i := 3) scMbo.nd rfl (.inl rfl)) (pss_one (ps_if (pt_val (pe_call G1 hr rfl D1.g D1.F.kp D1.b .nil pass0 (pa_cons (pv 0) (pa_cons (pv 3) (pa_cons (pv 2) pa_nil))))) (pss_one (ps_ret pe_bl)) pss_nil)))
      (pss_one (ps_ret pe_bl)), ?_⟩
    obtain ⟨qs, q1, q2, q3⟩ := ha.lst
    refine ⟨_, rfl, a, rfl, ⟨_, SqL.of q1⟩, for_list (K := K) (a := a) (xs := qs.map fun q => V.ref q.1) (fun i σ H' => ∃ v : Option V, σ = [some (.ref p), some (.ref a), some (.ref d), v] ∧ H' = H ∧ ((gs.take i).any fun g => mb m f g) = false)
      ⟨none, rfl, rfl, rfl⟩ (fun i σ H' _ ⟨_, _, e, _⟩ => SqL.of (e ▸ q1)) ?_ ?_⟩
    · rintro i y σ H' hi ⟨v, rfl, rfl, a5⟩
      obtain ⟨t, x, rfl, hx, hli, _⟩ := q3 i y hi
      refine ⟨_, rfl, _, rfl, _, rfl, p, t, d, f, x, m, rfl, hp, hx, hd, _, rfl, if_b (fun c => ?_) (fun c => ?_)⟩
      · rw [any_take _ hli c] at k
        exact k
      · exact ⟨_, rfl, rfl, any_more _ hli c a5⟩
    · rintro σ H' ⟨v, rfl, rfl, a5⟩
      rw [List.length_map, q2, List.take_length] at a5
      rw [a5] at k
      exact k
theorem all_take {l : Facts} {i : Nat} {g : Fact} (p : Fact → Bool) (h : l[i]? = some g) (hp : p g = false) : l.all p = false := List.all_eq_false.mpr ⟨g, List.mem_of_getElem? h, by rw [hp]; exact Bool.false_ne_true⟩
theorem all_more {l : Facts} {i : Nat} {g : Fact} (p : Fact → Bool) (h : l[i]? = some g) (hp : p g = true) (h0 : (l.take i).all p = true) : (l.take (i + 1)).all p = true := by
  rw [take_more h, List.all_append, h0]
  simp [hp]
theorem scFits : FnScope ["mapping", "facts", "goals", "fact"] ["mapping", "facts", "goals"] (defScope sFits) := ⟨rfl, rfl, rfl, by decide +kernel, rfl, by decide +kernel, by decide +kernel⟩
theorem ok_fits {f f1 : Addr} {fd fd1 : FuncData} (F : Fun K "fits" "fits" sFits f fd) (D1 : Df K mg "may_become_one_of" sMbo ["fact", "goals", "mapping"] f1 fd1) (G1 : FnOk P w K mg base CX0 4 f1 fd1 ["fact", "goals", "mapping"] spMbo) :
    FnOk P w K mg base CX0 5 f fd ["mapping", "facts", "goals"] spFits := by
  refine F.ok scFits (fun vs H Q E h => ?_) (fun cdv A outer s H vs Q E hr h => ?_)
  · obtain ⟨d, a, b, m, l, k, rfl, _⟩ := h
    rfl
  · obtain ⟨d, a, b, m, l, gs, rfl, hd, ha, hb, k⟩ := h
    refine ⟨_, pss_cons (ps_for PassesOwn.never rfl (pi_list (pv 1)) (pg_name (i := 3) scFits.nd rfl (.inl rfl)) (pss_one (ps_if (pt_not (pt_val (pe_call G1 hr rfl D1.g D1.F.kp D1.b .nil pass0 (pa_cons (pv 3) (pa_cons (pv 2) (pa_cons (pv 0) pa_nil)))))) (pss_one (ps_ret pe_bl)) pss_nil)))
      (pss_one (ps_ret pe_bl)), ?_⟩
    obtain ⟨qs, q1, q2, q3⟩ := ha.lst
    refine ⟨_, rfl, a, rfl, ⟨_, SqL.of q1⟩, for_list (K := K) (a := a) (xs := qs.map fun q => V.ref q.1) (fun i σ H' => ∃ v : Option V, σ = [some (.ref d), some (.ref a), some (.ref b), v] ∧ H' = H ∧ ((l.take i).all fun f => gs.any fun g => mb m f g) = true)
      ⟨none, rfl, rfl, rfl⟩ (fun i σ H' _ ⟨_, _, e, _⟩ => SqL.of (e ▸ q1)) ?_ ?_⟩
    · rintro i y σ H' hi ⟨v, rfl, rfl, a5⟩
      obtain ⟨t, x, rfl, hx, hli, _⟩ := q3 i y hi
      refine ⟨_, rfl, _, rfl, _, rfl, t, b, d, x, gs, m, rfl, hx, hb, hd, _, rfl, if_b (fun c => ?_) (fun c => ?_)⟩
      · unfold fits at k
        rw [all_take _ hli (by simpa using c)] at k
        exact k
      · exact ⟨_, rfl, rfl, all_more _ hli (by simpa using c) a5⟩
    · rintro σ H' ⟨v, rfl, rfl, a5⟩
      rw [List.length_map, q2, List.take_length] at a5
      unfold fits at k
      rw [a5] at k
      exact k
end
end Fc

namespace Fc
open PySem PySem.Spec PyProof.Rows L2 FcS
open Dx (Fact Facts Map)
abbrev sFC : Stmt := top 12
abbrev sFM : Stmt := top 13
abbrev sMI : Stmt := top 14
abbrev sEq : Stmt := top 15
/-- a mapping or None -/
def MapV (H : Hp) (v : V) : Option Map → Prop
  | none => v = .non
  | some m => ∃ p, v = .ref p ∧ DM H p m
def spFC (n : Nat) : Sp := fun vs H Q _ => ∃ (d u a b : Addr) (m : Map) (us : List Nat) (l k : Facts), vs = [.ref d, .ref u, .ref a, .ref b] ∧ DM H d m ∧ NL H u us ∧ FA H a l ∧ FA H b k ∧ k.length ≤ 12 ∧ us.length ≤ n ∧ m.length + us.length ≤ 100 ∧ keys m ++ us = Dx.unknowns l ∧
  Ret H Q fun v H' => MapV H' v (Dx.into l k us m)
def spFM : Sp := fun vs H Q _ => ∃ (a b : Addr) (l k : Facts), vs = [.ref a, .ref b] ∧ FA H a l ∧ FA H b k ∧ l.length ≤ 12 ∧ (Dx.unknowns l).length ≤ 4 ∧ k.length ≤ 12 ∧ Ret H Q fun v H' => MapV H' v (Dx.map? l k)
def spMI : Sp := fun vs H Q _ => ∃ (a b : Addr) (l k : Facts), vs = [.ref a, .ref b] ∧ FA H a l ∧ FA H b k ∧ l.length ≤ 12 ∧ (Dx.unknowns l).length ≤ 4 ∧ k.length ≤ 12 ∧ Ret H Q fun v _ => v = .bl (Dx.map? l k).isSome
def spEq : Sp := fun vs H Q _ => ∃ (a b : Addr) (l k : Facts), vs = [.ref a, .ref b] ∧ FA H a l ∧ FA H b k ∧ l.length ≤ 12 ∧ (Dx.unknowns l).length ≤ 4 ∧ k.length ≤ 12 ∧ (Dx.unknowns k).length ≤ 4 ∧ Ret H Q fun v _ => v = .bl (Dx03.same l k)
theorem putK_kvM {m : Map} {u v : Nat} (h : u ∉ keys m) : putK (kvM m) (Sum.inl (u : Int)) (V.int (v : Int)) = kvM (m ++ [(u, v)]) := by
  unfold putK
  have e : ((kvM m).any fun kv => decide (kv.1 = (Sum.inl (u : Int) : Key))) = false := by
    rw [List.any_eq_false]
    intro kv hkv c
    obtain ⟨p, hp, rfl⟩ := List.mem_map.mp hkv
    rw [decide_eq_true_eq] at c
    injection c with c
    exact h (List.mem_map.mpr ⟨p, hp, Int.ofNat_inj.mp c⟩)
  rw [e, if_neg Bool.false_ne_true]
  unfold kvM
  rw [List.map_append]
  rfl
theorem cut1 (x : V) (xs : List V) : cutV (x :: xs) (some 1) none = xs := by
  unfold cutV HT.sIx
  simp
theorem fs_hit {α β : Type} {g : α → Option β} {b : β} : ∀ {l : List α} {i : Nat} {x : α}, l[i]? = some x → (l.take i).findSome? g = none → g x = some b → l.findSome? g = some b := fun {l i x} h h0 hx => by
  have e : l = l.take i ++ (x :: l.drop (i + 1)) := by
    obtain ⟨h1, h2⟩ := List.getElem?_eq_some_iff.mp h
    rw [← h2, List.getElem_cons_drop, List.take_append_drop]
  rw [e, List.findSome?_append, h0, List.findSome?_cons, hx]
  rfl
theorem fs_more {α β : Type} {g : α → Option β} {l : List α} {i : Nat} {x : α} (h : l[i]? = some x) (h0 : (l.take i).findSome? g = none) (hx : g x = none) : (l.take (i + 1)).findSome? g = none := by
  rw [take_more h, List.findSome?_append, h0, List.findSome?_cons, hx]
  rfl
theorem uk_of {m : Map} {us : List Nat} {l : Facts} (h : keys m ++ us = Dx.unknowns l) : UK m := fun v hv => ((unk_mem l v).1 (by rw [← h]; exact List.mem_append_left _ hv)).1
theorem MapV.mono {H H' : Hp} {v : V} {o : Option Map} (h : MapV H v o) (s : Same H H') : MapV H' v o := by
  cases o with
  | none => exact h
  | some m =>
    obtain ⟨p, e, q⟩ := h
    exact ⟨p, e, q.mono s⟩
section
variable {P : Program} {w : World} {K : PySem.W.Frag} {mg : Str → Option Value} {base : Heap}
theorem scFC : FnScope ["mapping", "unassigned", "facts", "goals", "value", "longer", "found"] ["mapping", "unassigned", "facts", "goals"] (defScope sFC) := ⟨rfl, rfl, rfl, by decide +kernel, rfl, by decide +kernel, by decide +kernel⟩
theorem ok_fc {f f1 f2 : Addr} {fd fd1 fd2 : FuncData} (D : Df K mg "first_completion" sFC ["mapping", "unassigned", "facts", "goals"] f fd) (T : Blt mg)
    (D1 : Df K mg "fits" sFits ["mapping", "facts", "goals"] f1 fd1) (G1 : FnOk P w K mg base CX0 5 f1 fd1 ["mapping", "facts", "goals"] spFits)
    (D2 : Df K mg "values_of" sVals ["facts"] f2 fd2) (G2 : FnOk P w K mg base CX0 1 f2 fd2 ["facts"] spVals) :
    ∀ n : Nat, FnOk P w K mg base CX0 (n + 6) f fd ["mapping", "unassigned", "facts", "goals"] (spFC n)
  | 0 => by
    refine D.F.ok (k := 5) scFC (fun vs H Q E h => ?_) (fun cdv A outer s H vs Q E hr h => ?_)
    · obtain ⟨d, u, a, b, m, us, l, k, rfl, _⟩ := h
      rfl
    · obtain ⟨d, u, a, b, m, us, l, gs, rfl, hd, hu, ha, hb, hk, hn, hm, ks, k⟩ := h
      refine ⟨_, pss_cons (ps_if (pt_not (pt_val (pe_call G1 hr rfl D1.g D1.F.kp D1.b .nil pass0 (pa_cons (pv 0) (pa_cons (pv 2) (pa_cons (pv 3) pa_nil)))))) (pss_one (ps_ret pe_non)) pss_nil)
        (pss_cons (ps_if (pt_cmpR op_eq (pe_callB call_len_seq (by rfl) T.len PySem.boot_len (pa_cons (pv 1) pa_nil)) pe_int (nomark _)) (pss_one (ps_ret (pv 0))) pss_nil) pss_never), ?_⟩
      obtain rfl : us = [] := List.eq_nil_of_length_eq_zero (Nat.le_zero.mp hn)
      refine ⟨_, rfl, _, rfl, _, rfl, d, a, b, m, l, gs, rfl, hd, ha, hb, _, rfl, if_b (fun c => ?_) (fun c => ?_)⟩
      · have c1 : fits m l gs = false := by simpa using c
        exact k _ _ (Same.refl H) (by rw [into_nofit (uk_of ks) c1]; rfl)
      · have c1 : fits m l gs = true := by simpa using c
        refine ⟨_, rfl, u, _, rfl, .inl (SqL.of hu), rfl, _, rfl, if_t (by decide) ?_⟩
        refine ⟨_, rfl, k _ _ (Same.refl H) ?_⟩
        rw [into_nil (uk_of ks) (fun v hv h => by rw [List.append_nil] at ks; rw [ks, unk_mem]; exact ⟨h, hv⟩) c1]
        exact ⟨d, rfl, hd⟩
  | n + 1 => by
    have G := ok_fc D T D1 G1 D2 G2 n
    refine D.F.ok (k := n + 6) scFC (fun vs H Q E h => ?_) (fun cdv A outer s H vs Q E hr h => ?_)
    · obtain ⟨d, u, a, b, m, us, l, k, rfl, _⟩ := h
      rfl
    · obtain ⟨d, u, a, b, m, us, l, gs, rfl, hd, hu, ha, hb, hk, hn, hm, ks, k⟩ := h
      have hu1 := hu_of hr
      have r5 : Room 5 _ := hr.mono (by omega)
      have r1 : Room 1 _ := hr.mono (by omega)
      refine ⟨_, pss_cons (ps_if (pt_not (pt_val (pe_call G1 r5 rfl D1.g D1.F.kp D1.b .nil pass0 (pa_cons (pv 0) (pa_cons (pv 2) (pa_cons (pv 3) pa_nil)))))) (pss_one (ps_ret pe_non)) pss_nil)
        (pss_cons (ps_if (pt_cmpR op_eq (pe_callB call_len_seq (by rfl) T.len PySem.boot_len (pa_cons (pv 1) pa_nil)) pe_int (nomark _)) (pss_one (ps_ret (pv 0))) pss_nil)
        (pss_cons (ps_for PassesOwn.never rfl (pi_list (pe_call G2 r1 rfl D2.g D2.F.kp D2.b .nil pass0 (pa_cons (pv 3) pa_nil))) (pg_name (i := 4) scFC.nd rfl (.inl rfl))
          (pss_cons (ps_set (i := 5) scFC.nd rfl (.inl rfl) (pe_callTy call_dictD (by rfl) T.dict (by decide +kernel) (pa_cons (pv 0) pa_nil)))
          (pss_cons (ps_dput hu1 (pv 5) (pe_ix ix_list (pv 1) pe_int (fun _ _ => rfl)) (pv 4) rfl)
          (pss_cons (ps_set (i := 6) scFC.nd rfl (.inl rfl) (pe_call G hr rfl D.g D.F.kp D.b .nil pass0 (pa_cons (pv 5) (pa_cons (pe_slice sl_list (pv 1) (po_some pe_int) po_none) (pa_cons (pv 2) (pa_cons (pv 3) pa_nil))))))
          (pss_one (ps_if (pt_cmpR op_notN (pv 6) pe_non (nomark _)) (pss_one (ps_ret (pv 6))) pss_nil))))))
        (pss_one (ps_ret pe_non)))), ?_⟩
      refine ⟨_, rfl, _, rfl, _, rfl, d, a, b, m, l, gs, rfl, hd, ha, hb, _, rfl, if_b (fun c => ?_) (fun c => ?_)⟩
      · have c1 : fits m l gs = false := by simpa using c
        exact k _ _ (Same.refl H) (by rw [into_nofit (uk_of ks) c1]; rfl)
      · have c1 : fits m l gs = true := by simpa using c
        cases us with
        | nil =>
          refine ⟨_, rfl, u, _, rfl, .inl (SqL.of hu), rfl, _, rfl, if_t (by decide) ?_⟩
          refine ⟨_, rfl, k _ _ (Same.refl H) ?_⟩
          rw [into_nil (uk_of ks) (fun v hv h => by rw [List.append_nil] at ks; rw [ks, unk_mem]; exact ⟨h, hv⟩) c1]
          exact ⟨d, rfl, hd⟩
        | cons u0 us =>
          have nk : u0 ∉ keys m := fun e => by
            have nd := unk_nodup l
            rw [← ks] at nd
            exact (List.nodup_append.mp nd).2.2 u0 e u0 List.mem_cons_self rfl
          have ks' : ∀ x : Nat, keys (m ++ [(u0, x)]) ++ us = Dx.unknowns l := fun x => by
            rw [← ks]
            unfold keys
            rw [List.map_append, List.append_assoc]
            rfl
          refine ⟨_, rfl, u, _, rfl, .inl (SqL.of hu), rfl, _, rfl, if_f ?_ ?_⟩
          · refine decide_eq_false fun e => ?_
            injection e with e
            rw [nV_len, List.length_cons] at e
            omega
          refine ⟨_, rfl, b, gs, rfl, hb, hk, fun v H1 s1 q => ?_⟩
          obtain ⟨p, rfl, hp⟩ := q
          refine ⟨p, rfl, ⟨_, SqL.of hp⟩, for_list (K := K) (a := p) (xs := nV (Dx.values gs)) (fun i σ H' => ∃ v4 v5 v6 : Option V, σ = [some (.ref d), some (.ref u), some (.ref a), some (.ref b), v4, v5, v6] ∧ Same H1 H' ∧ (((Dx.values gs).take i).findSome? fun v => Dx.into l gs us (m ++ [(u0, v)])) = none)
            ⟨none, none, none, rfl, Same.refl _, rfl⟩ (fun i σ H' _ ⟨_, _, _, _, s5, _⟩ => SqL.of (s5 _ _ hp)) ?_ ?_⟩
          · rintro i y σ H' hi ⟨v4, v5, v6, rfl, s5, a5⟩
            obtain ⟨x, hx, rfl⟩ := nV_get hi
            have s15 := s1.trans s5
            refine ⟨_, rfl, d, kvM m, rfl, .inl (s15 _ _ hd), fun g ng => ?_⟩
            have ng0 : H g = none := s15.free ng
            have du : u ≠ g := ne_of_none hu ng0
            have gr : H' u = some (.lst (nV (u0 :: us))) := s15 _ _ hu
            refine ⟨_, rfl, _, rfl, _, rfl, u, nV (u0 :: us), 0, V.int (u0 : Int), rfl, rfl, SqL.of (by rw [upd_ne du]; exact gr), atI_nat (xs := nV (u0 :: us)) (j := 0) rfl, g, _, rfl, DPut.k (k := Sum.inl (u0 : Int)) upd_same ?_, ?_⟩
            · unfold kvM
              rw [List.length_map]
              rw [List.length_cons] at hm
              exact Nat.lt_of_le_of_lt (by omega : m.length ≤ 100) (by decide)
            rw [upd_upd, putK_kvM nk]
            have s6 : Same H' (upd H' g (.dK (kvM (m ++ [(u0, x)])))) := Same.one ng
            refine ⟨_, rfl, _, rfl, 1, rfl, u, nV (u0 :: us), rfl, SqL.of (s6 _ _ gr), fun r nr => ?_⟩
            have ecut : cutV (nV (u0 :: us)) (some 1) none = nV us := cut1 _ _
            rw [ecut]
            have s7 := Same.new (o := .lst (nV us)) s6 (Same.free s6 nr)
            have s8 : Same H (upd (upd H' g (.dK (kvM (m ++ [(u0, x)])))) r (.lst (nV us))) := s15.trans s7
            refine ⟨_, rfl, _, rfl, g, r, a, b, m ++ [(u0, x)], us, l, gs, rfl, ?_, upd_same, ha.mono s8, hb.mono s8, hk, ?_, ?_, ks' x, fun z H9 s9 q => ?_⟩
            · show upd _ r _ g = _
              rw [upd_ne (ne_of_none (upd_same (H := H')) nr)]
              exact upd_same
            · rw [List.length_cons] at hn
              omega
            · rw [List.length_append, List.length_cons, List.length_nil]
              rw [List.length_cons] at hm
              omega
            · cases ei : Dx.into l gs us (m ++ [(u0, x)]) with
              | none =>
                rw [ei] at q
                obtain rfl : z = .non := q
                refine ⟨_, rfl, rfl, _, rfl, if_f (by decide) ?_⟩
                exact ⟨_, _, _, rfl, s5.trans (s7.trans s9), fs_more hx a5 ei⟩
              | some m' =>
                rw [ei] at q
                obtain ⟨z', rfl, hz⟩ := q
                refine ⟨_, rfl, rfl, _, rfl, if_t (by simp) ?_⟩
                refine ⟨_, rfl, k _ _ (s8.trans s9) ?_⟩
                have e : Dx.into l gs (u0 :: us) m = some m' := fs_hit (g := fun v => Dx.into l gs us (m ++ [(u0, v)])) hx a5 ei
                rw [e]
                exact ⟨z', rfl, hz⟩
          · rintro σ H' ⟨v4, v5, v6, rfl, s5, a5⟩
            rw [nV_len, List.take_length] at a5
            have e : Dx.into l gs (u0 :: us) m = none := a5
            exact k _ _ (s1.trans s5) (by rw [e]; rfl)
end
end Fc

namespace Fc
open PySem PySem.Spec PyProof.Rows L2 FcS
open Dx (Fact Facts Map)
abbrev sRed : Stmt := top 17
abbrev sAos : Stmt := top 18
abbrev sCore : Stmt := top 19
def FacV (H : Hp) (v : V) : Option Facts → Prop
  | none => v = .non
  | some l => ∃ p, v = .ref p ∧ FA H p l
theorem FacV.mono {H H' : Hp} {v : V} {o : Option Facts} (h : FacV H v o) (s : Same H H') : FacV H' v o := by
  cases o with
  | none => exact h
  | some m =>
    obtain ⟨p, e, q⟩ := h
    exact ⟨p, e, q.mono s⟩
def spRed : Sp := fun vs H Q _ => ∃ (a : Addr) (l : Facts), vs = [.ref a] ∧ FA H a l ∧ Ok l ∧ Ret H Q fun v H' => ∃ p, v = .ref p ∧ FA H' p (l.filter (Dx03.spare l))
def spAos : Sp := fun vs H Q _ => ∃ (a : Addr) (l : Facts), vs = [.ref a] ∧ FA H a l ∧ Ok l ∧ Ret H Q fun v H' => FacV H' v (Dx03.shrink l)
def spCore : Sp := fun vs H Q _ => ∃ (a : Addr) (l : Facts), vs = [.ref a] ∧ FA H a l ∧ Ok l ∧ Ret H Q fun v H' => ∃ p, v = .ref p ∧ FA H' p (Dx03.core l)
section
variable {P : Program} {w : World} {K : PySem.W.Frag} {mg : Str → Option Value} {base : Heap}
theorem scFM : FnScope ["facts", "goals"] ["facts", "goals"] (defScope sFM) := ⟨rfl, rfl, rfl, by decide +kernel, rfl, by decide +kernel, by decide +kernel⟩
theorem ok_fm {f f1 f2 : Addr} {fd fd1 fd2 : FuncData} (F : Fun K "first_mapping" "first_mapping" sFM f fd)
    (D1 : Df K mg "first_completion" sFC ["mapping", "unassigned", "facts", "goals"] f1 fd1) (G1 : FnOk P w K mg base CX0 10 f1 fd1 ["mapping", "unassigned", "facts", "goals"] (spFC 4))
    (D2 : Df K mg "unknowns_of" sUnk ["facts"] f2 fd2) (G2 : FnOk P w K mg base CX0 2 f2 fd2 ["facts"] spUnk) : FnOk P w K mg base CX0 11 f fd ["facts", "goals"] spFM := by
  refine F.ok scFM (fun vs H Q E h => ?_) (fun cdv A outer s H vs Q E hr h => ?_)
  · obtain ⟨a, b, l, k, rfl, _⟩ := h
    rfl
  · obtain ⟨a, b, l, gs, rfl, ha, hb, hl, hn, hk, k⟩ := h
    refine ⟨_, pss_one (ps_ret (pe_call G1 hr rfl D1.g D1.F.kp D1.b .nil pass0 (pa_cons pe_dnewK (pa_cons (pe_call G2 (hr.mono (by decide)) rfl D2.g D2.F.kp D2.b .nil pass0 (pa_cons (pv 0) pa_nil)) (pa_cons (pv 0) (pa_cons (pv 1) pa_nil)))))), ?_⟩
    intro d nd
    have s1 : Same H (upd H d (.dK [])) := Same.one nd
    refine ⟨_, rfl, a, l, rfl, ha.mono s1, hl, fun v H1 s2 q => ?_⟩
    obtain ⟨p, rfl, hp⟩ := q
    refine ⟨_, rfl, _, rfl, d, p, a, b, [], Dx.unknowns l, l, gs, rfl, s2 _ _ upd_same, hp, ha.mono (s1.trans s2), hb.mono (s1.trans s2), hk, hn, by simp; omega, rfl, fun z H2 s3 q => ?_⟩
    exact k _ _ ((s1.trans s2).trans s3) q
theorem scMI : FnScope ["facts", "goals"] ["facts", "goals"] (defScope sMI) := ⟨rfl, rfl, rfl, by decide +kernel, rfl, by decide +kernel, by decide +kernel⟩
theorem ok_mi {f f1 : Addr} {fd fd1 : FuncData} (F : Fun K "maps_into" "maps_into" sMI f fd) (D1 : Df K mg "first_mapping" sFM ["facts", "goals"] f1 fd1) (G1 : FnOk P w K mg base CX0 11 f1 fd1 ["facts", "goals"] spFM) : FnOk P w K mg base CX0 12 f fd ["facts", "goals"] spMI := by
  refine F.ok scMI (fun vs H Q E h => ?_) (fun cdv A outer s H vs Q E hr h => ?_)
  · obtain ⟨a, b, l, k, rfl, _⟩ := h
    rfl
  · obtain ⟨a, b, l, gs, rfl, ha, hb, hl, hn, hk, k⟩ := h
    refine ⟨_, pss_one (ps_ret (pe_cmpR op_notN (pe_call G1 hr rfl D1.g D1.F.kp D1.b .nil pass0 (pa_cons (pv 0) (pa_cons (pv 1) pa_nil))) pe_non (nomark _))), ?_⟩
    refine ⟨_, rfl, _, rfl, a, b, l, gs, rfl, ha, hb, hl, hn, hk, fun v H1 s1 q => ⟨rfl, k _ _ s1 ?_⟩⟩
    cases e : Dx.map? l gs with
    | none =>
      rw [e] at q
      obtain rfl : v = .non := q
      rfl
    | some m =>
      rw [e] at q
      obtain ⟨p, rfl, _⟩ := q
      rfl
theorem scEq : FnScope ["facts", "others"] ["facts", "others"] (defScope sEq) := ⟨rfl, rfl, rfl, by decide +kernel, rfl, by decide +kernel, by decide +kernel⟩
theorem ok_eq {f f1 : Addr} {fd fd1 : FuncData} (F : Fun K "are_equivalent" "are_equivalent" sEq f fd) (D1 : Df K mg "maps_into" sMI ["facts", "goals"] f1 fd1) (G1 : FnOk P w K mg base CX0 12 f1 fd1 ["facts", "goals"] spMI) : FnOk P w K mg base CX0 13 f fd ["facts", "others"] spEq := by
  refine F.ok scEq (fun vs H Q E h => ?_) (fun cdv A outer s H vs Q E hr h => ?_)
  · obtain ⟨a, b, l, k, rfl, _⟩ := h
    rfl
  · obtain ⟨a, b, l, gs, rfl, ha, hb, hl, hn, hk, hm, k⟩ := h
    refine ⟨_, pss_one (ps_ret (pe_and (pe_call G1 hr rfl D1.g D1.F.kp D1.b .nil pass0 (pa_cons (pv 0) (pa_cons (pv 1) pa_nil))) (pe_one (pe_call G1 hr rfl D1.g D1.F.kp D1.b .nil pass0 (pa_cons (pv 1) (pa_cons (pv 0) pa_nil)))))), ?_⟩
    refine ⟨_, rfl, _, rfl, a, b, l, gs, rfl, ha, hb, hl, hn, hk, fun v H1 s1 q => ⟨_, q, if_b (fun c => ?_) (fun c => ?_)⟩⟩
    · refine ⟨_, rfl, _, rfl, b, a, gs, l, rfl, hb.mono s1, ha.mono s1, hk, hm, hl, fun v2 H2 s2 q2 => k _ _ (s1.trans s2) ?_⟩
      rw [q2]
      unfold Dx03.same
      rw [c, Bool.true_and]
    · refine k _ _ s1 ?_
      unfold Dx03.same
      rw [c, Bool.false_and]
theorem scRed : FnScope ["facts", "fact"] ["facts"] (defScope sRed) := ⟨rfl, rfl, rfl, by decide +kernel, rfl, by decide +kernel, by decide +kernel⟩
theorem ok_red {f f1 f2 : Addr} {fd fd1 fd2 : FuncData} (F : Fun K "redundant_facts" "redundant_facts" sRed f fd) (D1 : Df K mg "maps_into" sMI ["facts", "goals"] f1 fd1) (G1 : FnOk P w K mg base CX0 12 f1 fd1 ["facts", "goals"] spMI)
    (D2 : Df K mg "without" sWo ["members", "one"] f2 fd2) (G2 : FnOk P w K mg base CX0 1 f2 fd2 ["members", "one"] spWo) : FnOk P w K mg base CX0 13 f fd ["facts"] spRed := by
  refine F.ok scRed (fun vs H Q E h => ?_) (fun cdv A outer s H vs Q E hr h => ?_)
  · obtain ⟨a, l, rfl, _⟩ := h
    rfl
  · obtain ⟨a, l, rfl, ha, ok, k⟩ := h
    refine ⟨_, pss_one (ps_ret (pe_lc (own := [("fact", 1)]) (g := gName 1) rfl scRed.nd (pi_list (pv 0)) (blkOk_by (N := ["facts", "fact"]) (sc := defScope sRed) (by decide +kernel))
      (fun _ _ _ _ _ => pg_name (i := 1) scRed.nd rfl (Or.inl rfl)) (fun _ _ _ _ _ => pts_one (pt_val (pe_call G1 hr rfl D1.g D1.F.kp D1.b .nil pass0 (pa_cons (pv 0) (pa_cons (pe_call G2 (hr.mono (by decide)) rfl D2.g D2.F.kp D2.b .nil pass0 (pa_cons (pv 0) (pa_cons (pv 1) pa_nil))) pa_nil))))) (fun _ _ _ _ _ => pv 1))), ?_⟩
    have hl : l.length ≤ 12 := Nat.le_trans ok.len (by decide)
    obtain ⟨qs, q1, q2, q3⟩ := id ha
    have ql : qs.length = l.length := by rw [← q3, List.length_map]
    refine ⟨_, rfl, a, rfl, ⟨_, SqL.of q1⟩, fun D nD => ?_⟩
    refine lc_list (K := K) (a := a) (xs := qs.map fun q => V.ref q.1) (fun i H' => Same H H' ∧ H' D = some (.lst (((qs.take i).filter fun q => Dx03.spare l q.2).map fun q => V.ref q.1))) ⟨Same.one nD, by rw [upd_same]; rfl⟩ (fun i H' _ ⟨s5, _⟩ => SqL.of (s5 _ _ q1)) ?_ ?_
    · rintro i x H' hi ⟨s5, n5⟩
      rw [List.getElem?_map] at hi
      cases e : qs[i]? with
      | none => rw [e] at hi; cases hi
      | some q =>
        rw [e] at hi
        obtain rfl : x = V.ref q.1 := (Option.some.inj hi).symm
        have tf := take_filter (fun q : Addr × Fact => Dx03.spare l q.2) e
        have hq := s5 _ _ (q2 q (List.mem_of_getElem? e))
        have ha5 := ha.mono s5
        refine ⟨rfl, _, rfl, _, rfl, _, rfl, .inl ⟨a, q.1, l, q.2, rfl, ha5, hq, hl, fun v H1 s1 z => ?_⟩⟩
        obtain ⟨p, rfl, _, hp⟩ := z
        refine ⟨a, p, l, _, rfl, ha5.mono s1, hp, hl, ok.unk, Nat.le_trans (List.length_filter_le _ _) hl, fun v2 H2 s2 z2 => ⟨_, z2, ?_⟩⟩
        have s12 := s1.trans s2
        have n6 := s12 _ _ n5
        refine if_b (fun c => ?_) (fun c => ?_)
        · have c1 : Dx03.spare l q.2 = true := c
          rw [if_pos c1] at tf
          refine ⟨_, rfl, _, n6, ?_, Same.new (s5.trans s12) nD, ?_⟩
          · rw [List.length_map]
            refine Nat.lt_of_le_of_lt (List.length_filter_le _ _) ?_
            rw [List.length_take]
            exact Nat.lt_of_le_of_lt (Nat.min_le_right _ _) (Nat.lt_of_le_of_lt (by omega : qs.length ≤ 12) (by decide))
          · rw [upd_same, tf, List.map_append]
            rfl
        · have c1 : Dx03.spare l q.2 = false := c
          rw [if_neg (by rw [c1]; exact Bool.false_ne_true)] at tf
          rw [tf]
          exact ⟨s5.trans s12, n6⟩
    · rintro H' ⟨s5, n5⟩
      rw [List.length_map, List.take_length] at n5
      refine k _ _ s5 ⟨D, rfl, _, n5, fun q hq => s5 _ _ (q2 q (List.mem_filter.mp hq).1), ?_⟩
      conv => rhs; rw [← q3]
      rw [List.filter_map]
      rw [q3]
      rfl
theorem scAos : FnScope ["facts", "fact", "mapping"] ["facts"] (defScope sAos) := ⟨rfl, rfl, rfl, by decide +kernel, rfl, by decide +kernel, by decide +kernel⟩
theorem ok_aos {f f1 f2 f3 : Addr} {fd fd1 fd2 fd3 : FuncData} (F : Fun K "after_one_step" "after_one_step" sAos f fd) (D1 : Df K mg "first_mapping" sFM ["facts", "goals"] f1 fd1) (G1 : FnOk P w K mg base CX0 11 f1 fd1 ["facts", "goals"] spFM)
    (D2 : Df K mg "without" sWo ["members", "one"] f2 fd2) (G2 : FnOk P w K mg base CX0 1 f2 fd2 ["members", "one"] spWo) (D3 : Df K mg "facts_under" sUnder ["mapping", "facts"] f3 fd3) (G3 : FnOk P w K mg base CX0 1 f3 fd3 ["mapping", "facts"] spUnder) :
    FnOk P w K mg base CX0 12 f fd ["facts"] spAos := by
  refine F.ok scAos (fun vs H Q E h => ?_) (fun cdv A outer s H vs Q E hr h => ?_)
  · obtain ⟨a, l, rfl, _⟩ := h
    rfl
  · obtain ⟨a, l, rfl, ha, ok, k⟩ := h
    have r1 : Room 1 _ := hr.mono (by decide)
    refine ⟨_, pss_cons (ps_for PassesOwn.never rfl (pi_list (pv 0)) (pg_name (i := 1) scAos.nd rfl (.inl rfl))
        (pss_cons (ps_set (i := 2) scAos.nd rfl (.inl rfl) (pe_call G1 hr rfl D1.g D1.F.kp D1.b .nil pass0 (pa_cons (pv 0) (pa_cons (pe_call G2 r1 rfl D2.g D2.F.kp D2.b .nil pass0 (pa_cons (pv 0) (pa_cons (pv 1) pa_nil))) pa_nil))))
        (pss_one (ps_if (pt_cmpR op_notN (pv 2) pe_non (nomark _)) (pss_one (ps_ret (pe_call G3 r1 rfl D3.g D3.F.kp D3.b .nil pass0 (pa_cons (pv 2) (pa_cons (pv 0) pa_nil))))) pss_nil))))
      (pss_one (ps_ret pe_non)), ?_⟩
    have hl : l.length ≤ 12 := Nat.le_trans ok.len (by decide)
    obtain ⟨qs, q1, q2, q3⟩ := ha.lst
    refine ⟨_, rfl, a, rfl, ⟨_, SqL.of q1⟩, for_list (K := K) (a := a) (xs := qs.map fun q => V.ref q.1) (fun i σ H' => ∃ v1 v2 : Option V, σ = [some (.ref a), v1, v2] ∧ Same H H' ∧ ((l.take i).findSome? fun f => (Dx.map? l (Dx03.without l f)).map fun m => Dx.tidy (l.map m.fact)) = none)
      ⟨none, none, rfl, Same.refl H, rfl⟩ (fun i σ H' _ ⟨_, _, _, s5, _⟩ => SqL.of (s5 _ _ q1)) ?_ ?_⟩
    · rintro i y σ H' hi ⟨v1, v2, rfl, s5, a5⟩
      obtain ⟨t, x, rfl, hx, hli, _⟩ := q3 i y hi
      have ha5 := ha.mono s5
      refine ⟨_, rfl, _, rfl, _, rfl, .inl ⟨a, t, l, x, rfl, ha5, s5 _ _ hx, hl, fun v H1 s1 z => ?_⟩⟩
      obtain ⟨p, rfl, _, hp⟩ := z
      refine ⟨a, p, l, _, rfl, ha5.mono s1, hp, hl, ok.unk, Nat.le_trans (List.length_filter_le _ _) hl, fun v2 H2 s2 z2 => ?_⟩
      have s12 := s5.trans (s1.trans s2)
      cases e : Dx.map? l (Dx03.without l x) with
      | none =>
        rw [e] at z2
        obtain rfl : v2 = .non := z2
        refine ⟨_, rfl, rfl, _, rfl, if_f (by decide) ?_⟩
        exact ⟨_, _, rfl, s12, fs_more hli a5 (by rw [e]; rfl)⟩
      | some m =>
        rw [e] at z2
        obtain ⟨d, rfl, hd⟩ := z2
        obtain ⟨i1, i2, i3⟩ := map_inv e
        refine ⟨_, rfl, rfl, _, rfl, if_t (by simp) ?_⟩
        refine ⟨_, rfl, _, rfl, d, a, m, l, rfl, hd, ha.mono s12, hl, fun v hv => ((unk_mem l v).1 (by rw [← i1]; exact hv)).1, fun f hf => ok.bd _ ((without_mem l x _).1 (i3 f hf)).1, fun v3 H3 s3 z3 => ?_⟩
        refine k _ _ (s12.trans s3) ?_
        have e2 : Dx03.shrink l = some (Dx.tidy (l.map m.fact)) := fs_hit hli a5 (by rw [e]; rfl)
        rw [e2]
        obtain ⟨r, er, _, hr3⟩ := z3
        exact ⟨r, er, hr3⟩
    · rintro σ H' ⟨v1, v2, rfl, s5, a5⟩
      rw [List.length_map, q2, List.take_length] at a5
      have e : Dx03.shrink l = none := a5
      exact k _ _ s5 (by rw [e]; rfl)
theorem scCore : FnScope ["facts", "core", "fewer"] ["facts"] (defScope sCore) := ⟨rfl, rfl, rfl, by decide +kernel, rfl, by decide +kernel, by decide +kernel⟩
theorem ok_core {f f1 : Addr} {fd fd1 : FuncData} (F : Fun K "core_of" "core_of" sCore f fd) (T : Blt mg) (D1 : Df K mg "after_one_step" sAos ["facts"] f1 fd1) (G1 : FnOk P w K mg base CX0 12 f1 fd1 ["facts"] spAos) : FnOk P w K mg base CX0 13 f fd ["facts"] spCore := by
  refine F.ok scCore (fun vs H Q E h => ?_) (fun cdv A outer s H vs Q E hr h => ?_)
  · obtain ⟨a, l, rfl, _⟩ := h
    rfl
  · obtain ⟨a, l, rfl, ha, ok, k⟩ := h
    refine ⟨_, pss_cons (ps_set (i := 1) scCore.nd rfl (.inl rfl) (pe_callTy call_list_of (by rfl) T.list (by decide +kernel) (pa_cons (pv 0) pa_nil)))
      (pss_cons (ps_set (i := 2) scCore.nd rfl (.inl rfl) (pe_call G1 hr rfl D1.g D1.F.kp D1.b .nil pass0 (pa_cons (pv 1) pa_nil)))
      (pss_cons (ps_while PassesOwn.never (pt_cmpR op_notN (pv 2) pe_non (nomark _))
        (pss_cons (ps_set (i := 1) scCore.nd rfl (.inl rfl) (pv 2)) (pss_one (ps_set (i := 2) scCore.nd rfl (.inl rfl) (pe_call G1 hr rfl D1.g D1.F.kp D1.b .nil pass0 (pa_cons (pv 1) pa_nil))))))
      (pss_one (ps_ret (pv 1))))), ?_⟩
    obtain ⟨qs, q1, q2, q3⟩ := ha
    refine ⟨_, rfl, a, _, rfl, .inl (SqL.of q1), fun c nc => ?_⟩
    have s1 : Same H (upd H c (.lst (qs.map fun q => V.ref q.1))) := Same.one nc
    have hc : FA (upd H c (.lst (qs.map fun q => V.ref q.1))) c l := ⟨qs, upd_same, fun q hq => s1 _ _ (q2 q hq), q3⟩
    refine ⟨_, rfl, c, l, rfl, hc, ok, fun v H1 s2 z => ?_⟩
    refine ⟨fun m σ H' => ∃ (c : Addr) (v : V) (t : Facts), σ = [some (.ref a), some (.ref c), some v] ∧ Same H H' ∧ FA H' c t ∧ Ok t ∧ FacV H' v (Dx03.shrink t) ∧ Dx03.core l = Dx03.core t ∧ t.length = m, ⟨_, c, v, l, rfl, s1.trans s2, hc.mono s2, ok, z, rfl, rfl⟩, ?_⟩
    rintro m σ H' ⟨c, v, t, rfl, s5, hc5, ok5, z5, e5, rfl⟩
    cases e : Dx03.shrink t with
    | none =>
      rw [e] at z5
      obtain rfl : v = .non := z5
      refine ⟨_, rfl, rfl, _, rfl, if_f (by decide) ?_⟩
      refine ⟨_, rfl, k _ _ s5 ⟨c, rfl, ?_⟩⟩
      rw [e5, core_end e]
      exact hc5
    | some t' =>
      rw [e] at z5
      obtain ⟨c', rfl, hc'⟩ := z5
      refine ⟨_, rfl, rfl, _, rfl, if_t (by simp) ?_⟩
      refine ⟨_, fun σ' H' h => ⟨t'.length, (shrink_sub e).2.1, h⟩, ?_⟩
      refine ⟨_, rfl, _, rfl, c', t', rfl, hc', ok5.shrink e, fun v2 H2 s6 z6 => ?_⟩
      exact ⟨c', v2, t', rfl, s5.trans s6, hc'.mono s6, ok5.shrink e, z6, e5.trans (core_step e), rfl⟩
end
end Fc

namespace Fc
open PySem PySem.Spec PyProof.Rows L2 FcS
open Dx (Fact Facts Map)
abbrev sArr : Stmt := top 21
abbrev sIso : Stmt := top 22
abbrev sRen : Stmt := top 23
/-! ### for i, x in enumerate(a list) -/
theorem for_enum {K : PySem.W.Frag} {a : Addr} {xs : List V} {g : TG} {tb : TS} {D : Ends} {σ : L2.St} {H : Hp} (Pv : Nat → L2.St → Hp → Prop) (h0 : Pv 0 σ H) (hl : ∀ i σ H, i ≤ xs.length → Pv i σ H → SqL K H a xs)
    (hs : ∀ (i : Nat) (x : V) (T : Addr) (σ : L2.St) (H : Hp), xs[i]? = some x → Pv i σ H → H T = none → g (.ref T) σ (upd H T (.tup [.int (i : Nat), x])) fun σ2 H2 => tb { D with nx := Pv (i + 1), ct := Pv (i + 1), bk := D.nx } σ2 H2) (hd : ∀ σ H, Pv xs.length σ H → D.nx σ H) :
    ∃ W : Nat → Nat → L2.St → Hp → Prop, (∃ m, W 0 m σ H) ∧ ∀ i m σ H, W i m σ H →
      ((Ite K a).stop i H ∧ D.nx σ H) ∨ ((Ite K a).go i H ∧ ∃ N : L2.St → Hp → Prop, (∀ σ' H', N σ' H' → ∃ m', m' < m ∧ W (i + 1) m' σ' H') ∧ ∀ x H', (Ite K a).yld i H x H' → g x σ H' fun σ2 H2 => tb { D with nx := N, ct := N, bk := D.nx } σ2 H2) := by
  refine ⟨fun i m σ H => m = xs.length - i ∧ i ≤ xs.length ∧ Pv i σ H, ⟨_, rfl, Nat.zero_le _, h0⟩, ?_⟩
  rintro i m σ H ⟨rfl, hi, p⟩
  have q := hl i σ H hi p
  by_cases hlt : i < xs.length
  · refine .inr ⟨⟨xs, xs[i], q, List.getElem?_eq_getElem hlt⟩, Pv (i + 1), fun σ' H' p' => ⟨_, by omega, rfl, hlt, p'⟩, fun x H' y => ?_⟩
    obtain ⟨T, x', rfl, hT, rfl, e⟩ := y
    exact hs i x' T σ H (e xs q) p hT
  · obtain rfl : i = xs.length := by omega
    exact .inl ⟨⟨xs, q, Nat.le_refl _⟩, hd σ H p⟩
/-! ### lists of lists -/
def LL (H : Hp) (a : Addr) (xss : List (List Nat)) : Prop := ∃ ps : List (Addr × List Nat), H a = some (.lst (ps.map fun q => V.ref q.1)) ∧ (∀ q ∈ ps, NL H q.1 q.2) ∧ ps.map (·.2) = xss
theorem LL.mono {H H' : Hp} {a : Addr} {l : List (List Nat)} (h : LL H a l) (s : Same H H') : LL H' a l := by
  obtain ⟨qs, h1, h2, h3⟩ := h
  exact ⟨qs, s _ _ h1, fun q hq => (h2 q hq).mono s, h3⟩
theorem arr_len : ∀ (n : Nat) (l : List Nat), l.length ≤ 4 → (arr n l).length ≤ 4 ^ n
  | n, [], _ => by
    rw [arr_nil]
    exact Nat.pow_pos (by decide)
  | 0, _ :: _, _ => Nat.zero_le _
  | n + 1, v :: vs, h => by
    have key : ∀ xs : List Nat, (xs.flatMap fun x => (arr n ((v :: vs).filter fun y => y != x)).map (x :: ·)).length ≤ xs.length * 4 ^ n := fun xs => by
      induction xs with
      | nil => exact Nat.zero_le _
      | cons x xs ih =>
        rw [List.flatMap_cons, List.length_append, List.length_map, List.length_cons, Nat.succ_mul]
        have := arr_len n ((v :: vs).filter fun y => y != x) (Nat.le_trans (List.length_filter_le _ _) h)
        omega
    have := key (v :: vs)
    show ((v :: vs).flatMap _).length ≤ _
    rw [Nat.pow_succ]
    have : (v :: vs).length * 4 ^ n ≤ 4 * 4 ^ n := Nat.mul_le_mul_right _ h
    omega
theorem flat_congr {α β : Type} {f g : α → List β} : ∀ {l : List α}, (∀ a ∈ l, f a = g a) → l.flatMap f = l.flatMap g
  | [], _ => rfl
  | a :: l, h => by
    rw [List.flatMap_cons, List.flatMap_cons, h a List.mem_cons_self, flat_congr fun b hb => h b (List.mem_cons_of_mem _ hb)]
def arrOf (vs : List Nat) : List (List Nat) := arr vs.length vs
/-- one turn of the outer loop -/
def arrX (vs : List Nat) (x : Nat) : List (List Nat) := (arrOf (vs.filter fun y => y != x)).map (x :: ·)
theorem arrOf_cons {vs : List Nat} (hn : vs.Nodup) (h : vs ≠ []) : arrOf vs = vs.flatMap (arrX vs) := by
  cases vs with
  | nil => exact absurd rfl h
  | cons v vs =>
    have e : arrOf (v :: vs) = arr (vs.length + 1) (v :: vs) := rfl
    rw [e, arr]
    refine flat_congr fun x hx => ?_
    have := filter_ne_len hn hx
    unfold arrX arrOf
    rw [show ((v :: vs).filter fun y => y != x).length = vs.length by rw [List.length_cons] at this; omega]
theorem arrX_len {vs : List Nat} (h : vs.length ≤ 4) (x : Nat) : (arrX vs x).length ≤ 256 := by
  unfold arrX arrOf
  rw [List.length_map]
  have h1 := List.length_filter_le (fun y => y != x) vs
  have h2 := arr_len (vs.filter fun y => y != x).length (vs.filter fun y => y != x) (by omega)
  have h3 : (4 : Nat) ^ (vs.filter fun y => y != x).length ≤ 4 ^ 4 := Nat.pow_le_pow_right (by decide) (by omega)
  omega
theorem flat_len {vs : List Nat} (h : vs.length ≤ 4) : ∀ xs : List Nat, (xs.flatMap (arrX vs)).length ≤ xs.length * 256
  | [] => Nat.zero_le _
  | x :: xs => by
    rw [List.flatMap_cons, List.length_append, List.length_cons, Nat.succ_mul]
    have := flat_len h xs
    have := arrX_len h x
    omega
/-- a new list of new lists at p -/
def Arr (H H' : Hp) (p : Addr) (xss : List (List Nat)) : Prop := ∃ ps : List (Addr × List Nat), H p = none ∧ H' p = some (.lst (ps.map fun q => V.ref q.1)) ∧ (∀ q ∈ ps, NL H' q.1 q.2 ∧ H q.1 = none ∧ q.1 ≠ p) ∧ ps.map (·.2) = xss
theorem Arr.ll {H H' : Hp} {p : Addr} {xss : List (List Nat)} (h : Arr H H' p xss) : LL H' p xss := by
  obtain ⟨ps, _, h1, h2, h3⟩ := h
  exact ⟨ps, h1, fun q hq => (h2 q hq).1, h3⟩
def spArr (n : Nat) : Sp := fun vs H Q _ => ∃ (a : Addr) (ns : List Nat), vs = [.ref a] ∧ NL H a ns ∧ ns.Nodup ∧ ns.length ≤ n ∧ ns.length ≤ 4 ∧ Ret H Q fun v H' => ∃ p, v = .ref p ∧ Arr H H' p (arrOf ns)
section
variable {P : Program} {w : World} {K : PySem.W.Frag} {mg : Str → Option Value} {base : Heap}
theorem scArr : FnScope ["values", "found", "value", "rest"] ["values"] (defScope sArr) := ⟨rfl, rfl, rfl, by decide +kernel, rfl, by decide +kernel, by decide +kernel⟩
theorem arr_end {H : Hp} {Q : VK} (k : Ret H Q fun v H' => ∃ p, v = .ref p ∧ Arr H H' p (arrOf [])) (p q : Addr) (np : H p = none) (nq : upd H p (.lst []) q = none) : Q (.ref q) (upd (upd H p (.lst [])) q (.lst [.ref p])) := by
  have s1 : Same H (upd H p (.lst [])) := Same.one np
  have nq0 := Same.free s1 nq
  refine k _ _ (Same.new s1 nq0) ⟨q, rfl, [(p, [])], nq0, upd_same, fun z hz => ?_, rfl⟩
  obtain rfl : z = (p, []) := by simpa using hz
  have pq : p ≠ q := ne_of_none (upd_same (H := H)) nq
  refine ⟨?_, np, pq⟩
  show upd _ q _ p = _
  rw [upd_ne pq, upd_same]
  rfl
theorem ok_arr {f f1 : Addr} {fd fd1 : FuncData} (D : Df K mg "arrangements" sArr ["values"] f fd) (T : Blt mg) (D1 : Df K mg "without" sWo ["members", "one"] f1 fd1) (G1 : FnOk P w K mg base CX0 1 f1 fd1 ["members", "one"] spWo) :
    ∀ n : Nat, FnOk P w K mg base CX0 (n + 2) f fd ["values"] (spArr n)
  | 0 => by
    refine D.F.ok (k := 1) scArr (fun vs H Q E h => ?_) (fun cdv A outer s H vs Q E hr h => ?_)
    · obtain ⟨a, ns, rfl, _⟩ := h
      rfl
    · obtain ⟨a, ns, rfl, ha, nd, hn, _, k⟩ := h
      refine ⟨_, pss_cons (ps_if (pt_cmpR op_eq (pe_callB call_len_seq (by rfl) T.len PySem.boot_len (pa_cons (pv 0) pa_nil)) pe_int (nomark _)) (pss_one (ps_ret (pe_lst (pa_cons (pe_lst pa_nil) pa_nil)))) pss_nil) pss_never, ?_⟩
      obtain rfl : ns = [] := List.eq_nil_of_length_eq_zero (Nat.le_zero.mp hn)
      refine ⟨_, rfl, a, _, rfl, .inl (SqL.of ha), rfl, _, rfl, if_t (by decide) ?_⟩
      exact ⟨by decide, fun p np => ⟨by show 1 ≤ sizeLine; decide, fun q nq => arr_end k p q np nq⟩⟩
  | n + 1 => by
    have G := ok_arr D T D1 G1 n
    refine D.F.ok (k := n + 2) scArr (fun vs H Q E h => ?_) (fun cdv A outer s H vs Q E hr h => ?_)
    · obtain ⟨a, ns, rfl, _⟩ := h
      rfl
    · obtain ⟨a, ns, rfl, ha, nd, hn, h4, k⟩ := h
      refine ⟨_, pss_cons (ps_if (pt_cmpR op_eq (pe_callB call_len_seq (by rfl) T.len PySem.boot_len (pa_cons (pv 0) pa_nil)) pe_int (nomark _)) (pss_one (ps_ret (pe_lst (pa_cons (pe_lst pa_nil) pa_nil)))) pss_nil)
        (pss_cons (ps_set (i := 1) scArr.nd rfl (.inl rfl) (pe_lst pa_nil))
        (pss_cons (ps_for PassesOwn.never rfl (pi_list (pv 0)) (pg_name (i := 2) scArr.nd rfl (.inl rfl))
          (pss_one (ps_for PassesOwn.never rfl (pi_list (pe_call G hr rfl D.g D.F.kp D.b .nil pass0 (pa_cons (pe_call G1 (hr.mono (by omega)) rfl D1.g D1.F.kp D1.b .nil pass0 (pa_cons (pv 0) (pa_cons (pv 2) pa_nil))) pa_nil))) (pg_name (i := 3) scArr.nd rfl (.inl rfl))
            (pss_one (ps_expr (pe_bm PySem.F.plainAttrs_list PySem.F.slot_list_append PySem.F.type_list_append mt_append (pv 1) (pa_cons (pe_op op_cat (pe_lst (pa_cons (pv 2) pa_nil)) (pv 3)) pa_nil)))))))
        (pss_one (ps_ret (pv 1))))), ?_⟩
      by_cases en : ns = []
      · subst en
        refine ⟨_, rfl, a, _, rfl, .inl (SqL.of ha), rfl, _, rfl, if_t (by decide) ?_⟩
        exact ⟨by decide, fun p np => ⟨by show 1 ≤ sizeLine; decide, fun q nq => arr_end k p q np nq⟩⟩
      · refine ⟨_, rfl, a, _, rfl, .inl (SqL.of ha), rfl, _, rfl, if_f ?_ ?_⟩
        · refine decide_eq_false fun e => ?_
          injection e with e
          rw [nV_len] at e
          exact en (List.eq_nil_of_length_eq_zero (by omega))
        refine ⟨Nat.zero_le _, fun p np => ?_⟩
        have s1 : Same H (upd H p (.lst [])) := Same.one np
        refine ⟨_, rfl, a, rfl, ⟨_, SqL.of (s1 _ _ ha)⟩, for_list (K := K) (a := a) (xs := nV ns) (fun i σ H' => ∃ v2 v3 : Option V, σ = [some (.ref a), some (.ref p), v2, v3] ∧ Same H H' ∧ Arr H H' p ((ns.take i).flatMap (arrX ns)))
          ⟨none, none, rfl, s1, [], np, by rw [upd_same]; rfl, by simp, rfl⟩ (fun i σ H' _ ⟨_, _, _, s5, _⟩ => SqL.of (s5 _ _ ha)) ?_ ?_⟩
        · rintro i y σ H' hi ⟨v2, v3, rfl, s5, ps, p0, p1, p2, p3⟩
          obtain ⟨x, hx, rfl⟩ := nV_get hi
          refine ⟨_, rfl, _, rfl, .inr ⟨a, ns, x, rfl, s5 _ _ ha, by omega, fun v H1 s6 z => ?_⟩⟩
          obtain ⟨b, rfl, _, hb⟩ := z
          have hx' : x ∈ ns := List.mem_of_getElem? hx
          have hfl := filter_ne_len nd hx'
          refine ⟨b, _, rfl, hb, List.Pairwise.filter _ nd, by omega, by omega, fun v H2 s7 z => ?_⟩
          obtain ⟨c, rfl, qs, c0, c1, c2, c3⟩ := z
          have s57 : Same H H2 := s5.trans (s6.trans s7)
          have p1' := s6 _ _ p1
          have cp : c ≠ p := fun e => by rw [e, p1'] at c0; cases c0
          have base_len : ((ns.take i).flatMap (arrX ns)).length ≤ 1024 := by
            have h := flat_len h4 (ns.take i)
            have h2 : (ns.take i).length ≤ 4 := by rw [List.length_take]; omega
            have h3 : (ns.take i).length * 256 ≤ 4 * 256 := Nat.mul_le_mul_right _ h2
            omega
          refine ⟨c, rfl, ⟨_, SqL.of c1⟩, for_list (K := K) (a := c) (xs := qs.map fun q => V.ref q.1) (fun j σ H' => ∃ v3 : Option V, σ = [some (.ref a), some (.ref p), some (.int (x : Int)), v3] ∧ Same H H' ∧ H' c = some (.lst (qs.map fun q => V.ref q.1)) ∧ (∀ q ∈ qs, NL H' q.1 q.2 ∧ q.1 ≠ p) ∧ Arr H H' p ((ns.take i).flatMap (arrX ns) ++ ((arrX ns x).take j)))
            ⟨v3, rfl, s57, c1, fun q hq => ⟨(c2 q hq).1, fun e => by have z := (c2 q hq).2.1; rw [e, p1'] at z; cases z⟩, ps, p0, s7 _ _ p1', fun q hq => ⟨((p2 q hq).1.mono s6).mono s7, (p2 q hq).2⟩, by rw [p3]; simp⟩ (fun j σ H' _ ⟨_, _, _, e, _⟩ => SqL.of e) ?_ ?_⟩
          · rintro j y σ H' hj ⟨v3, rfl, s8, d1, d2, ps, e0, e1, e2, e3⟩
            rw [List.getElem?_map] at hj
            cases eq : qs[j]? with
            | none => rw [eq] at hj; cases hj
            | some q =>
              rw [eq] at hj
              obtain rfl : y = V.ref q.1 := (Option.some.inj hj).symm
              obtain ⟨hq, hqp⟩ := d2 q (List.mem_of_getElem? eq)
              have ej : (arrX ns x)[j]? = some (x :: q.2) := by
                unfold arrX
                rw [List.getElem?_map, ← c3, List.getElem?_map, eq]
                rfl
              have lq : q.2.length ≤ 4 := by
                have hm : q.2 ∈ arrOf (ns.filter fun y => y != x) := by rw [← c3]; exact List.mem_map.mpr ⟨q, List.mem_of_getElem? eq, rfl⟩
                have := (arr_inv _ _ (List.Pairwise.filter _ nd) _ hm).1
                omega
              have lps : ps.length ≤ 2000 := by
                have h1 := congrArg List.length e3
                rw [List.length_map, List.length_append, List.length_take] at h1
                have h2 := arrX_len h4 x
                omega
              refine ⟨_, rfl, .inl ⟨rfl, _, SqL.of e1⟩, _, rfl, by show 1 ≤ sizeLine; decide, fun r nr => ?_⟩
              have rq : q.1 ≠ r := ne_of_none hq nr
              have pr : p ≠ r := ne_of_none e1 nr
              refine ⟨_, rfl, r, q.1, _, nV q.2, rfl, rfl, upd_same, by rw [upd_ne rq]; exact hq, by rw [nV_len]; exact Nat.le_trans (show 1 + q.2.length ≤ 5 by omega) (by decide), fun t nt => ?_⟩
              have s9 : Same H' (upd (upd H' r (.lst [.int (x : Int)])) t (.lst ([.int (x : Int)] ++ nV q.2))) := Same.new (Same.one nr) (Same.free (Same.one nr) nt)
              have nt' : H' t = none := Same.free (Same.one nr) nt
              have tp : p ≠ t := ne_of_none e1 nt'
              refine ⟨p, _, _, rfl, rfl, s9 _ _ e1, ?_, ?_⟩
              · rw [List.length_map]
                exact Nat.lt_of_le_of_lt lps (by decide)
              have other : ∀ (b : Addr) (o : HO), b ≠ p → H' b = some o → upd (upd (upd H' r (.lst [.int (x : Int)])) t (.lst ([.int (x : Int)] ++ nV q.2))) p (.lst ((ps.map fun q => V.ref q.1) ++ [.ref t])) b = some o := fun b o hb e => by
                rw [upd_ne hb]
                exact s9 b o e
              refine ⟨_, rfl, Same.new (s8.trans s9) e0, other _ _ cp d1, fun z hz => ⟨other _ _ (d2 z hz).2 (d2 z hz).1, (d2 z hz).2⟩, ps ++ [(t, x :: q.2)], e0, ?_, ?_, ?_⟩
              · rw [upd_same, List.map_append]
                rfl
              · intro z hz
                rcases List.mem_append.mp hz with hz | hz
                · obtain ⟨z1, z2, z3⟩ := e2 z hz
                  exact ⟨other _ _ z3 z1, z2, z3⟩
                · obtain rfl : z = (t, x :: q.2) := by simpa using hz
                  refine ⟨?_, Same.free s8 nt', Ne.symm tp⟩
                  show upd _ p _ t = _
                  rw [upd_ne (Ne.symm tp), upd_same]
                  rfl
              · rw [List.map_append, e3, take_more ej, List.append_assoc]
                rfl
          · rintro σ H' ⟨v3, rfl, s8, d1, d2, d3⟩
            refine ⟨_, _, rfl, s8, ?_⟩
            rw [take_more hx, List.flatMap_append]
            have el : (arrX ns x).take (qs.map fun q => V.ref q.1).length = arrX ns x := by
              refine List.take_of_length_le ?_
              unfold arrX
              rw [List.length_map, ← c3, List.length_map, List.length_map]
              exact Nat.le_refl _
            rw [el] at d3
            have e1 : [x].flatMap (arrX ns) = arrX ns x := by simp
            rw [e1]
            exact d3
        · rintro σ H' ⟨v2, v3, rfl, s5, a5⟩
          rw [nV_len, List.take_length, ← arrOf_cons nd en] at a5
          exact ⟨_, rfl, k _ _ s5 ⟨p, rfl, a5⟩⟩
end
end Fc

namespace Fc
open PySem PySem.Spec PyProof.Rows L2 FcS
open Dx (Fact Facts Map)
def dL (l : Facts) : PyData := .list (l.map dF)
theorem dL_eqvAll : ∀ l k : Facts, PyData.eqvAll (l.map dF) (k.map dF) = decide (l = k)
  | [], [] => rfl
  | [], _ :: _ => rfl
  | _ :: _, [] => rfl
  | f :: l, g :: k => by
    show (PyData.eqv (dF f) (dF g) && PyData.eqvAll (l.map dF) (k.map dF)) = _
    rw [dF_eqv, dL_eqvAll l k, Bool.eq_iff_iff]
    simp
theorem dL_eqv (l k : Facts) : PyData.eqv (dL l) (dL k) = decide (l = k) := dL_eqvAll l k
theorem dL_shaped (l : Facts) : SeqAt.shaped (dL l) = true := by
  have h1 : ∀ l : Facts, PyData.canLayAll0 (l.map dF) = true := fun l => by
    induction l with
    | nil => rfl
    | cons f l ih => exact ih
  have h2 : ∀ l : Facts, PyData.depthAll (l.map dF) ≤ 1 := fun l => by
    induction l with
    | nil => exact Nat.zero_le _
    | cons f l ih =>
      show max 1 (PyData.depthAll (l.map dF)) ≤ 1
      omega
  unfold SeqAt.shaped
  rw [Bool.and_eq_true, decide_eq_true_eq]
  refine ⟨h1 l, ?_⟩
  show PyData.depthAll (l.map dF) + 1 ≤ 64
  have := h2 l
  omega
theorem dpAll_of {K : PySem.W.Frag} {H : Hp} : ∀ qs : List (Addr × Fact), (∀ q ∈ qs, H q.1 = some (.tup (fV q.2))) → DpAll K H (qs.map fun q => V.ref q.1) ((qs.map (·.2)).map dF)
  | [], _ => .nil
  | q :: qs, h => .cons (dF_at (h q List.mem_cons_self)) (dpAll_of qs fun z hz => h z (List.mem_cons_of_mem _ hz))
theorem FA.dp {K : PySem.W.Frag} {H : Hp} {a : Addr} {l : Facts} (h : FA H a l) : Dp K H (.ref a) (dL l) := by
  obtain ⟨qs, h1, h2, rfl⟩ := h
  exact .lst (SqL.of h1) (dpAll_of qs h2)
theorem mergeK_zip : ∀ (us as : List Nat) (m : Map), (keys m ++ us).Nodup → us.length = as.length → mergeK (kvM m) (kvI (cs us) (cs as)) = kvM (m ++ us.zip as)
  | [], [], m, _, _ => by
    rw [List.zip_nil_left, List.append_nil]
    rfl
  | u :: us, a :: as, m, nd, hl => by
    have nk : u ∉ keys m := fun e => (List.nodup_append.mp nd).2.2 u e u List.mem_cons_self rfl
    show mergeK (putK (kvM m) (Sum.inl (u : Int)) (V.int (a : Int))) (kvI (cs us) (cs as)) = _
    rw [putK_kvM nk, mergeK_zip us as (m ++ [(u, a)]) ?_ (by simpa using hl), List.zip_cons_cons, List.append_assoc]
    · rfl
    · unfold keys
      rw [List.map_append, List.append_assoc]
      exact nd
def spIso : Sp := fun vs H Q _ => ∃ (a b : Addr) (l k : Facts), vs = [.ref a, .ref b] ∧ FA H a l ∧ FA H b k ∧ Ok l ∧ Ok k ∧ Ret H Q fun v H' => MapV H' v (Dx03.alike l k)
def spRen : Sp := fun vs H Q _ => ∃ (a : Addr) (l : Facts), vs = [.ref a] ∧ FA H a l ∧ Ok l ∧ Ret H Q fun v H' => ∃ p, v = .ref p ∧ H p = none ∧ FA H' p (Dx03.plain l)
theorem keys_zip {us as : List Nat} (h : us.length = as.length) : keys (us.zip as) = us := by
  unfold keys
  rw [List.map_fst_zip (by omega)]
/-- where a mapping sends the values of a set -/
theorem look_bd {m : Map} {N : Nat} (hm : ∀ p ∈ m, p.2 < N) (v : Nat) (hv : v < N) : m.of v < N := by
  unfold Dx.Map.of
  split
  · exact hv
  · cases e : (m.find? fun p => p.1 == v) with
    | none => exact hv
    | some p => exact hm p (List.mem_of_find?_eq_some e)
theorem fact_bd {m : Map} (hm : ∀ p ∈ m, p.2 < 300) {f : Fact} (h : FBd f) : FBd (m.fact f) := ⟨h.1, look_bd hm _ h.2.1, look_bd hm _ h.2.2⟩
theorem unk_bd {l : Facts} (h : Bd l) {v : Nat} (hv : v ∈ Dx.unknowns l) : v < 300 := by
  obtain ⟨f, hf, e⟩ := (vals2_mem l v).1 ((unk_mem l v).1 hv).2
  have := h f hf
  rcases e with e | e <;> rw [e]
  · exact this.2.1
  · exact this.2.2
section
variable {P : Program} {w : World} {K : PySem.W.Frag} {mg : Str → Option Value} {base : Heap}
theorem scIso : FnScope ["facts", "goals", "unknowns", "targets", "assigned", "mapping"] ["facts", "goals"] (defScope sIso) := ⟨rfl, rfl, rfl, by decide +kernel, rfl, by decide +kernel, by decide +kernel⟩
theorem ok_iso {f f1 f2 f3 : Addr} {fd fd1 fd2 fd3 : FuncData} (F : Fun K "first_isomorphism" "first_isomorphism" sIso f fd) (T : Blt mg) (D1 : Df K mg "arrangements" sArr ["values"] f1 fd1) (G1 : FnOk P w K mg base CX0 6 f1 fd1 ["values"] (spArr 4))
    (D2 : Df K mg "unknowns_of" sUnk ["facts"] f2 fd2) (G2 : FnOk P w K mg base CX0 2 f2 fd2 ["facts"] spUnk) (D3 : Df K mg "facts_under" sUnder ["mapping", "facts"] f3 fd3) (G3 : FnOk P w K mg base CX0 1 f3 fd3 ["mapping", "facts"] spUnder) :
    FnOk P w K mg base CX0 7 f fd ["facts", "goals"] spIso := by
  refine F.ok scIso (fun vs H Q E h => ?_) (fun cdv A outer s H vs Q E hr h => ?_)
  · obtain ⟨a, b, l, k, rfl, _⟩ := h
    rfl
  · obtain ⟨a, b, l, gs, rfl, ha, hb, okl, okk, k⟩ := h
    have r2 : Room 2 _ := hr.mono (by decide)
    have r1 : Room 1 _ := hr.mono (by decide)
    refine ⟨_, pss_cons (ps_set (i := 2) scIso.nd rfl (.inl rfl) (pe_call G2 r2 rfl D2.g D2.F.kp D2.b .nil pass0 (pa_cons (pv 0) pa_nil)))
      (pss_cons (ps_set (i := 3) scIso.nd rfl (.inl rfl) (pe_call G2 r2 rfl D2.g D2.F.kp D2.b .nil pass0 (pa_cons (pv 1) pa_nil)))
      (pss_cons (ps_if (pt_cmpR op_ne (pe_callB call_len_seq (by rfl) T.len PySem.boot_len (pa_cons (pv 2) pa_nil)) (pe_callB call_len_seq (by rfl) T.len PySem.boot_len (pa_cons (pv 3) pa_nil)) (nomark _)) (pss_one (ps_ret pe_non)) pss_nil)
      (pss_cons (ps_for PassesOwn.never rfl (pi_list (pe_call G1 hr rfl D1.g D1.F.kp D1.b .nil pass0 (pa_cons (pv 3) pa_nil))) (pg_name (i := 4) scIso.nd rfl (.inl rfl))
        (pss_cons (ps_set (i := 5) scIso.nd rfl (.inl rfl) (pe_dictZip rfl rfl T.dict rfl T.zip (pa_cons (pv 2) (pa_cons (pv 4) pa_nil))))
        (pss_one (ps_if (pt_cmpR (op_eqD hr.units) (pe_call G3 r1 rfl D3.g D3.F.kp D3.b .nil pass0 (pa_cons (pv 5) (pa_cons (pv 0) pa_nil))) (pv 1) (nomark _)) (pss_one (ps_ret (pv 5))) pss_nil))))
      (pss_one (ps_ret pe_non))))), ?_⟩
    have ll : l.length ≤ 12 := Nat.le_trans okl.len (by decide)
    have lk : gs.length ≤ 12 := Nat.le_trans okk.len (by decide)
    refine ⟨_, rfl, a, l, rfl, ha, ll, fun v H1 s1 z => ?_⟩
    obtain ⟨u, rfl, hu⟩ := z
    refine ⟨_, rfl, b, gs, rfl, hb.mono s1, lk, fun v H2 s2 z => ?_⟩
    obtain ⟨t, rfl, ht⟩ := z
    have hu2 := hu.mono s2
    have s12 := s1.trans s2
    refine ⟨_, rfl, u, _, rfl, .inl (SqL.of hu2), _, rfl, t, _, rfl, .inl (SqL.of ht), rfl, _, rfl, ?_⟩
    rw [nV_len, nV_len, int_eq, alike_eq okl.srt] at *
    refine if_b (fun c => ?_) (fun c => ?_)
    · have c1 : (Dx.unknowns l).length ≠ (Dx.unknowns gs).length := by simpa using c
      refine k _ _ s12 ?_
      rw [if_neg c1]
      rfl
    · have c1 : (Dx.unknowns l).length = (Dx.unknowns gs).length := by simpa using c
      rw [if_pos c1, c1] at k
      refine ⟨_, rfl, t, Dx.unknowns gs, rfl, ht, unk_nodup gs, okk.unk, okk.unk, fun v H3 s3 z => ?_⟩
      obtain ⟨p, rfl, ar⟩ := z
      obtain ⟨ps, p1, p2, p3⟩ := ar.ll
      have s13 := s12.trans s3
      refine ⟨p, rfl, ⟨_, SqL.of p1⟩, for_list (K := K) (a := p) (xs := ps.map fun q => V.ref q.1) (fun i σ H' => ∃ v4 v5 : Option V, σ = [some (.ref a), some (.ref b), some (.ref u), some (.ref t), v4, v5] ∧ Same H3 H' ∧ (((arr (Dx.unknowns gs).length (Dx.unknowns gs)).take i).findSome? fun as => isoAt l gs ((Dx.unknowns l).zip as)) = none)
        ⟨none, none, rfl, Same.refl _, rfl⟩ (fun i σ H' _ ⟨_, _, _, s5, _⟩ => SqL.of (s5 _ _ p1)) ?_ ?_⟩
      · rintro i y σ H' hi ⟨v4, v5, rfl, s5, a5⟩
        rw [List.getElem?_map] at hi
        cases e : ps[i]? with
        | none => rw [e] at hi; cases hi
        | some q =>
          rw [e] at hi
          obtain rfl : y = V.ref q.1 := (Option.some.inj hi).symm
          have hq := s5 _ _ (p2 q (List.mem_of_getElem? e))
          have ei : (arr (Dx.unknowns gs).length (Dx.unknowns gs))[i]? = some q.2 := by
            show (arrOf (Dx.unknowns gs))[i]? = _
            rw [← p3, List.getElem?_map, e]
            rfl
          obtain ⟨lq, mq⟩ := arr_inv _ _ (unk_nodup gs) q.2 (List.mem_of_getElem? ei)
          have s15 := s13.trans s5
          refine ⟨_, rfl, _, rfl, u, q.1, cs (Dx.unknowns l), cs q.2, rfl, SqL.of (s5 _ _ (s3 _ _ hu2)), SqL.of hq, ?_, fun d nd => ?_⟩
          · rw [List.length_map, List.length_map, lq, c1]
          have em : mergeK [] (kvI (cs (Dx.unknowns l)) (cs q.2)) = kvM ((Dx.unknowns l).zip q.2) := mergeK_zip (Dx.unknowns l) q.2 [] (by simpa using unk_nodup l) (by rw [lq, c1])
          rw [em]
          have s6 : Same H' (upd H' d (.dK (kvM ((Dx.unknowns l).zip q.2)))) := Same.one nd
          have s16 := s15.trans s6
          have kz : keys ((Dx.unknowns l).zip q.2) = Dx.unknowns l := keys_zip (by rw [lq, c1])
          have hm : ∀ p ∈ (Dx.unknowns l).zip q.2, p.2 < 300 := fun p hp => by
            obtain ⟨p1, p2⟩ := p
            exact unk_bd okk.bd (mq _ (List.of_mem_zip hp).2)
          refine ⟨_, rfl, _, rfl, d, a, (Dx.unknowns l).zip q.2, l, rfl, upd_same, ha.mono s16, ll, fun v hv => ((unk_mem l v).1 (by rw [← kz]; exact hv)).1, fun f hf => fact_bd hm (okl.bd f hf), fun v H7 s7 z => ?_⟩
          obtain ⟨r, rfl, _, hrr⟩ := z
          have s17 := s16.trans s7
          refine ⟨_, rfl, dL _, dL gs, hrr.dp, (hb.mono s17).dp, dL_shaped _, dL_shaped _, _, rfl, ?_⟩
          rw [dL_eqv]
          refine if_b (fun c2 => ?_) (fun c2 => ?_)
          · rw [decide_eq_true_eq] at c2
            refine ⟨_, rfl, k _ _ s17 ?_⟩
            rw [fs_hit (b := (Dx.unknowns l).zip q.2) ei a5 (by unfold isoAt; rw [if_pos c2])]
            exact ⟨d, rfl, s7 _ _ upd_same⟩
          · rw [decide_eq_false_iff_not] at c2
            exact ⟨_, _, rfl, s5.trans (s6.trans s7), fs_more ei a5 (by unfold isoAt; rw [if_neg c2])⟩
      · rintro σ H' ⟨v4, v5, rfl, s5, a5⟩
        rw [List.length_map] at a5
        have e : (arr (Dx.unknowns gs).length (Dx.unknowns gs)).take ps.length = arr (Dx.unknowns gs).length (Dx.unknowns gs) := by
          refine List.take_of_length_le ?_
          have := congrArg List.length p3
          rw [List.length_map] at this
          exact Nat.le_of_eq this.symm
        rw [e] at a5
        refine k _ _ (s13.trans s5) ?_
        rw [a5]
        rfl
theorem scRen : FnScope ["facts", "mapping", "place", "value"] ["facts"] (defScope sRen) := ⟨rfl, rfl, rfl, by decide +kernel, rfl, by decide +kernel, by decide +kernel⟩
theorem ren_more {us : List Nat} {i u : Nat} (h : us[i]? = some u) : ren (us.take (i + 1)) 0 = ren (us.take i) 0 ++ [(u, 100 + i)] := by
  have hi := (List.getElem?_eq_some_iff.mp h).1
  rw [take_more h]
  unfold ren
  rw [List.zipIdx_append, List.map_append, List.length_take]
  have : 0 + min i us.length = i := by omega
  rw [this]
  rfl
theorem ok_ren {f f2 f3 : Addr} {fd fd2 fd3 : FuncData} {t : Tok} (F : Fun K "renamed" "renamed" sRen f fd) (T : Blt mg) (c : mg "FIRST_UNKNOWN" = some (.int 100 t))
    (D2 : Df K mg "unknowns_of" sUnk ["facts"] f2 fd2) (G2 : FnOk P w K mg base CX0 2 f2 fd2 ["facts"] spUnk) (D3 : Df K mg "facts_under" sUnder ["mapping", "facts"] f3 fd3) (G3 : FnOk P w K mg base CX0 1 f3 fd3 ["mapping", "facts"] spUnder) :
    FnOk P w K mg base CX0 3 f fd ["facts"] spRen := by
  refine F.ok scRen (fun vs H Q E h => ?_) (fun cdv A outer s H vs Q E hr h => ?_)
  · obtain ⟨a, l, rfl, _⟩ := h
    rfl
  · obtain ⟨a, l, rfl, ha, ok, k⟩ := h
    have hu := hu_of hr
    refine ⟨_, pss_cons (ps_set (i := 1) scRen.nd rfl (.inl rfl) pe_dnewK)
      (pss_cons (ps_for PassesOwn.never rfl (pi_enum (by rfl) T.enumerate (pa_cons (pe_call G2 hr rfl D2.g D2.F.kp D2.b .nil pass0 (pa_cons (pv 0) pa_nil)) pa_nil)) (pg_tup rfl (pgs_cons (pg_name (i := 2) scRen.nd rfl (.inl rfl)) (pgs_cons (pg_name (i := 3) scRen.nd rfl (.inl rfl)) pgs_nil)))
        (pss_one (ps_dput hu (pv 1) (pv 3) (pe_op op_add (pe_glob (v := .int 100) rfl c ⟨_, rfl⟩) (pv 2)) rfl)))
      (pss_one (ps_ret (pe_call G3 (hr.mono (by decide)) rfl D3.g D3.F.kp D3.b .nil pass0 (pa_cons (pv 1) (pa_cons (pv 0) pa_nil)))))), ?_⟩
    intro d nd
    have s1 : Same H (upd H d (.dK [])) := Same.one nd
    have ll : l.length ≤ 12 := Nat.le_trans ok.len (by decide)
    refine ⟨_, rfl, a, l, rfl, ha.mono s1, ll, fun v H1 s2 z => ?_⟩
    obtain ⟨u, rfl, hu1⟩ := z
    have hd1 : H1 d = some (.dK []) := s2 _ _ upd_same
    have ud : u ≠ d := ne_of hu1 hd1 (by intro z; cases z)
    refine ⟨u, _, rfl, SqL.of hu1, for_enum (K := K) (a := u) (xs := nV (Dx.unknowns l)) (fun i σ H' => ∃ v2 v3 : Option V, σ = [some (.ref a), some (.ref d), v2, v3] ∧ Same H H' ∧ NL H' u (Dx.unknowns l) ∧ DM H' d (ren ((Dx.unknowns l).take i) 0))
      ⟨none, none, rfl, s1.trans s2, hu1, hd1⟩ (fun i σ H' _ ⟨_, _, _, _, e, _⟩ => SqL.of e) ?_ ?_⟩
    · rintro i y t2 σ H' hi ⟨v2, v3, rfl, s5, u5, d5⟩ nt
      obtain ⟨x, hx, rfl⟩ := nV_get hi
      have dt : d ≠ t2 := ne_of_none d5 nt
      have ut : u ≠ t2 := ne_of_none u5 nt
      have nk : x ∉ keys (ren ((Dx.unknowns l).take i) 0) := fun e => by
        rw [ren_keys] at e
        have nd2 := unk_nodup l
        rw [← List.take_append_drop (i + 1) (Dx.unknowns l), take_more hx] at nd2
        have := (List.nodup_append.mp (List.nodup_append.mp nd2).1).2.2 x e x (by simp)
        exact this rfl
      have hi4 : i < 4 := by
        have := (List.getElem?_eq_some_iff.mp hx).1
        have := ok.unk
        omega
      refine ⟨t2, _, rfl, SqT.of upd_same, rfl, _, _, rfl, _, _, rfl, rfl, ?_⟩
      refine ⟨_, rfl, _, _, rfl, rfl, _, rfl, _, rfl, d, _, rfl, DPut.k (k := Sum.inl (x : Int)) (by rw [upd_ne dt]; exact d5) ?_, ?_⟩
      · unfold kvM ren
        rw [List.length_map, List.length_map, List.length_zipIdx, List.length_take]
        exact Nat.lt_of_le_of_lt (Nat.min_le_left _ _) (Nat.lt_of_lt_of_le hi4 (by decide))
      · have ec : ((100 : Int) + (i : Int)) = ((100 + i : Nat) : Int) := by omega
        refine ⟨_, _, rfl, Same.new (Same.new s5 (Same.free s5 nt)) nd, ?_, ?_⟩
        · show upd _ d _ u = _
          rw [upd_ne ud, upd_ne ut]
          exact u5
        · show upd _ d _ d = _
          rw [upd_same, ren_more hx, ← putK_kvM nk, ← ec]
    · rintro σ H' ⟨v2, v3, rfl, s5, u5, d5⟩
      rw [nV_len, List.take_length] at d5
      have hm : ∀ p ∈ ren (Dx.unknowns l) 0, p.2 < 300 := fun p hp => by
        unfold ren at hp
        obtain ⟨q, hq, rfl⟩ := List.mem_map.mp hp
        have h1 := List.snd_lt_of_mem_zipIdx hq
        have h2 := ok.unk
        show 100 + q.2 < 300
        omega
      refine ⟨_, rfl, _, rfl, d, a, ren (Dx.unknowns l) 0, l, rfl, d5, ha.mono s5, ll, fun v hv => ((unk_mem l v).1 (by rw [ren_keys] at hv; exact hv)).1, fun f hf => fact_bd hm (ok.bd f hf), fun v H7 s7 z => ?_⟩
      rw [← plain_eq] at z
      obtain ⟨r, er, nr, hr7⟩ := z
      exact k _ _ (s5.trans s7) ⟨r, er, Same.free s5 nr, hr7⟩
end
end Fc

namespace Fc
open PySem PySem.Spec PyProof.Rows L2 FcS
open Dx (Fact Facts Map)
abbrev sPv : Stmt := top 44
abbrev sPm : Stmt := top 45
abbrev sLis : Stmt := top 46
abbrev sTold : Stmt := top 47
/-- a constant of the program -/
def Cst (mg : Str → Option Value) (nm : Str) (i : Int) : Prop := ∃ t : Tok, mg nm = some (.int i t)
def IL (H : Hp) (a : Addr) (zs : List Int) : Prop := H a = some (.lst (zs.map V.int))
theorem IL.mono {H H' : Hp} {a : Addr} {zs : List Int} (h : IL H a zs) (s : Same H H') : IL H' a zs := s _ _ h
def spPv : Sp := fun vs H Q _ => ∃ v : Nat, vs = [.int (v : Int)] ∧ Q (.bl (Dx03.isValue v)) H
def spPm : Sp := fun vs H Q _ => ∃ (p : Addr) (f : Fact), vs = [.ref p] ∧ H p = some (.tup (fV f)) ∧ Ret H Q fun v _ => v = .bl (decide (f.t < 2) && (Dx03.isValue f.a && Dx03.isValue f.b))
def spLis : Sp := fun vs H Q _ => ∃ (a : Addr) (l : Facts), vs = [.ref a] ∧ FA H a l ∧ l.length ≤ 6 ∧ Ret H Q fun v H' => ∃ p, v = .ref p ∧ H p = none ∧ IL H' p (Dx03Neutral.out (Dx03.told l))
def spTold : Sp := fun vs H Q _ => ∃ (v : V) (o : Option Map), vs = [v] ∧ MapV H v o ∧ (∀ m, o = some m → Asc (keys m) ∧ m.length ≤ 10) ∧ Ret H Q fun v H' => ∃ p, v = .ref p ∧ H p = none ∧ IL H' p (Dx03Neutral.out (Dx03.toldMap o))
theorem isValue_eq (v : Nat) : Dx03.isValue v = (decide ((v : Int) < 20) || (decide ((100 : Int) ≤ (v : Int)) && decide ((v : Int) ≤ 199))) := by
  unfold Dx03.isValue Dx03.VALUE Dx.UNKNOWN
  rw [Bool.eq_iff_iff]
  simp only [Bool.or_eq_true, Bool.and_eq_true, decide_eq_true_eq]
  omega
theorem in01 (t : Nat) : inV (V.int (t : Int)) [V.int 0, V.int 1] = decide (t < 2) := by
  show ((0 : Int) == (t : Int) || ((1 : Int) == (t : Int) || false)) = _
  rw [Bool.eq_iff_iff]
  simp only [Bool.or_eq_true, beq_iff_eq, Bool.false_eq_true, or_false, decide_eq_true_eq]
  omega
theorem fnd_nth : ∀ {m : Map} {i k w : Nat}, (keys m).Nodup → m[i]? = some (k, w) → fnd m k = some w
  | [], i, k, w, _, h => by simp at h
  | p :: m, 0, k, w, nd, h => by
    obtain rfl : p = (k, w) := Option.some.inj h
    rw [fnd_cons, if_pos rfl]
  | p :: m, i + 1, k, w, nd, h => by
    have h' : m[i]? = some (k, w) := h
    obtain ⟨n1, n2⟩ := List.nodup_cons.mp nd
    rw [fnd_cons, if_neg (fun e => n1 (List.mem_map.mpr ⟨_, List.mem_of_getElem? h', e.symm⟩))]
    exact fnd_nth n2 h'
theorem sorted_perm {ks ys : List Int} (pm : ys.Perm ks) (h : ks.Pairwise (· < ·)) (hy : ys.Pairwise (· ≤ ·)) : ys = ks := by
  have nd : ks.Nodup := by
    show ks.Pairwise (· ≠ ·)
    exact List.Pairwise.imp (fun {a b} h => by omega) h
  have nd2 : ys.Pairwise (· ≠ ·) := pm.nodup_iff.mpr nd
  have hy2 : ys.Pairwise (· < ·) := List.Pairwise.imp (fun {a b} h => by omega) (List.Pairwise.and hy nd2)
  exact pw_ext Int.lt_irrefl Int.lt_trans hy2 h fun x => pm.mem_iff
section
variable {P : Program} {w : World} {K : PySem.W.Frag} {mg : Str → Option Value} {base : Heap}
theorem scPv : FnScope ["value"] ["value"] (defScope sPv) := ⟨rfl, rfl, rfl, by decide +kernel, rfl, by decide +kernel, by decide +kernel⟩
theorem ok_pv {f : Addr} {fd : FuncData} (F : Fun K "is_permitted_value" "is_permitted_value" sPv f fd) (c1 : Cst mg "KNOWN_END" 20) (c2 : Cst mg "FIRST_UNKNOWN" 100) (c3 : Cst mg "LAST_UNKNOWN" 199) : FnOk P w K mg base CX0 1 f fd ["value"] spPv := by
  obtain ⟨t1, c1⟩ := c1
  obtain ⟨t2, c2⟩ := c2
  obtain ⟨t3, c3⟩ := c3
  refine F.ok scPv (fun vs H Q E h => ?_) (fun cdv A outer s H vs Q E hr h => ?_)
  · obtain ⟨n, rfl, _⟩ := h
    rfl
  · obtain ⟨n, rfl, k⟩ := h
    refine ⟨_, pss_one (ps_ret (pe_or (pe_cmpR op_lt (pv 0) (pe_glob (v := .int 20) rfl c1 ⟨_, rfl⟩) (nomark _)) (pe_one (pe_chain op_le op_le (pe_glob (v := .int 100) rfl c2 ⟨_, rfl⟩) (pv 0) (pe_glob (v := .int 199) rfl c3 ⟨_, rfl⟩))))), ?_⟩
    rw [isValue_eq] at k
    refine ⟨_, rfl, _, _, rfl, rfl, _, rfl, if_b (fun e => ?_) (fun e => ?_)⟩
    · rw [e, Bool.true_or] at k
      exact k
    · rw [e, Bool.false_or] at k
      refine ⟨_, rfl, _, _, rfl, rfl, _, rfl, if_b (fun e2 => ?_) (fun e2 => ?_)⟩
      · rw [e2, Bool.true_and] at k
        exact ⟨_, _, rfl, rfl, k⟩
      · rw [e2, Bool.false_and] at k
        exact k
theorem scPm : FnScope ["fact"] ["fact"] (defScope sPm) := ⟨rfl, rfl, rfl, by decide +kernel, rfl, by decide +kernel, by decide +kernel⟩
theorem ok_pm {f f1 : Addr} {fd fd1 : FuncData} (F : Fun K "is_permitted" "is_permitted" sPm f fd) (D1 : Df K mg "is_permitted_value" sPv ["value"] f1 fd1) (G1 : FnOk P w K mg base CX0 1 f1 fd1 ["value"] spPv) : FnOk P w K mg base CX0 2 f fd ["fact"] spPm := by
  refine F.ok scPm (fun vs H Q E h => ?_) (fun cdv A outer s H vs Q E hr h => ?_)
  · obtain ⟨p, f, rfl, _⟩ := h
    rfl
  · obtain ⟨p, f, rfl, hp, k⟩ := h
    refine ⟨_, pss_one (ps_ret (pe_and (pe_cmpR op_in_seq (pe_ix ix_tup (pv 0) pe_int (fun _ _ => rfl)) (pe_tup (pa_cons pe_int (pa_cons pe_int pa_nil))) rfl)
      (pe_and (pe_call G1 hr rfl D1.g D1.F.kp D1.b .nil pass0 (pa_cons (pe_ix ix_tup (pv 0) pe_int (fun _ _ => rfl)) pa_nil)) (pe_one (pe_call G1 hr rfl D1.g D1.F.kp D1.b .nil pass0 (pa_cons (pe_ix ix_tup (pv 0) pe_int (fun _ _ => rfl)) pa_nil)))))), ?_⟩
    refine ⟨_, rfl, p, _, 0, _, rfl, rfl, SqT.of hp, atI_nat (xs := fV f) (j := 0) rfl, by show 2 ≤ sizeLine; decide, fun t nt => ?_⟩
    have s1 : Same H (upd H t (.tup [V.int 0, V.int 1])) := Same.one nt
    have hp1 := s1 _ _ hp
    refine ⟨t, _, rfl, .inr (SqT.of upd_same), rfl, rfl, _, rfl, ?_⟩
    rw [if_neg Bool.false_ne_true, in01]
    refine if_b (fun e => ?_) (fun e => ?_)
    · rw [e] at k
      refine ⟨_, rfl, p, _, 1, _, rfl, rfl, SqT.of hp1, atI_nat (xs := fV f) (j := 1) rfl, f.a, rfl, _, rfl, if_b (fun e2 => ?_) (fun e2 => ?_)⟩
      · rw [e2] at k
        exact ⟨_, rfl, p, _, 2, _, rfl, rfl, SqT.of hp1, atI_nat (xs := fV f) (j := 2) rfl, f.b, rfl, k _ _ s1 rfl⟩
      · rw [e2] at k
        exact k _ _ s1 rfl
    · rw [e] at k
      exact k _ _ s1 rfl
theorem scLis : FnScope ["facts", "numbers", "fact"] ["facts"] (defScope sLis) := ⟨rfl, rfl, rfl, by decide +kernel, rfl, by decide +kernel, by decide +kernel⟩
def nums (l : Facts) : List Nat := l.flatMap fun f => [f.t, f.a, f.b]
theorem nums_len (l : Facts) : (nums l).length = 3 * l.length := by
  induction l with
  | nil => rfl
  | cons f l ih =>
    show ([f.t, f.a, f.b] ++ nums l).length = _
    rw [List.length_append, ih, List.length_cons]
    simp
    omega
theorem nums_more {l : Facts} {i : Nat} {f : Fact} (h : l[i]? = some f) : nums (l.take (i + 1)) = nums (l.take i) ++ [f.t, f.a, f.b] := by
  rw [take_more h]
  unfold nums
  rw [List.flatMap_append]
  simp
theorem ok_lis {f : Addr} {fd : FuncData} (F : Fun K "listed" "listed" sLis f fd) (T : Blt mg) : FnOk P w K mg base CX0 1 f fd ["facts"] spLis := by
  refine F.ok scLis (fun vs H Q E h => ?_) (fun cdv A outer s H vs Q E hr h => ?_)
  · obtain ⟨a, l, rfl, _⟩ := h
    rfl
  · obtain ⟨a, l, rfl, ha, hn, k⟩ := h
    refine ⟨_, pss_cons (ps_set (i := 1) scLis.nd rfl (.inl rfl) (pe_lst (pa_cons (pe_callB call_len_seq (by rfl) T.len PySem.boot_len (pa_cons (pv 0) pa_nil)) pa_nil)))
      (pss_cons (ps_for PassesOwn.never rfl (pi_list (pv 0)) (pg_name (i := 2) scLis.nd rfl (.inl rfl))
        (pss_one (ps_expr (pe_bm PySem.F.plainAttrs_list PySem.F.slot_list_extend PySem.F.type_list_extend mt_extT (pv 1) (pa_cons (pv 2) pa_nil)))))
      (pss_one (ps_ret (pv 1)))), ?_⟩
    obtain ⟨qs, q1, q2, q3⟩ := ha.lst
    refine ⟨_, rfl, a, _, rfl, .inl (SqL.of q1), by show 1 ≤ sizeLine; decide, fun p np => ?_⟩
    rw [List.length_map, q2]
    have s1 : Same H (upd H p (.lst [V.int (l.length : Int)])) := Same.one np
    refine ⟨_, rfl, a, rfl, ⟨_, SqL.of (s1 _ _ q1)⟩, for_list (K := K) (a := a) (xs := qs.map fun q => V.ref q.1) (fun i σ H' => ∃ v : Option V, σ = [some (.ref a), some (.ref p), v] ∧ Same H H' ∧ NL H' p (l.length :: nums (l.take i)))
      ⟨none, rfl, s1, by show upd _ p _ p = _; rw [upd_same]; rfl⟩ (fun i σ H' _ ⟨_, _, s5, _⟩ => SqL.of (s5 _ _ q1)) ?_ ?_⟩
    · rintro i y σ H' hi ⟨v, rfl, s5, n5⟩
      obtain ⟨t, x, rfl, hx, hli, _⟩ := q3 i y hi
      have hx5 := s5 _ _ hx
      refine ⟨_, rfl, .inl ⟨rfl, _, SqL.of n5⟩, _, rfl, p, t, _, _, rfl, rfl, n5, SqT.of hx5, ?_, ?_⟩
      · rw [nV_len, List.length_cons, nums_len, List.length_take]
        exact Nat.le_trans (show 3 * min i l.length + 1 + 3 ≤ 30 by omega) (by decide)
      · refine ⟨_, rfl, Same.new s5 np, ?_⟩
        show upd _ p _ p = _
        rw [upd_same, nums_more hli]
        show _ = some (HO.lst (V.int _ :: nV _))
        rw [nV_app]
        rfl
    · rintro σ H' ⟨v, rfl, s5, n5⟩
      rw [List.length_map, q2, List.take_length] at n5
      exact ⟨_, rfl, k _ _ s5 ⟨p, rfl, np, n5⟩⟩
theorem scTold : FnScope ["mapping", "numbers", "value"] ["mapping"] (defScope sTold) := ⟨rfl, rfl, rfl, by decide +kernel, rfl, by decide +kernel, by decide +kernel⟩
def prs (m : Map) : List Nat := m.flatMap fun p => [p.1, p.2]
theorem prs_len (m : Map) : (prs m).length = 2 * m.length := by
  induction m with
  | nil => rfl
  | cons f l ih =>
    show ([f.1, f.2] ++ prs l).length = _
    rw [List.length_append, ih, List.length_cons]
    simp
    omega
theorem prs_more {m : Map} {i : Nat} {p : Nat × Nat} (h : m[i]? = some p) : prs (m.take (i + 1)) = prs (m.take i) ++ [p.1] ++ [p.2] := by
  rw [take_more h]
  unfold prs
  rw [List.flatMap_append]
  simp
theorem ok_told {f : Addr} {fd : FuncData} (F : Fun K "told" "told" sTold f fd) (T : Blt mg) : FnOk P w K mg base CX0 1 f fd ["mapping"] spTold := by
  refine F.ok scTold (fun vs H Q E h => ?_) (fun cdv A outer s H vs Q E hr h => ?_)
  · obtain ⟨v, o, rfl, _⟩ := h
    rfl
  · obtain ⟨v, o, rfl, hv, ho, k⟩ := h
    have hu := hu_of hr
    refine ⟨_, pss_cons (ps_if (pt_cmpR op_isN (pv 0) pe_non (nomark _)) (pss_one (ps_ret (pe_lst (pa_cons pe_int pa_nil)))) pss_nil)
      (pss_cons (ps_set (i := 1) scTold.nd rfl (.inl rfl) (pe_lst (pa_cons pe_int pa_nil)))
      (pss_cons (ps_for PassesOwn.never rfl (pi_list (pe_callB (call_sortedDI rfl) (by rfl) T.sorted (by decide +kernel) (pa_cons (pv 0) pa_nil))) (pg_name (i := 2) scTold.nd rfl (.inl rfl))
        (pss_cons (ps_expr (pe_bm PySem.F.plainAttrs_list PySem.F.slot_list_append PySem.F.type_list_append mt_append (pv 1) (pa_cons (pv 2) pa_nil)))
        (pss_one (ps_expr (pe_bm PySem.F.plainAttrs_list PySem.F.slot_list_append PySem.F.type_list_append mt_append (pv 1) (pa_cons (pe_dget hu (pv 0) (pv 2) (fun _ _ => rfl)) pa_nil))))))
      (pss_one (ps_ret (pv 1))))), ?_⟩
    cases o with
    | none =>
      obtain rfl : v = .non := hv
      refine ⟨_, rfl, rfl, _, rfl, if_t (by decide) ?_⟩
      exact ⟨by show 1 ≤ sizeLine; decide, fun p np => k _ _ (Same.one np) ⟨p, rfl, np, upd_same⟩⟩
    | some m =>
      obtain ⟨d, rfl, hd⟩ := hv
      obtain ⟨asc, lm⟩ := ho m rfl
      refine ⟨_, rfl, rfl, _, rfl, if_f (by simp) ?_⟩
      refine ⟨by show 1 ≤ sizeLine; decide, fun p np => ?_⟩
      have s1 : Same H (upd H p (.lst [V.int 1])) := Same.one np
      have hk : (kvM m).map (·.1) = (cs (keys m)).map Sum.inl := by
        unfold kvM cs keys
        rw [List.map_map, List.map_map, List.map_map]
        rfl
      refine ⟨_, rfl, d, kvM m, cs (keys m), rfl, .inl (s1 _ _ hd), hk, by rw [List.length_map, List.length_map]; omega, fun ys r pm so nr => ?_⟩
      obtain rfl : ys = cs (keys m) := sorted_perm pm (List.pairwise_map.mpr (List.Pairwise.imp (fun {a b} h => Int.ofNat_lt.mpr h) asc)) so
      have nr0 := Same.free s1 nr
      have pr : p ≠ r := ne_of_none (upd_same (H := H)) nr
      have s2 : Same H (upd (upd H p (.lst [V.int 1])) r (.lst (nV (keys m)))) := Same.new s1 nr0
      refine ⟨r, rfl, ⟨_, SqL.of upd_same⟩, for_list (K := K) (a := r) (xs := nV (keys m)) (fun i σ H' => ∃ v : Option V, σ = [some (.ref d), some (.ref p), v] ∧ Same H H' ∧ NL H' r (keys m) ∧ NL H' p (1 :: prs (m.take i)))
        ⟨none, rfl, s2, upd_same, by show upd _ r _ p = _; rw [upd_ne pr, upd_same]; rfl⟩ (fun i σ H' _ ⟨_, _, _, e, _⟩ => SqL.of e) ?_ ?_⟩
      · rintro i y σ H' hi ⟨v, rfl, s5, r5, n5⟩
        obtain ⟨x, hx, rfl⟩ := nV_get hi
        obtain ⟨w0, ew⟩ : ∃ w0, m[i]? = some (x, w0) := by
          unfold keys at hx
          rw [List.getElem?_map] at hx
          cases e : m[i]? with
          | none => rw [e] at hx; cases hx
          | some q =>
            rw [e] at hx
            obtain rfl : q.1 = x := Option.some.inj hx
            exact ⟨q.2, rfl⟩
        have fx := fnd_nth (asc_nodup asc) ew
        have hd5 : H' d = some (.dK (kvM m)) := s5 _ _ hd
        have dp : d ≠ p := ne_of_none hd np
        have len5 : (nV (1 :: prs (m.take i))).length < 30 := by
          rw [nV_len, List.length_cons, prs_len, List.length_take]
          omega
        refine ⟨_, rfl, .inl ⟨rfl, _, SqL.of n5⟩, _, rfl, p, _, _, rfl, rfl, n5, Nat.lt_of_lt_of_le len5 (by decide), ?_⟩
        refine ⟨_, rfl, .inl ⟨rfl, _, SqL.of upd_same⟩, _, rfl, _, rfl, d, V.int (w0 : Int), rfl, ?_, p, _, _, rfl, rfl, upd_same, (by rw [List.length_append]; exact Nat.lt_of_lt_of_le (Nat.add_lt_add_right len5 1) (by decide)), ?_⟩
        · have g := DGet.k (H := upd H' p (.lst (nV (1 :: prs (m.take i)) ++ [V.int (x : Int)]))) (k := Sum.inl (x : Int)) (by rw [upd_ne dp]; exact hd5)
          rw [valV_kvM, fx] at g
          exact g
        · refine ⟨_, rfl, Same.new (Same.new s5 np) np, ?_, ?_⟩
          · show upd _ p _ r = _
            rw [upd_ne (Ne.symm pr), upd_ne (Ne.symm pr)]
            exact r5
          · show upd _ p _ p = _
            rw [upd_same, prs_more ew]
            show _ = some (HO.lst (V.int _ :: nV _))
            rw [nV_app, nV_app]
            rfl
      · rintro σ H' ⟨v, rfl, s5, r5, n5⟩
        rw [nV_len, List.length_map, List.take_length] at n5
        exact ⟨_, rfl, k _ _ s5 ⟨p, rfl, np, n5⟩⟩
end
end Fc

namespace Fc
open PySem PySem.Spec PyProof.Rows L2 FcS
open Dx (Fact Facts Map)
open Dx03 (House)
abbrev sInit : Stmt := inClass (top 48) 0
abbrev sBegins : Stmt := inClass (top 48) 1
abbrev sFact : Stmt := inClass (top 48) 2
abbrev sGone : Stmt := inClass (top 48) 3
abbrev sFacts : Stmt := inClass (top 48) 4
abbrev sCoreM : Stmt := inClass (top 48) 5
abbrev sSpare : Stmt := inClass (top 48) 6
abbrev sInto : Stmt := inClass (top 48) 7
abbrev sSame : Stmt := inClass (top 48) 8
abbrev sAlike : Stmt := inClass (top 48) 9
abbrev sKeep : Stmt := inClass (top 48) 10
/-! ### the object in the heap -/
def hF (h : Addr) : List (Str × V) := [("held", V.ref h)]
theorem lk_here {k : Str} {v : V} {r : List (Str × V)} : List.lookup k ((k, v) :: r) = some v := by
  have e : (k == k) = true := beq_self_eq_true k
  simp only [List.lookup, e]
theorem lk_past {k g : Str} {v : V} {r : List (Str × V)} (h : (k == g) = false) : List.lookup k ((g, v) :: r) = List.lookup k r := by
  simp only [List.lookup, h]
theorem hF_held (h : Addr) : (hF h).lookup ("held" : Str) = some (V.ref h) := lk_here
theorem hF_no (h : Addr) {m : Str} (e : (m == ("held" : Str)) = false) : (hF h).lookup m = none := (lk_past e).trans rfl
theorem hF_put (h g : Addr) : putF "held" (V.ref g) (hF h) = hF g := if_pos rfl
/-- R tells of places that are none of the object's -/
def StoresAt (C : Addr) (R : Addr → Prop) (H : Hp) (p : Addr) (S : House) : Prop := ∃ dx h a0 a1, H p = some (.ins C dx (hF h)) ∧ H h = some (.lst [V.ref a0, V.ref a1]) ∧ FA H a0 S.one ∧ FA H a1 S.two ∧ ¬ R h ∧ ¬ R a0 ∧ ¬ R a1
/-- all else stands: but the object and its list of stores -/
def Keep (H H' : Hp) (p : Addr) : Prop := ∀ b o, H b = some o → b ≠ p → (∀ x y, o ≠ .lst [V.ref x, V.ref y]) → H' b = some o
theorem Keep.of {H H' : Hp} {p : Addr} (s : Same H H') : Keep H H' p := fun b o e _ _ => s b o e
theorem Keep.trans {H H1 H2 : Hp} {p : Addr} (a : Keep H H1 p) (b : Keep H1 H2 p) : Keep H H2 p := fun c o h hp hn => b c o (a c o h hp hn) hp hn
theorem StoresAt.mono {C : Addr} {R : Addr → Prop} {H H' : Hp} {p : Addr} {S : House} (h : StoresAt C R H p S) (s : Same H H') : StoresAt C R H' p S := by
  obtain ⟨dx, g, a0, a1, h1, h2, h3, h4, h5⟩ := h
  exact ⟨dx, g, a0, a1, s _ _ h1, s _ _ h2, h3.mono s, h4.mono s, h5⟩
theorem FA.off {H : Hp} {a h x y : Addr} {l lx : Facts} (ha : FA H a l) (hh : H h = some (.lst [V.ref x, V.ref y])) (hx : FA H x lx) : a ≠ h := by
  rintro rfl
  obtain ⟨qs, q1, q2, q3⟩ := ha
  rw [hh] at q1
  match qs, q1, q2 with
  | [], q1, _ => simp at q1
  | q :: r, q1, q2 =>
    have e : x = q.1 := by simp at q1; exact q1.1
    have := q2 q List.mem_cons_self
    obtain ⟨ps, p1, _⟩ := hx
    rw [← e, p1] at this
    cases this
theorem FA.upd {H : Hp} {a h x y : Addr} {l lx : Facts} {o : HO} (ha : FA H a l) (hh : H h = some (.lst [V.ref x, V.ref y])) (hx : FA H x lx) : FA (upd H h o) a l := by
  have n := ha.off hh hx
  obtain ⟨qs, q1, q2, q3⟩ := ha
  exact ⟨qs, by rw [upd_ne n]; exact q1, fun q hq => by rw [upd_ne (ne_of (q2 q hq) hh (by intro z; cases z))]; exact q2 q hq, q3⟩
theorem StoresAt.at {C : Addr} {R : Addr → Prop} {H : Hp} {p : Addr} {S : House} (h : StoresAt C R H p S) {k : Nat} (hk : k ≤ 1) : ∃ dx g a b a0 a1, H p = some (.ins C dx (hF g)) ∧ H g = some (.lst [V.ref a0, V.ref a1]) ∧ [V.ref a0, V.ref a1][k]? = some (V.ref a) ∧ FA H a (S.get k) ∧
    [V.ref a0, V.ref a1][1 - k]? = some (V.ref b) ∧ FA H b (S.get (1 - k)) ∧ FA H a0 S.one ∧ FA H a1 S.two ∧ ¬ R g ∧ ¬ R a0 ∧ ¬ R a1 := by
  obtain ⟨dx, g, a0, a1, h1, h2, h3, h4, h5⟩ := h
  match k, hk with
  | 0, _ => exact ⟨dx, g, a0, a1, a0, a1, h1, h2, rfl, h3, rfl, h4, h3, h4, h5⟩
  | 1, _ => exact ⟨dx, g, a1, a0, a0, a1, h1, h2, rfl, h4, rfl, h3, h3, h4, h5⟩
theorem StoresAt.put {C : Addr} {R : Addr → Prop} {H : Hp} {p : Addr} {S : House} {dx g a0 a1 b : Addr} {l : Facts} (h1 : H p = some (.ins C dx (hF g))) (h2 : H g = some (.lst [V.ref a0, V.ref a1])) (h3 : FA H a0 S.one) (h4 : FA H a1 S.two) {k : Nat} (hk : k ≤ 1) (hb : FA H b l) (hR : ¬ R g ∧ ¬ R a0 ∧ ¬ R a1) (hRb : ¬ R b) :
    StoresAt C R (L2.upd H g (.lst ([V.ref a0, V.ref a1].set k (V.ref b)))) p (S.set k l) ∧ Keep H (L2.upd H g (.lst ([V.ref a0, V.ref a1].set k (V.ref b)))) p := by
  have pg : p ≠ g := ne_of h1 h2 (by intro z; cases z)
  have hp : ∀ o, L2.upd H g o p = some (.ins C dx (hF g)) := fun o => by rw [upd_ne pg]; exact h1
  refine ⟨?_, fun c o e cp cn => ?_⟩
  · match k, hk with
    | 0, _ => exact ⟨dx, g, b, a1, hp _, upd_same, hb.upd h2 h3, h4.upd h2 h3, hR.1, hRb, hR.2.2⟩
    | 1, _ => exact ⟨dx, g, a0, b, hp _, upd_same, h3.upd h2 h3, hb.upd h2 h3, hR.1, hR.2.1, hRb⟩
  · have : c ≠ g := fun z => by rw [z, h2] at e; exact cn _ _ (Option.some.inj e).symm
    rw [upd_ne this]
    exact e
/-- what a store's state may be -/
def Hok (S : House) : Prop := Ok S.one ∧ Ok S.two
theorem Hok.get {S : House} (h : Hok S) (k : Nat) : Ok (S.get k) := by
  unfold House.get
  split
  · exact h.1
  · exact h.2
theorem Hok.set {S : House} (h : Hok S) (k : Nat) {l : Facts} (hl : Ok l) : Hok (S.set k l) := by
  unfold House.set
  split
  · exact ⟨hl, h.2⟩
  · exact ⟨h.1, hl⟩
theorem ok_empty : Ok [] := ⟨.nil, fun f hf => (by cases hf), Nat.zero_le _, Nat.zero_le _⟩
theorem Ok.one {l : Facts} (h : Ok l) : l.length ≤ 12 := Nat.le_trans h.len (by decide)
/-- the answer zs, the state S' -/
def RetS (C : Addr) (R : Addr → Prop) (H : Hp) (Q : VK) (p : Addr) (S' : House) (zs : List Int) : Prop := ∀ (r : Addr) (H2 : Hp), H r = none → Keep H H2 p → StoresAt C R H2 p S' → IL H2 r zs → Q (.ref r) H2
structure Txt (K : PySem.W.Frag) (C : Addr) : Prop where
  cl : Cls K C
  nH : NoAttr K C "held"
def spInit (C : Addr) : Sp := fun vs H Q _ => ∃ (p dx : Addr), vs = [.ref p] ∧ H p = some (.ins C dx []) ∧ ∀ H' : Hp, StoresAt C (fun _ => False) H' p Dx03.init → (∀ b o, H b = some o → b ≠ p → H' b = some o) → Q .non H'
def spBegins (C : Addr) : Sp := fun vs H Q _ => ∃ (R : Addr → Prop) (p : Addr) (S : House), vs = [.ref p] ∧ StoresAt C R H p S ∧ (∀ b, R b → H b ≠ none) ∧ RetS C R H Q p Dx03.init [0]
/-- a call that names a store -/
def spOn (C : Addr) (call : Nat → Dx03.Call) : Sp := fun vs H Q _ => ∃ (R : Addr → Prop) (p : Addr) (k : Nat) (S : House), vs = [.ref p, .int (k : Int)] ∧ StoresAt C R H p S ∧ (∀ b, R b → H b ≠ none) ∧ Hok S ∧ k ≤ 1 ∧ RetS C R H Q p (Dx03.step S (call k)).1 (Dx03Neutral.out (Dx03.step S (call k)).2)
/-- a call that names a store and a fact -/
def spOf (C : Addr) (call : Nat → Nat → Nat → Nat → Dx03.Call) : Sp := fun vs H Q _ => ∃ (R : Addr → Prop) (p q : Addr) (k : Nat) (S : House) (f : Fact), vs = [.ref p, .int (k : Int), .ref q] ∧ StoresAt C R H p S ∧ (∀ b, R b → H b ≠ none) ∧ Hok S ∧ k ≤ 1 ∧ H q = some (.tup (fV f)) ∧
  RetS C R H Q p (Dx03.step S (call k f.t f.a f.b)).1 (Dx03Neutral.out (Dx03.step S (call k f.t f.a f.b)).2)
def spNo (C : Addr) (call : Dx03.Call) : Sp := fun vs H Q _ => ∃ (R : Addr → Prop) (p : Addr) (S : House), vs = [.ref p] ∧ StoresAt C R H p S ∧ (∀ b, R b → H b ≠ none) ∧ Hok S ∧ RetS C R H Q p (Dx03.step S call).1 (Dx03Neutral.out (Dx03.step S call).2)
theorem upd_no {H : Hp} {a r : Addr} {o : HO} (h : upd H a o r = none) : H r = none := by
  unfold upd at h
  split at h
  · cases h
  · exact h
theorem le1 {k : Nat} (h : k ≤ 1) : ¬ 1 < k := by omega
section
variable {P : Program} {w : World} {K : PySem.W.Frag} {mg : Str → Option Value} {base : Heap} {C : Addr}
theorem scInit : FnScope ["self"] ["self"] (defScope sInit) := ⟨rfl, rfl, rfl, by decide +kernel, rfl, by decide +kernel, by decide +kernel⟩
theorem ok_init {f : Addr} {fd : FuncData} (F : Fun K "__init__" "Stores.__init__" sInit f fd) (T : Txt K C) : FnOk P w K mg base CX0 1 f fd ["self"] (spInit C) := by
  refine F.ok scInit (fun vs H Q E h => ?_) (fun cdv A outer s H vs Q E hr h => ?_)
  · obtain ⟨p, dx, rfl, _⟩ := h
    rfl
  · obtain ⟨p, dx, rfl, hp, k⟩ := h
    refine ⟨_, pss_one (ps_fld (pv 0) (pe_lst (pa_cons (pe_lst pa_nil) (pa_cons (pe_lst pa_nil) pa_nil))) rfl), ?_⟩
    refine ⟨Nat.zero_le _, fun a0 n0 => ⟨Nat.zero_le _, fun a1 n1 => ⟨by show 2 ≤ sizeLine; decide, fun g ng => ?_⟩⟩⟩
    have s0 : Same H (upd H a0 (.lst [])) := Same.one n0
    have s1 : Same (upd H a0 (.lst [])) (upd (upd H a0 (.lst [])) a1 (.lst [])) := Same.one n1
    have s2 : Same (upd (upd H a0 (.lst [])) a1 (.lst [])) (upd (upd (upd H a0 (.lst [])) a1 (.lst [])) g (.lst [V.ref a0, V.ref a1])) := Same.one ng
    have s := (s0.trans s1).trans s2
    have hp3 := s _ _ hp
    refine ⟨_, rfl, p, C, dx, _, rfl, hp3, T.cl, T.nH, (by show 0 < 1000; decide), ?_⟩
    have p0 : a0 ≠ p := Ne.symm (ne_of_none hp n0)
    have p1 : a1 ≠ p := Ne.symm (ne_of_none (s0 _ _ hp) n1)
    have pg : g ≠ p := Ne.symm (ne_of_none ((s0.trans s1) _ _ hp) ng)
    refine k _ ⟨dx, g, a0, a1, upd_same, ?_, ⟨[], ?_, by simp, rfl⟩, ⟨[], ?_, by simp, rfl⟩, id, id, id⟩ fun b o e hb => ?_
    · rw [upd_ne pg, upd_same]
    · rw [upd_ne p0]
      exact s2 _ _ (s1 _ _ upd_same)
    · rw [upd_ne p1]
      exact s2 _ _ upd_same
    · rw [upd_ne hb]
      exact s _ _ e
theorem scBegins : FnScope ["self"] ["self"] (defScope sBegins) := ⟨rfl, rfl, rfl, by decide +kernel, rfl, by decide +kernel, by decide +kernel⟩
theorem ok_begins {f : Addr} {fd : FuncData} (F : Fun K "begins" "Stores.begins" sBegins f fd) (T : Txt K C) : FnOk P w K mg base CX0 1 f fd ["self"] (spBegins C) := by
  refine F.ok scBegins (fun vs H Q E h => ?_) (fun cdv A outer s H vs Q E hr h => ?_)
  · obtain ⟨R, p, S, rfl, _⟩ := h
    rfl
  · obtain ⟨R, p, S, rfl, ⟨dx, g0, b0, b1, hp, hg0, _, _⟩, hR, k⟩ := h
    refine ⟨_, pss_cons (ps_fld (pv 0) (pe_lst (pa_cons (pe_lst pa_nil) (pa_cons (pe_lst pa_nil) pa_nil))) rfl) (pss_one (ps_ret (pe_lst (pa_cons pe_int pa_nil)))), ?_⟩
    refine ⟨Nat.zero_le _, fun a0 n0 => ⟨Nat.zero_le _, fun a1 n1 => ⟨by show 2 ≤ sizeLine; decide, fun g ng => ?_⟩⟩⟩
    have s0 : Same H (upd H a0 (.lst [])) := Same.one n0
    have s1 : Same (upd H a0 (.lst [])) (upd (upd H a0 (.lst [])) a1 (.lst [])) := Same.one n1
    have s2 : Same (upd (upd H a0 (.lst [])) a1 (.lst [])) (upd (upd (upd H a0 (.lst [])) a1 (.lst [])) g (.lst [V.ref a0, V.ref a1])) := Same.one ng
    have s := (s0.trans s1).trans s2
    have hp3 := s _ _ hp
    refine ⟨_, rfl, p, C, dx, _, rfl, hp3, T.cl, T.nH, (by show 1 < 1000; decide), ?_⟩
    have p0 : a0 ≠ p := Ne.symm (ne_of_none hp n0)
    have p1 : a1 ≠ p := Ne.symm (ne_of_none (s0 _ _ hp) n1)
    have pg : g ≠ p := Ne.symm (ne_of_none ((s0.trans s1) _ _ hp) ng)
    rw [hF_put]
    have st : StoresAt C R (upd (upd (upd (upd H a0 (.lst [])) a1 (.lst [])) g (.lst [V.ref a0, V.ref a1])) p (.ins C dx (hF g))) p Dx03.init := by
      refine ⟨dx, g, a0, a1, upd_same, ?_, ⟨[], ?_, by simp, rfl⟩, ⟨[], ?_, by simp, rfl⟩, fun z => hR _ z (Same.free (s0.trans s1) ng), fun z => hR _ z n0, fun z => hR _ z (Same.free s0 n1)⟩
      · rw [upd_ne pg, upd_same]
      · rw [upd_ne p0]
        exact s2 _ _ (s1 _ _ upd_same)
      · rw [upd_ne p1]
        exact s2 _ _ upd_same
    refine ⟨by show 1 ≤ sizeLine; decide, fun r nr => ?_⟩
    have s4 := Same.one (o := .lst [V.int 0]) nr
    refine k r _ (Same.free s (upd_no nr)) (Keep.trans (fun b o e hb _ => ?_) (Keep.of s4)) (st.mono s4) upd_same
    rw [upd_ne hb]
    exact s _ _ e
theorem scFacts : FnScope ["self", "store"] ["self", "store"] (defScope sFacts) := ⟨rfl, rfl, rfl, by decide +kernel, rfl, by decide +kernel, by decide +kernel⟩
theorem ok_facts {f f1 : Addr} {fd fd1 : FuncData} (F : Fun K "facts" "Stores.facts" sFacts f fd) (T : Txt K C) (D1 : Df K mg "listed" sLis ["facts"] f1 fd1) (G1 : FnOk P w K mg base CX0 1 f1 fd1 ["facts"] spLis) :
    FnOk P w K mg base CX0 2 f fd ["self", "store"] (spOn C Dx03.Call.facts) := by
  refine F.ok scFacts (fun vs H Q E h => ?_) (fun cdv A outer s H vs Q E hr h => ?_)
  · obtain ⟨R, p, k, S, rfl, _⟩ := h
    rfl
  · obtain ⟨R, p, n, S, rfl, st, hR, ok, hn, k⟩ := h
    refine ⟨_, pss_one (ps_ret (pe_call G1 hr rfl D1.g D1.F.kp D1.b .nil pass0 (pa_cons (pe_ix ix_list (pe_fld (pv 0) rfl) (pv 1) (fun _ _ => rfl)) pa_nil))), ?_⟩
    obtain ⟨dx, g, a, b, a0, a1, hp, hg, ea, fa, _, _, _, _⟩ := st.at hn
    refine ⟨_, rfl, p, C, dx, _, _, rfl, hp, T.cl, T.nH, hF_held g, _, rfl, g, _, _, _, rfl, rfl, SqL.of hg, atI_nat ea, a, _, rfl, fa, (ok.get n).len, fun v H1 s1 z => ?_⟩
    obtain ⟨r, rfl, nr, hrr⟩ := z
    have e : Dx03.step S (.facts n) = (S, Dx03.told (S.get n)) := if_neg (le1 hn)
    rw [e] at k
    exact k r _ nr (Keep.of s1) (st.mono s1) hrr
theorem scCoreM : FnScope ["self", "store"] ["self", "store"] (defScope sCoreM) := ⟨rfl, rfl, rfl, by decide +kernel, rfl, by decide +kernel, by decide +kernel⟩
theorem ok_coreM {f f1 f2 : Addr} {fd fd1 fd2 : FuncData} (F : Fun K "core" "Stores.core" sCoreM f fd) (T : Txt K C) (D1 : Df K mg "listed" sLis ["facts"] f1 fd1) (G1 : FnOk P w K mg base CX0 1 f1 fd1 ["facts"] spLis)
    (D2 : Df K mg "core_of" sCore ["facts"] f2 fd2) (G2 : FnOk P w K mg base CX0 13 f2 fd2 ["facts"] spCore) : FnOk P w K mg base CX0 14 f fd ["self", "store"] (spOn C Dx03.Call.core) := by
  refine F.ok scCoreM (fun vs H Q E h => ?_) (fun cdv A outer s H vs Q E hr h => ?_)
  · obtain ⟨R, p, k, S, rfl, _⟩ := h
    rfl
  · obtain ⟨R, p, n, S, rfl, st, hR, ok, hn, k⟩ := h
    refine ⟨_, pss_one (ps_ret (pe_call G1 (hr.mono (by decide)) rfl D1.g D1.F.kp D1.b .nil pass0 (pa_cons (pe_call G2 hr rfl D2.g D2.F.kp D2.b .nil pass0 (pa_cons (pe_ix ix_list (pe_fld (pv 0) rfl) (pv 1) (fun _ _ => rfl)) pa_nil)) pa_nil))), ?_⟩
    obtain ⟨dx, g, a, b, a0, a1, hp, hg, ea, fa, _, _, _, _⟩ := st.at hn
    refine ⟨_, rfl, p, C, dx, _, _, rfl, hp, T.cl, T.nH, hF_held g, _, rfl, g, _, _, _, rfl, rfl, SqL.of hg, atI_nat ea, a, _, rfl, fa, ok.get n, fun v H1 s1 z => ?_⟩
    obtain ⟨c, rfl, hc⟩ := z
    refine ⟨c, _, rfl, hc, (Ok.core _ (Nat.le_refl _) (ok.get n)).1.len, fun v H2 s2 z => ?_⟩
    obtain ⟨r, rfl, nr, hrr⟩ := z
    have e : Dx03.step S (.core n) = (S, Dx03.told (Dx03.core (S.get n))) := if_neg (le1 hn)
    rw [e] at k
    have s12 := s1.trans s2
    exact k r _ (Same.free s1 nr) (Keep.of s12) (st.mono s12) hrr
theorem scSpare : FnScope ["self", "store"] ["self", "store"] (defScope sSpare) := ⟨rfl, rfl, rfl, by decide +kernel, rfl, by decide +kernel, by decide +kernel⟩
theorem ok_spare {f f1 f2 : Addr} {fd fd1 fd2 : FuncData} (F : Fun K "spare" "Stores.spare" sSpare f fd) (T : Txt K C) (D1 : Df K mg "listed" sLis ["facts"] f1 fd1) (G1 : FnOk P w K mg base CX0 1 f1 fd1 ["facts"] spLis)
    (D2 : Df K mg "redundant_facts" sRed ["facts"] f2 fd2) (G2 : FnOk P w K mg base CX0 13 f2 fd2 ["facts"] spRed) : FnOk P w K mg base CX0 14 f fd ["self", "store"] (spOn C Dx03.Call.spare) := by
  refine F.ok scSpare (fun vs H Q E h => ?_) (fun cdv A outer s H vs Q E hr h => ?_)
  · obtain ⟨R, p, k, S, rfl, _⟩ := h
    rfl
  · obtain ⟨R, p, n, S, rfl, st, hR, ok, hn, k⟩ := h
    refine ⟨_, pss_one (ps_ret (pe_call G1 (hr.mono (by decide)) rfl D1.g D1.F.kp D1.b .nil pass0 (pa_cons (pe_call G2 hr rfl D2.g D2.F.kp D2.b .nil pass0 (pa_cons (pe_ix ix_list (pe_fld (pv 0) rfl) (pv 1) (fun _ _ => rfl)) pa_nil)) pa_nil))), ?_⟩
    obtain ⟨dx, g, a, b, a0, a1, hp, hg, ea, fa, _, _, _, _⟩ := st.at hn
    refine ⟨_, rfl, p, C, dx, _, _, rfl, hp, T.cl, T.nH, hF_held g, _, rfl, g, _, _, _, rfl, rfl, SqL.of hg, atI_nat ea, a, _, rfl, fa, ok.get n, fun v H1 s1 z => ?_⟩
    obtain ⟨c, rfl, hc⟩ := z
    refine ⟨c, _, rfl, hc, Nat.le_trans (List.length_filter_le _ _) (ok.get n).len, fun v H2 s2 z => ?_⟩
    obtain ⟨r, rfl, nr, hrr⟩ := z
    have e : Dx03.step S (.spare n) = (S, Dx03.told ((S.get n).filter (Dx03.spare (S.get n)))) := if_neg (le1 hn)
    rw [e] at k
    have s12 := s1.trans s2
    exact k r _ (Same.free s1 nr) (Keep.of s12) (st.mono s12) hrr
theorem scInto : FnScope ["self", "store"] ["self", "store"] (defScope sInto) := ⟨rfl, rfl, rfl, by decide +kernel, rfl, by decide +kernel, by decide +kernel⟩
theorem ok_into {f f1 f2 : Addr} {fd fd1 fd2 : FuncData} (F : Fun K "into_other" "Stores.into_other" sInto f fd) (T : Txt K C) (D1 : Df K mg "told" sTold ["mapping"] f1 fd1) (G1 : FnOk P w K mg base CX0 1 f1 fd1 ["mapping"] spTold)
    (D2 : Df K mg "first_mapping" sFM ["facts", "goals"] f2 fd2) (G2 : FnOk P w K mg base CX0 11 f2 fd2 ["facts", "goals"] spFM) : FnOk P w K mg base CX0 12 f fd ["self", "store"] (spOn C Dx03.Call.map) := by
  refine F.ok scInto (fun vs H Q E h => ?_) (fun cdv A outer s H vs Q E hr h => ?_)
  · obtain ⟨R, p, k, S, rfl, _⟩ := h
    rfl
  · obtain ⟨R, p, n, S, rfl, st, hR, ok, hn, k⟩ := h
    refine ⟨_, pss_one (ps_ret (pe_call G1 (hr.mono (by decide)) rfl D1.g D1.F.kp D1.b .nil pass0 (pa_cons (pe_call G2 hr rfl D2.g D2.F.kp D2.b .nil pass0
      (pa_cons (pe_ix ix_list (pe_fld (pv 0) rfl) (pv 1) (fun _ _ => rfl)) (pa_cons (pe_ix ix_list (pe_fld (pv 0) rfl) (pe_op op_sub pe_int (pv 1)) (fun _ _ => rfl)) pa_nil))) pa_nil))), ?_⟩
    obtain ⟨dx, g, a, b, a0, a1, hp, hg, ea, fa, eb, fb, _, _⟩ := st.at hn
    have e1 : (1 : Int) - (n : Int) = ((1 - n : Nat) : Int) := by omega
    refine ⟨_, rfl, p, C, dx, _, _, rfl, hp, T.cl, T.nH, hF_held g, _, rfl, g, _, _, _, rfl, rfl, SqL.of hg, atI_nat ea, _, rfl, p, C, dx, _, _, rfl, hp, T.cl, T.nH, hF_held g, _, rfl, _, _, rfl, rfl, g, _, _, _, rfl, rfl, SqL.of hg, at_of e1 eb,
      a, b, _, _, rfl, fa, fb, (ok.get n).one, (ok.get n).unk, (ok.get (1 - n)).one, fun v H1 s1 z => ?_⟩
    refine ⟨v, _, rfl, z, fun m hm => ?_, fun v H2 s2 z => ?_⟩
    · obtain ⟨i1, _, _⟩ := map_inv hm
      refine ⟨by rw [i1]; exact unk_asc _, ?_⟩
      have := congrArg List.length i1
      rw [List.length_map] at this
      have := (ok.get n).unk
      omega
    · obtain ⟨r, rfl, nr, hrr⟩ := z
      have e : Dx03.step S (.map n) = (S, Dx03.toldMap (Dx.map? (S.get n) (S.get (1 - n)))) := if_neg (le1 hn)
      rw [e] at k
      have s12 := s1.trans s2
      exact k r _ (Same.free s1 nr) (Keep.of s12) (st.mono s12) hrr
theorem scSame : FnScope ["self"] ["self"] (defScope sSame) := ⟨rfl, rfl, rfl, by decide +kernel, rfl, by decide +kernel, by decide +kernel⟩
theorem ok_same {f f2 : Addr} {fd fd2 : FuncData} (F : Fun K "same" "Stores.same" sSame f fd) (T : Txt K C) (D2 : Df K mg "are_equivalent" sEq ["facts", "others"] f2 fd2) (G2 : FnOk P w K mg base CX0 13 f2 fd2 ["facts", "others"] spEq) : FnOk P w K mg base CX0 14 f fd ["self"] (spNo C Dx03.Call.same) := by
  refine F.ok scSame (fun vs H Q E h => ?_) (fun cdv A outer s H vs Q E hr h => ?_)
  · obtain ⟨R, p, S, rfl, _⟩ := h
    rfl
  · obtain ⟨R, p, S, rfl, st, hR, ok, k⟩ := h
    refine ⟨_, pss_cons (ps_if (pt_val (pe_call G2 hr rfl D2.g D2.F.kp D2.b .nil pass0 (pa_cons (pe_ix ix_list (pe_fld (pv 0) rfl) pe_int (fun _ _ => rfl)) (pa_cons (pe_ix ix_list (pe_fld (pv 0) rfl) pe_int (fun _ _ => rfl)) pa_nil)))) (pss_one (ps_ret (pe_lst (pa_cons pe_int pa_nil)))) pss_nil)
      (pss_one (ps_ret (pe_lst (pa_cons pe_int pa_nil)))), ?_⟩
    obtain ⟨dx, g, a0, a1, hp, hg, h0, h1, _⟩ := id st
    refine ⟨_, rfl, p, C, dx, _, _, rfl, hp, T.cl, T.nH, hF_held g, g, _, 0, _, rfl, rfl, SqL.of hg, atI_nat (j := 0) rfl, _, rfl, p, C, dx, _, _, rfl, hp, T.cl, T.nH, hF_held g, g, _, 1, _, rfl, rfl, SqL.of hg, atI_nat (j := 1) rfl,
      a0, a1, _, _, rfl, h0, h1, ok.1.one, ok.1.unk, ok.2.one, ok.2.unk, fun v H1 s1 z => ⟨_, z, ?_⟩⟩
    have e : Dx03.step S .same = (S, Dx03.ok (if Dx03.same S.one S.two = true then 1 else 0)) := rfl
    rw [e] at k
    refine if_b (fun c => ?_) (fun c => ?_)
    · rw [c, if_pos rfl] at k
      exact ⟨by show 1 ≤ sizeLine; decide, fun r nr => k r _ (Same.free s1 nr) (Keep.of (s1.trans (Same.one nr))) (st.mono (s1.trans (Same.one nr))) upd_same⟩
    · rw [c, if_neg Bool.false_ne_true] at k
      exact ⟨by show 1 ≤ sizeLine; decide, fun r nr => k r _ (Same.free s1 nr) (Keep.of (s1.trans (Same.one nr))) (st.mono (s1.trans (Same.one nr))) upd_same⟩
theorem scAlike : FnScope ["self"] ["self"] (defScope sAlike) := ⟨rfl, rfl, rfl, by decide +kernel, rfl, by decide +kernel, by decide +kernel⟩
theorem alike_keys {l k : Facts} {m : Map} (h : Dx03.alike l k = some m) : keys m = Dx.unknowns l := by
  unfold Dx03.alike at h
  split at h
  · obtain ⟨x, e1, e2, _⟩ := names_inv l k _ _ _ h (by simp)
    rw [List.nil_append] at e1
    rw [e1]
    exact e2
  · cases h
theorem ok_alike {f f1 f2 : Addr} {fd fd1 fd2 : FuncData} (F : Fun K "alike" "Stores.alike" sAlike f fd) (T : Txt K C) (D1 : Df K mg "told" sTold ["mapping"] f1 fd1) (G1 : FnOk P w K mg base CX0 1 f1 fd1 ["mapping"] spTold)
    (D2 : Df K mg "first_isomorphism" sIso ["facts", "goals"] f2 fd2) (G2 : FnOk P w K mg base CX0 7 f2 fd2 ["facts", "goals"] spIso) : FnOk P w K mg base CX0 8 f fd ["self"] (spNo C Dx03.Call.alike) := by
  refine F.ok scAlike (fun vs H Q E h => ?_) (fun cdv A outer s H vs Q E hr h => ?_)
  · obtain ⟨R, p, S, rfl, _⟩ := h
    rfl
  · obtain ⟨R, p, S, rfl, st, hR, ok, k⟩ := h
    refine ⟨_, pss_one (ps_ret (pe_call G1 (hr.mono (by decide)) rfl D1.g D1.F.kp D1.b .nil pass0 (pa_cons (pe_call G2 hr rfl D2.g D2.F.kp D2.b .nil pass0 (pa_cons (pe_ix ix_list (pe_fld (pv 0) rfl) pe_int (fun _ _ => rfl)) (pa_cons (pe_ix ix_list (pe_fld (pv 0) rfl) pe_int (fun _ _ => rfl)) pa_nil))) pa_nil))), ?_⟩
    obtain ⟨dx, g, a0, a1, hp, hg, h0, h1, _⟩ := id st
    refine ⟨_, rfl, p, C, dx, _, _, rfl, hp, T.cl, T.nH, hF_held g, g, _, 0, _, rfl, rfl, SqL.of hg, atI_nat (j := 0) rfl, _, rfl, p, C, dx, _, _, rfl, hp, T.cl, T.nH, hF_held g, g, _, 1, _, rfl, rfl, SqL.of hg, atI_nat (j := 1) rfl,
      a0, a1, _, _, rfl, h0, h1, ok.1, ok.2, fun v H1 s1 z => ?_⟩
    refine ⟨v, _, rfl, z, fun m hm => ?_, fun v H2 s2 z => ?_⟩
    · have i1 := alike_keys hm
      refine ⟨by rw [i1]; exact unk_asc _, ?_⟩
      have := congrArg List.length i1
      rw [List.length_map] at this
      have := ok.1.unk
      omega
    · obtain ⟨r, rfl, nr, hrr⟩ := z
      have s12 := s1.trans s2
      exact k r _ (Same.free s1 nr) (Keep.of s12) (st.mono s12) hrr
end
end Fc

namespace Fc
open PySem PySem.Spec PyProof.Rows L2 FcS
open Dx (Fact Facts Map)
open Dx03 (House)
theorem hu65 {k : Nat} {A : Around} (hr : Room k A) : A.units + 65 < cLine := by
  have := hr.un
  omega
theorem ixN_of {n k : Nat} (h : k < n) : ixN n (k : Int) = some k := by
  unfold ixN
  rw [if_pos (by omega), if_pos (by omega), Int.toNat_natCast]
/-! ### the states that come -/
theorem Ok.plain {l : Facts} (h : Ok l) : Ok (Dx03.plain l) := by
  have hm : ∀ p ∈ ren (Dx.unknowns l) 0, p.2 < 300 := fun p hp => by
    unfold ren at hp
    obtain ⟨q, hq, rfl⟩ := List.mem_map.mp hp
    have h1 := List.snd_lt_of_mem_zipIdx hq
    have h2 := h.unk
    show 100 + q.2 < 300
    omega
  have mem : ∀ x ∈ Dx03.plain l, ∃ f ∈ l, x = (ren (Dx.unknowns l) 0).fact f := fun x hx => by
    rw [plain_eq, tidy_mem] at hx
    obtain ⟨f, hf, e⟩ := List.mem_map.mp hx
    exact ⟨f, hf, e.symm⟩
  refine ⟨by rw [plain_eq]; exact tidy_srt _, fun x hx => ?_, ?_, ?_⟩
  · obtain ⟨f, hf, rfl⟩ := mem x hx
    exact fact_bd hm (h.bd f hf)
  · rw [plain_eq]
    refine Nat.le_trans (tidy_len _) ?_
    rw [List.length_map]
    exact h.len
  · refine Nat.le_trans (nodup_len (D := (List.range (Dx.unknowns l).length).map (100 + ·)) (unk_nodup _) fun v hv => ?_) (by rw [List.length_map, List.length_range]; exact h.unk)
    obtain ⟨h1, h2⟩ := (unk_mem _ v).1 hv
    obtain ⟨x, hx, e⟩ := (vals2_mem _ v).1 h2
    obtain ⟨f, hf, rfl⟩ := mem x hx
    have key : ∀ u ∈ vals2 l, 100 ≤ (ren (Dx.unknowns l) 0).of u → (ren (Dx.unknowns l) 0).of u ∈ (List.range (Dx.unknowns l).length).map (100 + ·) := fun u hu h100 => by
      rcases Nat.lt_or_ge u 100 with c | c
      · rw [of_known c] at h100
        omega
      · have hu' := (unk_mem l u).2 ⟨c, hu⟩
        have e2 : (ren (Dx.unknowns l) 0).of u = 100 + (Dx.unknowns l).idxOf u := by
          unfold Dx.Map.of
          rw [if_neg (by rw [known_iff]; omega)]
          show (fnd _ u).getD u = _
          rw [ren_look _ _ _ hu']
          rfl
        rw [e2]
        exact List.mem_map.mpr ⟨_, List.mem_range.mpr (List.idxOf_lt_length_of_mem hu'), rfl⟩
    rcases e with e | e
    · rw [e]
      exact key f.a ((vals2_mem l _).2 ⟨f, hf, .inl rfl⟩) (by rw [e] at h1; exact h1)
    · rw [e]
      exact key f.b ((vals2_mem l _).2 ⟨f, hf, .inr rfl⟩) (by rw [e] at h1; exact h1)
theorem isValue_lt {v : Nat} (h : Dx03.isValue v = true) : v < 200 := by
  unfold Dx03.isValue Dx03.VALUE Dx.UNKNOWN at h
  simp only [Bool.or_eq_true, Bool.and_eq_true, decide_eq_true_eq] at h
  omega
theorem Ok.put {l : Facts} {f : Fact} (h : Ok l) (ht : ¬ 1 < f.t) (ha : Dx03.isValue f.a = true) (hb : Dx03.isValue f.b = true) (h1 : (Dx.put f l).length ≤ 6) (h2 : (Dx.unknowns (Dx.put f l)).length ≤ 4) : Ok (Dx.put f l) := by
  refine ⟨put_srt f l h.srt, fun x hx => ?_, h1, h2⟩
  rcases (put_mem f x l).1 hx with e | e
  · subst e
    have := isValue_lt ha
    have := isValue_lt hb
    exact ⟨by omega, by omega, by omega⟩
  · exact h.bd x e
theorem step_fact {S : House} {k t a b : Nat} (h : ¬ 1 < k) : Dx03.step S (.fact k t a b) = (if 1 < t ∨ Dx03.isValue a = false ∨ Dx03.isValue b = false then (S, Dx03.ok (-1)) else if (S.get k).contains ⟨t, a, b⟩ = true then (S, Dx03.ok (-4)) else
      if Dx03.FACTS < (Dx.put ⟨t, a, b⟩ (S.get k)).length ∨ Dx03.UNKNOWNS < (Dx.unknowns (Dx.put ⟨t, a, b⟩ (S.get k))).length then (S, Dx03.ok (-7)) else (S.set k (Dx.put ⟨t, a, b⟩ (S.get k)), Dx03.ok ((Dx.put ⟨t, a, b⟩ (S.get k)).length : Nat))) := if_neg h
theorem step_gone {S : House} {k t a b : Nat} (h : ¬ 1 < k) : Dx03.step S (.gone k t a b) = (if (S.get k).contains ⟨t, a, b⟩ = false then (S, Dx03.ok (-3)) else (S.set k (Dx03.without (S.get k) ⟨t, a, b⟩), Dx03.ok ((Dx03.without (S.get k) ⟨t, a, b⟩).length : Nat))) := if_neg h
theorem step_keep {S : House} {k : Nat} (h : ¬ 1 < k) : Dx03.step S (.keep k) = (S.set k (Dx03.plain (Dx03.core (S.get k))), Dx03.told (Dx03.plain (Dx03.core (S.get k)))) := if_neg h
theorem fst_ite {S : House} {c : Prop} [Decidable c] {x y : Dx03.Ans} : (if c then (S, x) else (S, y)).1 = S := by split <;> rfl
theorem step_ok {S : House} (h : Hok S) (c : Dx03.Call) : Hok (Dx03.step S c).1 := by
  cases c with
  | begins => exact ⟨ok_empty, ok_empty⟩
  | fact k t a b =>
    by_cases c1 : 1 < k
    · rw [show Dx03.step S (.fact k t a b) = (S, Dx03.ok (-2)) from if_pos c1]; exact h
    rw [step_fact c1]
    by_cases c2 : 1 < t ∨ Dx03.isValue a = false ∨ Dx03.isValue b = false
    · rw [if_pos c2]; exact h
    rw [if_neg c2]
    by_cases c3 : (S.get k).contains ⟨t, a, b⟩ = true
    · rw [if_pos c3]; exact h
    rw [if_neg c3]
    by_cases c4 : Dx03.FACTS < (Dx.put ⟨t, a, b⟩ (S.get k)).length ∨ Dx03.UNKNOWNS < (Dx.unknowns (Dx.put ⟨t, a, b⟩ (S.get k))).length
    · rw [if_pos c4]; exact h
    rw [if_neg c4]
    unfold Dx03.FACTS Dx03.UNKNOWNS at c4
    have qa : Dx03.isValue a = true := by
      cases e : Dx03.isValue a
      · exact absurd (.inr (.inl e)) c2
      · rfl
    have qb : Dx03.isValue b = true := by
      cases e : Dx03.isValue b
      · exact absurd (.inr (.inr e)) c2
      · rfl
    exact h.set k ((h.get k).put (f := ⟨t, a, b⟩) (fun z => c2 (.inl z)) qa qb (by omega) (by omega))
  | gone k t a b =>
    by_cases c1 : 1 < k
    · rw [show Dx03.step S (.gone k t a b) = (S, Dx03.ok (-2)) from if_pos c1]; exact h
    rw [step_gone c1]
    by_cases c3 : (S.get k).contains ⟨t, a, b⟩ = false
    · rw [if_pos c3]; exact h
    rw [if_neg c3]
    exact h.set k ((h.get k).without _)
  | facts k =>
    rw [show (Dx03.step S (.facts k)).1 = S from fst_ite]
    exact h
  | core k =>
    rw [show (Dx03.step S (.core k)).1 = S from fst_ite]
    exact h
  | spare k =>
    rw [show (Dx03.step S (.spare k)).1 = S from fst_ite]
    exact h
  | map k =>
    rw [show (Dx03.step S (.map k)).1 = S from fst_ite]
    exact h
  | same => exact h
  | alike => exact h
  | keep k =>
    by_cases c1 : 1 < k
    · rw [show Dx03.step S (.keep k) = (S, Dx03.ok (-2)) from if_pos c1]; exact h
    rw [step_keep c1]
    exact h.set k (Ok.core _ (Nat.le_refl _) (h.get k)).1.plain
/-! ### what stands at a value -/
def adr : V → Addr
  | .ref a => a
  | _ => 0
def backF (H : Hp) (y : V) : Fact := match H (adr y) with
  | some (.tup [.int t, .int a, .int b]) => ⟨t.toNat, a.toNat, b.toNat⟩
  | _ => ⟨0, 0, 0⟩
theorem backF_of {H : Hp} {b : Addr} {f : Fact} (h : H b = some (.tup (fV f))) : backF H (.ref b) = f := by
  unfold backF adr
  rw [h]
  rfl
theorem contains_eq (l : Facts) (f : Fact) : ((l.map dF).any fun z => PyData.eqv z (dF f)) = l.contains f := by
  rw [List.any_map, Bool.eq_iff_iff, List.any_eq_true, List.contains_iff_mem]
  constructor
  · rintro ⟨x, hx, e⟩
    have e' : PyData.eqv (dF x) (dF f) = true := e
    rw [dF_eqv, decide_eq_true_eq] at e'
    rw [← e']
    exact hx
  · intro h
    exact ⟨f, h, by show PyData.eqv (dF f) (dF f) = true; rw [dF_eqv]; simp⟩
theorem contains_not (l : Facts) (f : Fact) : (!(l.map dF).any fun z => PyData.eqv z (dF f)) = !l.contains f := by rw [contains_eq]
section
variable {P : Program} {w : World} {K : PySem.W.Frag} {mg : Str → Option Value} {base : Heap} {C : Addr}
theorem scKeep : FnScope ["self", "store"] ["self", "store"] (defScope sKeep) := ⟨rfl, rfl, rfl, by decide +kernel, rfl, by decide +kernel, by decide +kernel⟩
theorem ok_keep {f f1 f2 f3 : Addr} {fd fd1 fd2 fd3 : FuncData} (F : Fun K "keep" "Stores.keep" sKeep f fd) (T : Txt K C) (D1 : Df K mg "listed" sLis ["facts"] f1 fd1) (G1 : FnOk P w K mg base CX0 1 f1 fd1 ["facts"] spLis)
    (D2 : Df K mg "core_of" sCore ["facts"] f2 fd2) (G2 : FnOk P w K mg base CX0 13 f2 fd2 ["facts"] spCore) (D3 : Df K mg "renamed" sRen ["facts"] f3 fd3) (G3 : FnOk P w K mg base CX0 3 f3 fd3 ["facts"] spRen) :
    FnOk P w K mg base CX0 14 f fd ["self", "store"] (spOn C Dx03.Call.keep) := by
  refine F.ok scKeep (fun vs H Q E h => ?_) (fun cdv A outer s H vs Q E hr h => ?_)
  · obtain ⟨R, p, k, S, rfl, _⟩ := h
    rfl
  · obtain ⟨R, p, n, S, rfl, st, hR, ok, hn, k⟩ := h
    refine ⟨_, pss_cons (ps_asg (pe_call G3 (hr.mono (by decide)) rfl D3.g D3.F.kp D3.b .nil pass0 (pa_cons (pe_call G2 hr rfl D2.g D2.F.kp D2.b .nil pass0 (pa_cons (pe_ix ix_list (pe_fld (pv 0) rfl) (pv 1) (fun _ _ => rfl)) pa_nil)) pa_nil)) (pg_sub (pe_fld (pv 0) rfl) (pv 1) set_list))
      (pss_one (ps_ret (pe_call G1 (hr.mono (by decide)) rfl D1.g D1.F.kp D1.b .nil pass0 (pa_cons (pe_ix ix_list (pe_fld (pv 0) rfl) (pv 1) (fun _ _ => rfl)) pa_nil)))), ?_⟩
    obtain ⟨dx, g, a, b, a0, a1, hp, hg, ea, fa, _, _, f0, f1', hRs⟩ := st.at hn
    refine ⟨_, rfl, p, C, dx, _, _, rfl, hp, T.cl, T.nH, hF_held g, _, rfl, g, _, _, _, rfl, rfl, SqL.of hg, atI_nat ea, a, _, rfl, fa, ok.get n, fun v H1 s1 z => ?_⟩
    obtain ⟨c, rfl, hc⟩ := z
    have okc := (Ok.core _ (Nat.le_refl _) (ok.get n)).1
    refine ⟨c, _, rfl, hc, okc, fun v H2 s2 z => ?_⟩
    obtain ⟨d, rfl, nd, hd⟩ := z
    have s12 := s1.trans s2
    refine ⟨_, rfl, p, C, dx, _, _, rfl, s12 _ _ hp, T.cl, T.nH, hF_held g, _, rfl, g, _, _, n, rfl, rfl, s12 _ _ hg, ixN_of (by show n < 2; omega), ?_⟩
    obtain ⟨st2, kp2⟩ := StoresAt.put (S := S) (s12 _ _ hp) (s12 _ _ hg) (f0.mono s12) (f1'.mono s12) hn hd hRs (fun z => hR _ z (Same.free s1 nd))
    have hp2 := st2
    obtain ⟨dx', g', a', b', a0', a1', hp', hg', ea', fa', _⟩ := st2.at hn
    refine ⟨_, rfl, p, C, dx', _, _, rfl, hp', T.cl, T.nH, hF_held g', _, rfl, g', _, _, _, rfl, rfl, SqL.of hg', atI_nat ea', a', _, rfl, fa', (Hok.set ok n okc.plain).get n |>.len, fun v H3 s3 z => ?_⟩
    obtain ⟨r, rfl, nr, hrr⟩ := z
    have e : Dx03.step S (.keep n) = (S.set n (Dx03.plain (Dx03.core (S.get n))), Dx03.told (Dx03.plain (Dx03.core (S.get n)))) := if_neg (le1 hn)
    rw [e] at k
    have e2 : (S.set n (Dx03.plain (Dx03.core (S.get n)))).get n = Dx03.plain (Dx03.core (S.get n)) := by
      unfold House.set House.get
      split <;> rfl
    rw [e2] at hrr
    exact k r _ (Same.free s12 (upd_no nr)) (((Keep.of s12).trans kp2).trans (Keep.of s3)) (st2.mono s3) hrr
theorem scGone : FnScope ["self", "store", "old", "held", "shorter"] ["self", "store", "old"] (defScope sGone) := ⟨rfl, rfl, rfl, by decide +kernel, rfl, by decide +kernel, by decide +kernel⟩
theorem ok_gone {f f1 : Addr} {fd fd1 : FuncData} (F : Fun K "gone" "Stores.gone" sGone f fd) (T : Txt K C) (B : Blt mg) (c1 : Cst mg "NOT_CONTAINED" (-3)) (D1 : Df K mg "without" sWo ["members", "one"] f1 fd1) (G1 : FnOk P w K mg base CX0 1 f1 fd1 ["members", "one"] spWo) :
    FnOk P w K mg base CX0 2 f fd ["self", "store", "old"] (spOf C Dx03.Call.gone) := by
  obtain ⟨t1, c1⟩ := c1
  refine F.ok scGone (fun vs H Q E h => ?_) (fun cdv A outer s H vs Q E hr h => ?_)
  · obtain ⟨R, p, q, k, S, x, rfl, _⟩ := h
    rfl
  · obtain ⟨R, p, q, n, S, x, rfl, st, hR, ok, hn, hq, k⟩ := h
    refine ⟨_, pss_cons (ps_set (i := 3) scGone.nd rfl (.inl rfl) (pe_ix ix_list (pe_fld (pv 0) rfl) (pv 1) (fun _ _ => rfl)))
      (pss_cons (ps_if (pt_cmpR (op_notInD (hu65 hr)) (pv 2) (pv 3) rfl) (pss_one (ps_ret (pe_lst (pa_cons (pe_glob (v := .int (-3)) rfl c1 ⟨_, rfl⟩) pa_nil)))) pss_nil)
      (pss_cons (ps_set (i := 4) scGone.nd rfl (.inl rfl) (pe_call G1 hr rfl D1.g D1.F.kp D1.b .nil pass0 (pa_cons (pv 3) (pa_cons (pv 2) pa_nil))))
      (pss_cons (ps_asg (pv 4) (pg_sub (pe_fld (pv 0) rfl) (pv 1) set_list))
      (pss_one (ps_ret (pe_lst (pa_cons (pe_callB call_len_seq (by rfl) B.len PySem.boot_len (pa_cons (pv 4) pa_nil)) pa_nil))))))), ?_⟩
    obtain ⟨dx, g, a, b, a0, a1, hp, hg, ea, fa, _, _, f0, f1', hRs⟩ := st.at hn
    refine ⟨_, rfl, p, C, dx, _, _, rfl, hp, T.cl, T.nH, hF_held g, _, rfl, g, _, _, _, rfl, rfl, SqL.of hg, atI_nat ea, ?_⟩
    refine ⟨_, rfl, _, rfl, dF x, (S.get n).map dF, dF_at hq, fa.dp, dF_shaped x, dL_shaped _, _, rfl, ?_⟩
    rw [contains_not]
    have e : Dx03.step S (.gone n x.t x.a x.b) = (if (S.get n).contains x = false then (S, Dx03.ok (-3)) else (S.set n (Dx03.without (S.get n) x), Dx03.ok ((Dx03.without (S.get n) x).length : Nat))) := if_neg (le1 hn)
    rw [e] at k
    refine if_b (fun c => ?_) (fun c => ?_)
    · have c' : (S.get n).contains x = false := by simpa using c
      rw [if_pos c'] at k
      exact ⟨by show 1 ≤ sizeLine; decide, fun r nr => k r _ nr (Keep.of (Same.one nr)) (st.mono (Same.one nr)) upd_same⟩
    · have c' : ¬ (S.get n).contains x = false := by simpa using c
      rw [if_neg c'] at k
      refine ⟨_, rfl, _, rfl, .inl ⟨a, q, _, x, rfl, fa, hq, (ok.get n).one, fun v H1 s1 z => ?_⟩⟩
      obtain ⟨d, rfl, nd, hd⟩ := z
      refine ⟨_, rfl, _, rfl, p, C, dx, _, _, rfl, s1 _ _ hp, T.cl, T.nH, hF_held g, _, rfl, g, _, _, n, rfl, rfl, s1 _ _ hg, ixN_of (by show n < 2; omega), ?_⟩
      obtain ⟨st2, kp2⟩ := StoresAt.put (S := S) (s1 _ _ hp) (s1 _ _ hg) (f0.mono s1) (f1'.mono s1) hn hd hRs (fun z => hR _ z nd)
      have hd2 := hd.upd (o := .lst ([V.ref a0, V.ref a1].set n (V.ref d))) (s1 _ _ hg) (f0.mono s1)
      obtain ⟨qs, q1, _, q3⟩ := hd2
      have ql : (qs.map fun q => V.ref q.1).length = (Dx03.without (S.get n) x).length := by rw [List.length_map, ← q3, List.length_map]
      refine ⟨_, rfl, d, _, rfl, .inl (SqL.of q1), by show 1 ≤ sizeLine; decide, fun r nr => ?_⟩
      rw [ql]
      exact k r _ (Same.free s1 (upd_no nr)) (((Keep.of s1).trans kp2).trans (Keep.of (Same.one nr))) (st2.mono (Same.one nr)) upd_same
theorem scFact : FnScope ["self", "store", "new", "held", "longer"] ["self", "store", "new"] (defScope sFact) := ⟨rfl, rfl, rfl, by decide +kernel, rfl, by decide +kernel, by decide +kernel⟩
theorem ok_fact {f f1 f2 : Addr} {fd fd1 fd2 : FuncData} (F : Fun K "fact" "Stores.fact" sFact f fd) (T : Txt K C) (B : Blt mg) (c1 : Cst mg "NOT_PERMITTED" (-1)) (c2 : Cst mg "CONTAINED" (-4)) (c3 : Cst mg "TOO_MANY" (-7)) (c4 : Cst mg "MOST_FACTS" 6) (c5 : Cst mg "MOST_UNKNOWNS" 4)
    (D1 : Df K mg "is_permitted" sPm ["fact"] f1 fd1) (G1 : FnOk P w K mg base CX0 2 f1 fd1 ["fact"] spPm) (D2 : Df K mg "unknowns_of" sUnk ["facts"] f2 fd2) (G2 : FnOk P w K mg base CX0 2 f2 fd2 ["facts"] spUnk) :
    FnOk P w K mg base CX0 3 f fd ["self", "store", "new"] (spOf C Dx03.Call.fact) := by
  obtain ⟨t1, c1⟩ := c1
  obtain ⟨t2, c2⟩ := c2
  obtain ⟨t3, c3⟩ := c3
  obtain ⟨t4, c4⟩ := c4
  obtain ⟨t5, c5⟩ := c5
  refine F.ok scFact (fun vs H Q E h => ?_) (fun cdv A outer s H vs Q E hr h => ?_)
  · obtain ⟨R, p, q, k, S, x, rfl, _⟩ := h
    rfl
  · obtain ⟨R, p, q, n, S, x, rfl, st, hR, ok, hn, hq, k⟩ := h
    refine ⟨_, pss_cons (ps_set (i := 3) scFact.nd rfl (.inl rfl) (pe_ix ix_list (pe_fld (pv 0) rfl) (pv 1) (fun _ _ => rfl)))
      (pss_cons (ps_if (pt_not (pt_val (pe_call G1 hr rfl D1.g D1.F.kp D1.b .nil pass0 (pa_cons (pv 2) pa_nil)))) (pss_one (ps_ret (pe_lst (pa_cons (pe_glob (v := .int (-1)) rfl c1 ⟨_, rfl⟩) pa_nil)))) pss_nil)
      (pss_cons (ps_if (pt_cmpR (op_inD (hu65 hr)) (pv 2) (pv 3) rfl) (pss_one (ps_ret (pe_lst (pa_cons (pe_glob (v := .int (-4)) rfl c2 ⟨_, rfl⟩) pa_nil)))) pss_nil)
      (pss_cons (ps_set (i := 4) scFact.nd rfl (.inl rfl) (pe_callB (cr_sortT (d := 3) (B := 512) (by decide)) (by rfl) B.sorted (by decide +kernel) (pa_cons (pe_op op_cat (pv 3) (pe_lst (pa_cons (pv 2) pa_nil))) pa_nil)))
      (pss_cons (ps_if (PW.pt (pw_or (pt_cmpR op_gt (pe_callB call_len_seq (by rfl) B.len PySem.boot_len (pa_cons (pv 4) pa_nil)) (pe_glob (v := .int 6) rfl c4 ⟨_, rfl⟩) (nomark _))
          (pw_or1 (pt_cmpR op_gt (pe_callB call_len_seq (by rfl) B.len PySem.boot_len (pa_cons (pe_call G2 hr rfl D2.g D2.F.kp D2.b .nil pass0 (pa_cons (pv 4) pa_nil)) pa_nil)) (pe_glob (v := .int 4) rfl c5 ⟨_, rfl⟩) (nomark _)))))
        (pss_one (ps_ret (pe_lst (pa_cons (pe_glob (v := .int (-7)) rfl c3 ⟨_, rfl⟩) pa_nil)))) pss_nil)
      (pss_cons (ps_asg (pv 4) (pg_sub (pe_fld (pv 0) rfl) (pv 1) set_list))
      (pss_one (ps_ret (pe_lst (pa_cons (pe_callB call_len_seq (by rfl) B.len PySem.boot_len (pa_cons (pv 4) pa_nil)) pa_nil))))))))), ?_⟩
    obtain ⟨dx, g, a, b, a0, a1, hp, hg, ea, fa, _, _, f0, f1', hRs⟩ := st.at hn
    have okn := ok.get n
    have e : Dx03.step S (.fact n x.t x.a x.b) = (if 1 < x.t ∨ Dx03.isValue x.a = false ∨ Dx03.isValue x.b = false then (S, Dx03.ok (-1)) else if (S.get n).contains x = true then (S, Dx03.ok (-4)) else
      if Dx03.FACTS < (Dx.put x (S.get n)).length ∨ Dx03.UNKNOWNS < (Dx.unknowns (Dx.put x (S.get n))).length then (S, Dx03.ok (-7)) else (S.set n (Dx.put x (S.get n)), Dx03.ok ((Dx.put x (S.get n)).length : Nat))) := if_neg (le1 hn)
    rw [e] at k
    refine ⟨_, rfl, p, C, dx, _, _, rfl, hp, T.cl, T.nH, hF_held g, _, rfl, g, _, _, _, rfl, rfl, SqL.of hg, atI_nat ea, ?_⟩
    refine ⟨_, rfl, q, x, rfl, hq, fun v H1 s1 z => ⟨_, z, if_b (fun c => ?_) (fun c => ?_)⟩⟩
    · have c' : 1 < x.t ∨ Dx03.isValue x.a = false ∨ Dx03.isValue x.b = false := by
        by_cases d : x.t < 2
        · have d1 : decide (x.t < 2) = true := decide_eq_true d
          rw [d1] at c
          cases ea : Dx03.isValue x.a
          · exact .inr (.inl rfl)
          · cases eb : Dx03.isValue x.b
            · exact .inr (.inr rfl)
            · rw [ea, eb] at c
              cases c
        · exact .inl (by omega)
      rw [if_pos c'] at k
      exact ⟨by show 1 ≤ sizeLine; decide, fun r nr => k r _ (Same.free s1 nr) (Keep.of (s1.trans (Same.one nr))) (st.mono (s1.trans (Same.one nr))) upd_same⟩
    have c0 : x.t < 2 ∧ Dx03.isValue x.a = true ∧ Dx03.isValue x.b = true := by simpa using c
    have c' : ¬ (1 < x.t ∨ Dx03.isValue x.a = false ∨ Dx03.isValue x.b = false) := by
      rw [c0.2.1, c0.2.2]
      simp
      omega
    rw [if_neg c'] at k
    have fa1 := fa.mono s1
    have hq1 := s1 _ _ hq
    refine ⟨_, rfl, _, rfl, dF x, (S.get n).map dF, dF_at hq1, fa1.dp, dF_shaped x, dL_shaped _, _, rfl, ?_⟩
    rw [contains_eq]
    refine if_b (fun c2' => ?_) (fun c2' => ?_)
    · rw [if_pos c2'] at k
      exact ⟨by show 1 ≤ sizeLine; decide, fun r nr => k r _ (Same.free s1 nr) (Keep.of (s1.trans (Same.one nr))) (st.mono (s1.trans (Same.one nr))) upd_same⟩
    rw [if_neg (by rw [c2']; exact Bool.false_ne_true)] at k
    have nx : x ∉ S.get n := fun z => by
      rw [List.contains_iff_mem.mpr z] at c2'
      cases c2'
    obtain ⟨qs, q1, q2, q3⟩ := id fa1
    have ql : qs.length = (S.get n).length := by rw [← q3, List.length_map]
    have l6 := okn.len
    -- held + [new]
    refine ⟨_, rfl, _, rfl, by show 1 ≤ sizeLine; decide, fun u nu => ?_⟩
    have s2 : Same H1 (upd H1 u (.lst [V.ref q])) := Same.one nu
    refine ⟨a, u, _, _, rfl, rfl, s2 _ _ q1, upd_same, ?_, fun d nd => ?_⟩
    · rw [List.length_map, ql]
      exact Nat.le_trans (show (S.get n).length + 1 ≤ 7 by omega) (by decide)
    have s3 : Same H1 (upd (upd H1 u (.lst [V.ref q])) d (.lst ((qs.map fun q => V.ref q.1) ++ [V.ref q]))) := s2.trans (Same.one nd)
    have exs : (qs.map fun q => V.ref q.1) ++ [V.ref q] = (qs ++ [(q, x)]).map fun q => V.ref q.1 := by rw [List.map_append]; rfl
    have mem : ∀ z ∈ qs ++ [(q, x)], H1 z.1 = some (.tup (fV z.2)) ∧ FBd z.2 := fun z hz => by
      rcases List.mem_append.mp hz with hz | hz
      · refine ⟨q2 z hz, okn.bd _ ?_⟩
        rw [← q3]
        exact List.mem_map.mpr ⟨z, hz, rfl⟩
      · obtain rfl : z = (q, x) := by simpa using hz
        have h1 := isValue_lt c0.2.1
        have h2 := isValue_lt c0.2.2
        refine ⟨hq1, ?_, ?_, ?_⟩
        · show x.t < 2; omega
        · show x.a < 300; omega
        · show x.b < 300; omega
    rw [exs] at s3 ⊢
    refine ⟨d, _, rfl, SqL.of upd_same, ?_, fun y hy => ?_, fun ys r pm so nr => ?_⟩
    · rw [List.length_map, List.length_append, ql]
      simp
      omega
    · obtain ⟨z, hz, rfl⟩ := List.mem_map.mp hy
      exact ⟨zF z.2, ⟨z.1, rfl, SqT.of (s3 _ _ (mem z hz).1)⟩, rfl, zF_bd (mem z hz).2⟩
    have nr1 := Same.free s3 nr
    have s4 := Same.new (o := .lst ys) s3 nr1
    have ymem : ∀ y ∈ ys, ∃ z ∈ qs ++ [(q, x)], y = V.ref z.1 ∧ backF H1 y = z.2 := fun y hy => by
      obtain ⟨z, hz, rfl⟩ := List.mem_map.mp (pm.mem_iff.mp hy)
      exact ⟨z, hz, rfl, backF_of (mem z hz).1⟩
    have pmF : (ys.map (backF H1)).Perm (S.get n ++ [x]) := by
      have h1 := pm.map (backF H1)
      have h2 : ((qs ++ [(q, x)]).map fun q => V.ref q.1).map (backF H1) = S.get n ++ [x] := by
        rw [List.map_map, ← q3]
        have : (qs ++ [(q, x)]).map (backF H1 ∘ fun q => V.ref q.1) = (qs ++ [(q, x)]).map (·.2) := List.map_congr_left fun z hz => backF_of (mem z hz).1
        rw [this, List.map_append]
        rfl
      rw [h2] at h1
      exact h1
    have ndF : (ys.map (backF H1)).Nodup := pmF.nodup_iff.mpr (List.nodup_append.mpr ⟨srt_nodup okn.srt, by simp, fun z hz y hy => by
      obtain rfl : y = x := by simpa using hy
      exact fun e => nx (e ▸ hz)⟩)
    have srtF : Srt (ys.map (backF H1)) := by
      refine List.pairwise_map.mpr (List.Pairwise.imp_of_mem (fun {y y'} hy hy' h => ?_) (List.Pairwise.and so (List.pairwise_map.mp ndF)))
      obtain ⟨z, hz, rfl, ez⟩ := ymem y hy
      obtain ⟨z', hz', rfl, ez'⟩ := ymem y' hy'
      rw [ez, ez'] at h ⊢
      exact code_lt (mem z hz).2 (mem z' hz').2 (h.1 _ _ ⟨z.1, rfl, SqT.of (s3 _ _ (mem z hz).1)⟩ ⟨z'.1, rfl, SqT.of (s3 _ _ (mem z' hz').1)⟩) h.2
    have eF : ys.map (backF H1) = Dx.put x (S.get n) := put_eq okn.srt srtF fun y => by
      rw [pmF.mem_iff, List.mem_append, List.mem_singleton, or_comm]
    have hr4 : FA (upd (upd (upd H1 u (.lst [V.ref q])) d (.lst ((qs ++ [(q, x)]).map fun q => V.ref q.1))) r (.lst ys)) r (Dx.put x (S.get n)) := by
      refine ⟨ys.map fun y => (adr y, backF H1 y), ?_, fun z hz => ?_, by rw [List.map_map, ← eF]; rfl⟩
      · rw [upd_same, List.map_map]
        congr 2
        conv => lhs; rw [← List.map_id ys]
        refine List.map_congr_left fun y hy => ?_
        obtain ⟨z, _, rfl, _⟩ := ymem y hy
        rfl
      · obtain ⟨y, hy, rfl⟩ := List.mem_map.mp hz
        obtain ⟨z', hz', rfl, ez⟩ := ymem y hy
        rw [ez]
        exact s4 _ _ (mem z' hz').1
    have lys : ys.length = (Dx.put x (S.get n)).length := by rw [← eF, List.length_map]
    have lput := put_len x okn.srt nx
    -- too many?
    refine ⟨_, rfl, r, ys, rfl, .inl (SqL.of upd_same), _, _, rfl, rfl, _, rfl, ?_⟩
    rw [lys]
    refine if_b (fun c6 => ?_) (fun c6 => ?_)
    · have c6' : (6 : Int) < ((Dx.put x (S.get n)).length : Int) := of_decide_eq_true c6
      rw [if_pos (.inl (show 6 < (Dx.put x (S.get n)).length by omega))] at k
      refine if_t rfl ?_
      exact ⟨by show 1 ≤ sizeLine; decide, fun o no => k o _ (Same.free (s1.trans s4) no) (Keep.of ((s1.trans s4).trans (Same.one no))) (st.mono ((s1.trans s4).trans (Same.one no))) upd_same⟩
    have c6' : ¬ (6 : Int) < ((Dx.put x (S.get n)).length : Int) := of_decide_eq_false c6
    refine ⟨_, rfl, r, _, rfl, hr4, by omega, fun v H5 s5 z => ?_⟩
    obtain ⟨m, rfl, hm⟩ := z
    refine ⟨m, _, rfl, .inl (SqL.of hm), _, _, rfl, rfl, _, rfl, ?_⟩
    rw [nV_len]
    have s15 := s4.trans s5
    refine if_b (fun c7 => ?_) (fun c7 => ?_)
    · have c7' : (4 : Int) < ((Dx.unknowns (Dx.put x (S.get n))).length : Int) := of_decide_eq_true c7
      rw [if_pos (.inr (show 4 < (Dx.unknowns (Dx.put x (S.get n))).length by omega))] at k
      exact ⟨by show 1 ≤ sizeLine; decide, fun o no => k o _ (Same.free (s1.trans s15) no) (Keep.of ((s1.trans s15).trans (Same.one no))) (st.mono ((s1.trans s15).trans (Same.one no))) upd_same⟩
    have c7' : ¬ (4 : Int) < ((Dx.unknowns (Dx.put x (S.get n))).length : Int) := of_decide_eq_false c7
    rw [if_neg (fun z => by unfold Dx03.FACTS Dx03.UNKNOWNS at z; omega)] at k
    have s05 := s1.trans s15
    have hr5 := hr4.mono s5
    refine ⟨_, rfl, _, rfl, p, C, dx, _, _, rfl, s05 _ _ hp, T.cl, T.nH, hF_held g, _, rfl, g, _, _, n, rfl, rfl, s05 _ _ hg, ixN_of (by show n < 2; omega), ?_⟩
    obtain ⟨st2, kp2⟩ := StoresAt.put (S := S) (s05 _ _ hp) (s05 _ _ hg) (f0.mono s05) (f1'.mono s05) hn hr5 hRs (fun z => hR _ z (Same.free s1 nr1))
    obtain ⟨rs, r1, _, r3⟩ := hr5.upd (o := .lst ([V.ref a0, V.ref a1].set n (V.ref r))) (s05 _ _ hg) (f0.mono s05)
    have rl : (rs.map fun q => V.ref q.1).length = (Dx.put x (S.get n)).length := by rw [List.length_map, ← r3, List.length_map]
    refine ⟨_, rfl, r, _, rfl, .inl (SqL.of r1), by show 1 ≤ sizeLine; decide, fun o no => ?_⟩
    rw [rl]
    exact k o _ (Same.free s05 (upd_no no)) (((Keep.of s05).trans kp2).trans (Keep.of (Same.one no))) (st2.mono (Same.one no)) upd_same
end
end Fc

namespace Fc
open PySem PySem.Spec PyProof.Rows L2 FcS
open Dx (Fact Facts Map)
open Dx03 (House)
abbrev sOne : Stmt := top 49
abbrev sAns : Stmt := top 50
abbrev sAll : Stmt := top 51
/-- a method that keeps a promise -/
structure Mt (P : Program) (w : World) (K : PySem.W.Frag) (mg : Str → Option Value) (base : Heap) (C : Addr) (lv : Nat) (nm : Str) (ps : List Str) (sp : Sp) : Prop where
  ex : ∃ (f : Addr) (fd : FuncData), FnOk P w K mg base CX0 lv f fd ps sp ∧ Binds K fd ps [] ∧ Meth K C nm f
def spOne (C : Addr) : Sp := fun vs H Q _ => ∃ (R : Addr → Prop) (p q : Addr) (n k : Nat) (S : House) (as : List Nat), vs = [.ref p, .int (n : Int), .int (k : Int), .ref q] ∧ StoresAt C R H p S ∧ (∀ b, R b → H b ≠ none) ∧ Hok S ∧ H q = some (.tup (nV as)) ∧ (n = 1 ∨ n = 2 → as.length = 3) ∧
  RetS C R H Q p (Dx03.step S (callN n k as)).1 (Dx03Neutral.out (Dx03.step S (callN n k as)).2)
def spAns (C : Addr) : Sp := fun vs H Q _ => ∃ (R : Addr → Prop) (p a : Addr) (n : Nat) (S : House) (as : List Nat), vs = [.ref p, .int (n : Int), .ref a] ∧ StoresAt C R H p S ∧ (∀ b, R b → H b ≠ none) ∧ Hok S ∧ NL H a as ∧ n ≤ 9 ∧ as.length = cnt n ∧
  RetS C R H Q p (Dx03Neutral.step S [zs (n :: as)]).1 (Dx03Neutral.step S [zs (n :: as)]).2
theorem num_is {n : Nat} {A B : Prop} (i : Nat) (h1 : n = i → A) (h2 : n ≠ i → B) : if decide (V.int (n : Int) = V.int (i : Int)) = true then A else B := by
  rw [int_eq]
  refine if_b (fun c => h1 (of_decide_eq_true c)) (fun c => h2 (of_decide_eq_false c))
theorem fact_tup {as : List Nat} (h : as.length = 3) : nV as = fV ⟨as.getD 0 0, as.getD 1 0, as.getD 2 0⟩ := by
  match as, h with
  | [t, a, b], _ => rfl
theorem not_none {R : Addr → Prop} {H H1 : Hp} (h : ∀ b, R b → H b ≠ none) (s : Same H H1) : ∀ b, R b → H1 b ≠ none := fun b hb e => h b hb (Same.free s e)
theorem RetS.from {C : Addr} {R : Addr → Prop} {H H1 : Hp} {Q : VK} {p : Addr} {S' : House} {zs : List Int} (k : RetS C R H Q p S' zs) (s : Same H H1) : RetS C R H1 Q p S' zs := fun r H2 nr kp st il => k r H2 (Same.free s nr) ((Keep.of s).trans kp) st il
section
variable {P : Program} {w : World} {K : PySem.W.Frag} {mg : Str → Option Value} {base : Heap} {C : Addr}
theorem scOne : FnScope ["stores", "number", "store", "fact"] ["stores", "number", "store", "fact"] (defScope sOne) := ⟨rfl, rfl, rfl, by decide +kernel, rfl, by decide +kernel, by decide +kernel⟩
theorem ok_one {f : Addr} {fd : FuncData} (F : Fun K "answer_on_one" "answer_on_one" sOne f fd) (T : Txt K C) (c0 : Cst mg "NO_SUCH_STORE" (-2)) (c1 : Cst mg "FACT" 1) (c2 : Cst mg "GONE" 2) (c3 : Cst mg "FACTS" 3) (c4 : Cst mg "CORE" 4) (c5 : Cst mg "SPARE" 5) (c6 : Cst mg "MAP" 6)
    (M1 : Mt P w K mg base C 3 "fact" ["self", "store", "new"] (spOf C Dx03.Call.fact)) (M2 : Mt P w K mg base C 2 "gone" ["self", "store", "old"] (spOf C Dx03.Call.gone)) (M3 : Mt P w K mg base C 2 "facts" ["self", "store"] (spOn C Dx03.Call.facts))
    (M4 : Mt P w K mg base C 14 "core" ["self", "store"] (spOn C Dx03.Call.core)) (M5 : Mt P w K mg base C 14 "spare" ["self", "store"] (spOn C Dx03.Call.spare)) (M6 : Mt P w K mg base C 12 "into_other" ["self", "store"] (spOn C Dx03.Call.map)) (M9 : Mt P w K mg base C 14 "keep" ["self", "store"] (spOn C Dx03.Call.keep)) :
    FnOk P w K mg base CX0 15 f fd ["stores", "number", "store", "fact"] (spOne C) := by
  obtain ⟨t0, c0⟩ := c0
  obtain ⟨t1, c1⟩ := c1
  obtain ⟨t2, c2⟩ := c2
  obtain ⟨t3, c3⟩ := c3
  obtain ⟨t4, c4⟩ := c4
  obtain ⟨t5, c5⟩ := c5
  obtain ⟨t6, c6⟩ := c6
  obtain ⟨f1, fd1, G1, b1, m1⟩ := M1.ex
  obtain ⟨f2, fd2, G2, b2, m2⟩ := M2.ex
  obtain ⟨f3, fd3, G3, b3, m3⟩ := M3.ex
  obtain ⟨f4, fd4, G4, b4, m4⟩ := M4.ex
  obtain ⟨f5, fd5, G5, b5, m5⟩ := M5.ex
  obtain ⟨f6, fd6, G6, b6, m6⟩ := M6.ex
  obtain ⟨f9, fd9, G9, b9, m9⟩ := M9.ex
  refine F.ok scOne (fun vs H Q E h => ?_) (fun cdv A outer s H vs Q E hr h => ?_)
  · obtain ⟨R, p, q, n, k, S, as, rfl, _⟩ := h
    rfl
  · obtain ⟨R, p, q, n, k, S, as, rfl, st, hR, ok, hq, h3, kk⟩ := h
    refine ⟨_, pss_cons (ps_if (pt_cmpR op_notIn_seq (pv 2) (pe_tup (pa_cons pe_int (pa_cons pe_int pa_nil))) rfl) (pss_one (ps_ret (pe_lst (pa_cons (pe_glob (v := .int (-2)) rfl c0 ⟨_, rfl⟩) pa_nil)))) pss_nil)
      (pss_cons (ps_if (pt_cmpR op_eq (pv 1) (pe_glob (v := .int 1) rfl c1 ⟨_, rfl⟩) (nomark _)) (pss_one (ps_ret (pe_meth (pv 0) T.cl m1 G1 (hr.mono (by decide)) b1 .nil pass0 (pa_cons (pv 2) (pa_cons (pv 3) pa_nil))))) pss_nil)
      (pss_cons (ps_if (pt_cmpR op_eq (pv 1) (pe_glob (v := .int 2) rfl c2 ⟨_, rfl⟩) (nomark _)) (pss_one (ps_ret (pe_meth (pv 0) T.cl m2 G2 (hr.mono (by decide)) b2 .nil pass0 (pa_cons (pv 2) (pa_cons (pv 3) pa_nil))))) pss_nil)
      (pss_cons (ps_if (pt_cmpR op_eq (pv 1) (pe_glob (v := .int 3) rfl c3 ⟨_, rfl⟩) (nomark _)) (pss_one (ps_ret (pe_meth (pv 0) T.cl m3 G3 (hr.mono (by decide)) b3 .nil pass0 (pa_cons (pv 2) pa_nil)))) pss_nil)
      (pss_cons (ps_if (pt_cmpR op_eq (pv 1) (pe_glob (v := .int 4) rfl c4 ⟨_, rfl⟩) (nomark _)) (pss_one (ps_ret (pe_meth (pv 0) T.cl m4 G4 hr b4 .nil pass0 (pa_cons (pv 2) pa_nil)))) pss_nil)
      (pss_cons (ps_if (pt_cmpR op_eq (pv 1) (pe_glob (v := .int 5) rfl c5 ⟨_, rfl⟩) (nomark _)) (pss_one (ps_ret (pe_meth (pv 0) T.cl m5 G5 hr b5 .nil pass0 (pa_cons (pv 2) pa_nil)))) pss_nil)
      (pss_cons (ps_if (pt_cmpR op_eq (pv 1) (pe_glob (v := .int 6) rfl c6 ⟨_, rfl⟩) (nomark _)) (pss_one (ps_ret (pe_meth (pv 0) T.cl m6 G6 (hr.mono (by decide)) b6 .nil pass0 (pa_cons (pv 2) pa_nil)))) pss_nil)
      (pss_one (ps_ret (pe_meth (pv 0) T.cl m9 G9 hr b9 .nil pass0 (pa_cons (pv 2) pa_nil)))))))))), ?_⟩
    refine ⟨_, rfl, by show 2 ≤ sizeLine; decide, fun t nt => ?_⟩
    have s1 : Same H (upd H t (.tup [V.int 0, V.int 1])) := Same.one nt
    have st1 := st.mono s1
    have hq1 := s1 _ _ hq
    have hR1 := not_none hR s1
    replace kk := RetS.from kk s1
    refine ⟨t, _, rfl, .inr (SqT.of upd_same), rfl, rfl, _, rfl, ?_⟩
    rw [if_pos rfl, in01]
    refine if_b (fun c => ?_) (fun c => ?_)
    · have hk : 1 < k := by simp at c; omega
      rw [step_hi hk] at kk
      exact ⟨by show 1 ≤ sizeLine; decide, fun r nr => kk r _ nr (Keep.of (Same.one nr)) (st1.mono (Same.one nr)) upd_same⟩
    have hk : k ≤ 1 := by simp at c; omega
    obtain ⟨dx, g, _, _, hp, _⟩ := id st1
    refine ⟨_, rfl, rfl, _, rfl, num_is 1 (fun e => ?_) (fun e1 => ?_)⟩
    · subst e
      rw [fact_tup (h3 (.inl rfl))] at hq1
      exact ⟨_, rfl, p, dx, _, rfl, hp, hF_no g (by decide +kernel), _, rfl, _, rfl, R, p, q, k, S, _, rfl, st1, hR1, ok, hk, hq1, kk⟩
    refine ⟨_, rfl, rfl, _, rfl, num_is 2 (fun e => ?_) (fun e2 => ?_)⟩
    · subst e
      rw [fact_tup (h3 (.inr rfl))] at hq1
      exact ⟨_, rfl, p, dx, _, rfl, hp, hF_no g (by decide +kernel), _, rfl, _, rfl, R, p, q, k, S, _, rfl, st1, hR1, ok, hk, hq1, kk⟩
    refine ⟨_, rfl, rfl, _, rfl, num_is 3 (fun e => ?_) (fun e3 => ?_)⟩
    · subst e
      exact ⟨_, rfl, p, dx, _, rfl, hp, hF_no g (by decide +kernel), _, rfl, R, p, k, S, rfl, st1, hR1, ok, hk, kk⟩
    refine ⟨_, rfl, rfl, _, rfl, num_is 4 (fun e => ?_) (fun e4 => ?_)⟩
    · subst e
      exact ⟨_, rfl, p, dx, _, rfl, hp, hF_no g (by decide +kernel), _, rfl, R, p, k, S, rfl, st1, hR1, ok, hk, kk⟩
    refine ⟨_, rfl, rfl, _, rfl, num_is 5 (fun e => ?_) (fun e5 => ?_)⟩
    · subst e
      exact ⟨_, rfl, p, dx, _, rfl, hp, hF_no g (by decide +kernel), _, rfl, R, p, k, S, rfl, st1, hR1, ok, hk, kk⟩
    refine ⟨_, rfl, rfl, _, rfl, num_is 6 (fun e => ?_) (fun e6 => ?_)⟩
    · subst e
      exact ⟨_, rfl, p, dx, _, rfl, hp, hF_no g (by decide +kernel), _, rfl, R, p, k, S, rfl, st1, hR1, ok, hk, kk⟩
    · have e : callN n k as = .keep k := by
        unfold callN
        rw [if_neg e1, if_neg e2, if_neg e3, if_neg e4, if_neg e5, if_neg e6]
      rw [e] at kk
      exact ⟨_, rfl, p, dx, _, rfl, hp, hF_no g (by decide +kernel), _, rfl, R, p, k, S, rfl, st1, hR1, ok, hk, kk⟩
theorem scAns : FnScope ["stores", "number", "arguments"] ["stores", "number", "arguments"] (defScope sAns) := ⟨rfl, rfl, rfl, by decide +kernel, rfl, by decide +kernel, by decide +kernel⟩
theorem ok_answer {f f1 : Addr} {fd fd1 : FuncData} (F : Fun K "answer" "answer" sAns f fd) (T : Txt K C) (B : Blt mg) (c0 : Cst mg "BEGINS" 0) (c7 : Cst mg "SAME" 7) (c8 : Cst mg "ALIKE" 8)
    (M0 : Mt P w K mg base C 1 "begins" ["self"] (spBegins C)) (M7 : Mt P w K mg base C 14 "same" ["self"] (spNo C Dx03.Call.same)) (M8 : Mt P w K mg base C 8 "alike" ["self"] (spNo C Dx03.Call.alike))
    (D1 : Df K mg "answer_on_one" sOne ["stores", "number", "store", "fact"] f1 fd1) (G1 : FnOk P w K mg base CX0 15 f1 fd1 ["stores", "number", "store", "fact"] (spOne C)) :
    FnOk P w K mg base CX0 16 f fd ["stores", "number", "arguments"] (spAns C) := by
  obtain ⟨t0, c0⟩ := c0
  obtain ⟨t7, c7⟩ := c7
  obtain ⟨t8, c8⟩ := c8
  obtain ⟨f0, fd0, G0, b0, m0⟩ := M0.ex
  obtain ⟨f7, fd7, G7, b7, m7⟩ := M7.ex
  obtain ⟨f8, fd8, G8, b8, m8⟩ := M8.ex
  refine F.ok scAns (fun vs H Q E h => ?_) (fun cdv A outer s H vs Q E hr h => ?_)
  · obtain ⟨R, p, a, n, S, as, rfl, _⟩ := h
    rfl
  · obtain ⟨R, p, a, n, S, as, rfl, st, hR, ok, ha, h9, hl, kk⟩ := h
    refine ⟨_, pss_cons (ps_if (pt_cmpR op_eq (pv 1) (pe_glob (v := .int 0) rfl c0 ⟨_, rfl⟩) (nomark _)) (pss_one (ps_ret (pe_meth0 (pv 0) T.cl m0 G0 (hr.mono (by decide)) b0 .nil pass0))) pss_nil)
      (pss_cons (ps_if (pt_cmpR op_eq (pv 1) (pe_glob (v := .int 7) rfl c7 ⟨_, rfl⟩) (nomark _)) (pss_one (ps_ret (pe_meth0 (pv 0) T.cl m7 G7 (hr.mono (by decide)) b7 .nil pass0))) pss_nil)
      (pss_cons (ps_if (pt_cmpR op_eq (pv 1) (pe_glob (v := .int 8) rfl c8 ⟨_, rfl⟩) (nomark _)) (pss_one (ps_ret (pe_meth0 (pv 0) T.cl m8 G8 (hr.mono (by decide)) b8 .nil pass0))) pss_nil)
      (pss_one (ps_ret (pe_call G1 hr rfl D1.g D1.F.kp D1.b .nil pass0 (pa_cons (pv 0) (pa_cons (pv 1) (pa_cons (pe_ix ix_list (pv 2) pe_int (fun _ _ => rfl)) (pa_cons (pe_callTy call_tuple_of (by rfl) B.tuple (by decide +kernel) (pa_cons (pe_slice sl_list (pv 2) (po_some pe_int) po_none) pa_nil)) pa_nil))))))))), ?_⟩
    obtain ⟨dx, g, _, _, hp, _⟩ := id st
    rw [step_is h9 hl] at kk
    dsimp only at kk
    refine ⟨_, rfl, rfl, _, rfl, num_is 0 (fun e => ?_) (fun e0 => ?_)⟩
    · subst e
      exact ⟨_, rfl, p, dx, _, rfl, hp, hF_no g (by decide +kernel), R, p, S, rfl, st, hR, kk⟩
    refine ⟨_, rfl, rfl, _, rfl, num_is 7 (fun e => ?_) (fun e7 => ?_)⟩
    · subst e
      exact ⟨_, rfl, p, dx, _, rfl, hp, hF_no g (by decide +kernel), R, p, S, rfl, st, hR, ok, kk⟩
    refine ⟨_, rfl, rfl, _, rfl, num_is 8 (fun e => ?_) (fun e8 => ?_)⟩
    · subst e
      exact ⟨_, rfl, p, dx, _, rfl, hp, hF_no g (by decide +kernel), R, p, S, rfl, st, hR, ok, kk⟩
    rw [if_neg e0, if_neg e7, if_neg e8] at kk
    obtain ⟨k, r, rfl⟩ : ∃ k r, as = k :: r := by
      cases as with
      | nil =>
        have key : ∀ n, n ≤ 9 → cnt n = 0 → n = 0 ∨ n = 7 ∨ n = 8 := by decide
        rcases key n h9 hl.symm with e | e | e
        · exact absurd e e0
        · exact absurd e e7
        · exact absurd e e8
      | cons k r => exact ⟨k, r, rfl⟩
    have ecut : cutV (nV (k :: r)) (some 1) none = nV r := cut1 _ _
    refine ⟨_, rfl, _, rfl, _, rfl, a, nV (k :: r), 0, V.int (k : Int), rfl, rfl, SqL.of ha, atI_nat (xs := nV (k :: r)) (j := 0) rfl, _, rfl, 1, rfl, a, nV (k :: r), rfl, SqL.of ha, fun u nu => ?_⟩
    rw [ecut]
    have s1 : Same H (upd H u (.lst (nV r))) := Same.one nu
    refine ⟨u, _, rfl, .inl ⟨SqL.of upd_same, fun q nq => ?_⟩⟩
    have s2 := Same.new (o := .tup (nV r)) s1 (Same.free s1 nq)
    refine ⟨R, p, q, n, k, S, r, rfl, st.mono s2, not_none hR s2, ok, upd_same, fun h12 => ?_, RetS.from kk s2⟩
    rcases h12 with rfl | rfl
    · have : (k :: r).length = 4 := hl
      rw [List.length_cons] at this
      omega
    · have : (k :: r).length = 4 := hl
      rw [List.length_cons] at this
      omega
end
end Fc

namespace Fc
open PySem PySem.Spec PyProof.Rows L2 FcS
open Dx (Fact Facts Map)
open Dx03 (House)
theorem ints_ne {l : List Int} {x y : Addr} : (HO.lst (l.map V.int)) ≠ .lst [V.ref x, V.ref y] := fun e => by
  injection e with e
  cases l with
  | nil => cases e
  | cons a l => cases e
/-- the list that is handed in, at a, as it was at the beginning -/
def Zat (K : PySem.W.Frag) (H0 : Hp) (a : Addr) (ms : List Nat) (H : Hp) : Prop :=
  (∃ o, H0 a = some o ∧ H a = some o ∧ (o = .lst (nV ms) ∨ ∃ u, o = .frz u (.lst (nV ms)))) ∨ (∀ H', SqL K H' a (nV ms))
theorem Zat.start {K : PySem.W.Frag} {H : Hp} {a : Addr} {ms : List Nat} (h : SqL K H a (nV ms)) : Zat K H a ms H := by
  rcases h with (h | ⟨u, h⟩) | h
  · exact .inl ⟨_, h, h, .inl rfl⟩
  · exact .inl ⟨_, h, h, .inr ⟨u, rfl⟩⟩
  · exact .inr fun _ => .inr h
theorem Zat.sq {K : PySem.W.Frag} {H0 H : Hp} {a : Addr} {ms : List Nat} (h : Zat K H0 a ms H) : SqL K H a (nV ms) := by
  rcases h with ⟨o, _, h, e | ⟨u, e⟩⟩ | h
  · exact .inl (.inl (e ▸ h))
  · exact .inl (.inr ⟨u, e ▸ h⟩)
  · exact h H
theorem Zat.same {K : PySem.W.Frag} {H0 H H' : Hp} {a : Addr} {ms : List Nat} (h : Zat K H0 a ms H) (s : Same H H') : Zat K H0 a ms H' := by
  rcases h with ⟨o, h0, h, e⟩ | h
  · exact .inl ⟨o, h0, s _ _ h, e⟩
  · exact .inr h
theorem Zat.keep {K : PySem.W.Frag} {H0 H H' : Hp} {a p : Addr} {ms : List Nat} (h : Zat K H0 a ms H) (hp : H0 p = none) (s : Keep H H' p) : Zat K H0 a ms H' := by
  rcases h with ⟨o, h0, h, e⟩ | h
  · refine .inl ⟨o, h0, s _ _ h (ne_of_none h0 hp) (fun x y z => ?_), e⟩
    rcases e with e | ⟨u, e⟩
    · exact ints_ne (e.symm.trans z)
    · rw [z] at e
      cases e
  · exact .inr h
theorem Zat.upd {K : PySem.W.Frag} {H0 H : Hp} {a r : Addr} {ms : List Nat} {o : HO} (h : Zat K H0 a ms H) (hr : H0 r = none) : Zat K H0 a ms (L2.upd H r o) := by
  rcases h with ⟨o', h0, h, e⟩ | h
  · exact .inl ⟨o', h0, by rw [upd_ne (ne_of_none h0 hr)]; exact h, e⟩
  · exact .inr h
theorem cut_nat (xs : List V) {a b : Nat} (hb : b ≤ xs.length) (ha : a ≤ b) : cutV xs (some (a : Int)) (some (b : Int)) = (xs.drop a).take (b - a) := by
  unfold cutV
  rw [HT.sIx_nat, HT.sIx_nat]
  rw [Nat.min_eq_left hb, Nat.min_eq_left (Nat.le_trans ha hb)]
theorem FA.updN {H : Hp} {a r : Addr} {l : Facts} {o u : HO} (ha : FA H a l) (ar : a ≠ r) (hr : H r = some u) (hu : ∀ xs, u ≠ .tup xs) : FA (L2.upd H r o) a l := by
  obtain ⟨qs, q1, q2, q3⟩ := ha
  exact ⟨qs, by rw [upd_ne ar]; exact q1, fun q hq => by rw [upd_ne (ne_of (q2 q hq) hr (fun e => hu _ e.symm))]; exact q2 q hq, q3⟩
theorem StoresAt.updN {C : Addr} {H : Hp} {p r : Addr} {S : House} {l : List Int} {o : HO} (h : StoresAt C (fun b => b = r) H p S) (hr : IL H r l) : StoresAt C (fun b => b = r) (L2.upd H r o) p S := by
  obtain ⟨dx, g, a0, a1, h1, h2, h3, h4, n1, n2, n3⟩ := h
  have pr : p ≠ r := ne_of h1 hr (by intro z; cases z)
  exact ⟨dx, g, a0, a1, by rw [upd_ne pr]; exact h1, by rw [upd_ne n1]; exact h2, h3.updN n2 hr (by intro xs z; cases z), h4.updN n3 hr (by intro xs z; cases z), n1, n2, n3⟩
theorem StoresAt.aside {C : Addr} {R : Addr → Prop} {H : Hp} {p r : Addr} {S : House} {o : HO} (h : StoresAt C R H p S) (hr : H r = none) : StoresAt C (fun b => b = r) (L2.upd H r o) p S := by
  obtain ⟨dx, g, a0, a1, h1, h2, h3, h4, _⟩ := h
  have s : Same H (L2.upd H r o) := Same.one hr
  obtain ⟨qs, q1, _⟩ := id h3
  obtain ⟨rs, r1, _⟩ := id h4
  exact ⟨dx, g, a0, a1, s _ _ h1, s _ _ h2, h3.mono s, h4.mono s, ne_of_none h2 hr, ne_of_none q1 hr, ne_of_none r1 hr⟩
def counts : List V := [V.int 0, V.int 4, V.int 4, V.int 1, V.int 1, V.int 1, V.int 1, V.int 0, V.int 0, V.int 1]
theorem counts_get {n : Nat} (h : n ≤ 9) : counts[n]? = some (V.int (cnt n : Int)) := by
  match n, h with
  | 0, _ => rfl
  | 1, _ => rfl
  | 2, _ => rfl
  | 3, _ => rfl
  | 4, _ => rfl
  | 5, _ => rfl
  | 6, _ => rfl
  | 7, _ => rfl
  | 8, _ => rfl
  | 9, _ => rfl
def spAll (K : PySem.W.Frag) : Sp := fun vs H Q _ => ∃ (a : Addr) (ms : List Nat) (f : Nat) (cs : List (List (List Int))), vs = [.ref a] ∧ SqL K H a (nV ms) ∧ PyFlat.calls PyDx03.shape f (zs ms) = some cs ∧ (due Dx03.init cs).length ≤ 10000000 ∧
  ∀ (H' : Hp) (r : Addr), IL H' r (due Dx03.init cs) → Q (.ref r) H'
section
variable {P : Program} {w : World} {K : PySem.W.Frag} {mg : Str → Option Value} {base : Heap} {C : Addr}
theorem scAll : FnScope ["calls", "stores", "answered", "start", "number", "end", "result"] ["calls"] (defScope sAll) := ⟨rfl, rfl, rfl, by decide +kernel, rfl, by decide +kernel, by decide +kernel⟩
theorem ok_all {f fI f1 tA : Addr} {fd fdI fd1 : FuncData} (F : Fun K "answers" "answers" sAll f fd) (T : Txt K C) (B : Blt mg) (gC : mg "Stores" = some (.ref C)) (M : Mk K C fI) (GI : FnOk P w K mg base CX0 1 fI fdI ["self"] (spInit C)) (bI : Binds K fdI ["self"] [])
    (gA : mg "ARGUMENT_COUNTS" = some (.ref tA)) (hA : ∀ H, SqT K H tA counts)
    (D1 : Df K mg "answer" sAns ["stores", "number", "arguments"] f1 fd1) (G1 : FnOk P w K mg base CX0 16 f1 fd1 ["stores", "number", "arguments"] (spAns C)) : FnOk P w K mg base CX0 17 f fd ["calls"] (spAll K) := by
  refine F.ok scAll (fun vs H Q E h => ?_) (fun cdv A outer s H vs Q E hr h => ?_)
  · obtain ⟨a, ms, f, cs, rfl, _⟩ := h
    rfl
  · obtain ⟨a, ms, fu, calls, rfl, hq, hc, hbig, k⟩ := h
    refine ⟨_, pss_cons (ps_set (i := 1) scAll.nd rfl (.inl rfl) (pe_make0 M GI (hr.mono (by decide)) rfl gC bI .nil pass0))
      (pss_cons (ps_set (i := 2) scAll.nd rfl (.inl rfl) (pe_lst pa_nil))
      (pss_cons (ps_set (i := 3) scAll.nd rfl (.inl rfl) pe_int)
      (pss_cons (ps_while PassesOwn.never (pt_cmpR op_lt (pv 3) (pe_callB call_len_seq (by rfl) B.len PySem.boot_len (pa_cons (pv 0) pa_nil)) (nomark _))
        (pss_cons (ps_set (i := 4) scAll.nd rfl (.inl rfl) (pe_ix ix_list (pv 0) (pv 3) (fun _ _ => rfl)))
        (pss_cons (ps_set (i := 5) scAll.nd rfl (.inl rfl) (pe_op op_add (pe_op op_add (pv 3) pe_int) (pe_ix ix_tup (pe_glob (v := .ref tA) rfl gA rfl) (pv 4) (fun _ _ => rfl))))
        (pss_cons (ps_set (i := 6) scAll.nd rfl (.inl rfl) (pe_call G1 hr rfl D1.g D1.F.kp D1.b .nil pass0 (pa_cons (pv 1) (pa_cons (pv 4) (pa_cons (pe_slice sl_list (pv 0) (po_some (pe_op op_add (pv 3) pe_int)) (po_some (pv 5))) pa_nil)))))
        (pss_cons (ps_expr (pe_bm PySem.F.plainAttrs_list PySem.F.slot_list_append PySem.F.type_list_append mt_append (pv 2) (pa_cons (pe_callB call_len_seq (by rfl) B.len PySem.boot_len (pa_cons (pv 6) pa_nil)) pa_nil)))
        (pss_cons (ps_expr (pe_bm PySem.F.plainAttrs_list PySem.F.slot_list_extend PySem.F.type_list_extend mt_extend (pv 2) (pa_cons (pv 6) pa_nil)))
        (pss_one (ps_set (i := 3) scAll.nd rfl (.inl rfl) (pv 5)))))))))
      (pss_one (ps_ret (pv 2)))))), ?_⟩
    -- stores = Stores()
    intro p dx np nd ne
    refine ⟨p, dx, rfl, upd_same, fun H1 st1 k1 => ⟨rfl, ?_⟩⟩
    have s1 : Same H H1 := Same.made np nd k1
    -- answered = []
    refine ⟨Nat.zero_le _, fun r nr => ?_⟩
    have s2 : Same H (upd H1 r (.lst [])) := s1.trans (Same.one nr)
    have nr0 : H r = none := Same.free s1 nr
    refine ⟨fun m σ H' => ∃ (start : Nat) (ans : List Int) (S : House) (cs : List (List (List Int))) (fu : Nat) (v4 v5 v6 : Option V), σ = [some (.ref a), some (.ref p), some (.ref r), some (.int (start : Int)), v4, v5, v6] ∧ Zat K H a ms H' ∧ StoresAt C (fun b => b = r) H' p S ∧ Hok S ∧ IL H' r ans ∧
        PyFlat.calls PyDx03.shape fu (zs (ms.drop start)) = some cs ∧ due Dx03.init calls = ans ++ due S cs ∧ start ≤ ms.length ∧ m = ms.length - start,
      ⟨_, 0, [], Dx03.init, calls, fu, none, none, none, rfl, (Zat.start hq).same s2, st1.aside nr, ⟨ok_empty, ok_empty⟩, upd_same, hc, rfl, Nat.zero_le _, rfl⟩, ?_⟩
    rintro m σ H' ⟨start, ans, S, cs, fu, v4, v5, v6, rfl, z, st, ok, ia, hcs, hdue, hst, rfl⟩
    have sq := z.sq
    refine ⟨_, rfl, _, rfl, a, _, rfl, .inl sq, _, _, rfl, rfl, _, rfl, ?_⟩
    rw [nV_len]
    refine if_b (fun c => ?_) (fun c => ?_)
    · have lt : start < ms.length := by
        have := of_decide_eq_true c
        omega
      obtain ⟨n, rest, en⟩ : ∃ n rest, ms.drop start = n :: rest := by
        cases e : ms.drop start with
        | nil =>
          have := congrArg List.length e
          rw [List.length_drop, List.length_nil] at this
          omega
        | cons n rest => exact ⟨n, rest, rfl⟩
      have en0 : ms[start]? = some n := by
        have := congrArg (fun l => l[0]?) en
        simpa using this
      have er : ms.drop (start + 1) = rest := by
        rw [← List.drop_drop, en]
        rfl
      have lr : rest.length = ms.length - (start + 1) := by rw [← er, List.length_drop]
      rw [en] at hcs
      obtain ⟨h9, hl, fu', cs', rfl, hcs'⟩ := calls_cons hcs
      rw [due_cons] at hdue
      have hlen := congrArg List.length hdue
      simp only [List.length_append, List.length_cons] at hlen
      have ht : (rest.take (cnt n)).length = cnt n := by rw [List.length_take]; omega
      have e1 : (start : Int) + 1 = ((start + 1 : Nat) : Int) := by omega
      have e2 : (start : Int) + 1 + (cnt n : Int) = ((start + 1 + cnt n : Nat) : Int) := by omega
      -- number = calls[start]; end = start + 1 + ARGUMENT_COUNTS[number]
      refine ⟨fun σ' H2 => ∃ (S : House) (ans : List Int) (v4 v5 v6 : Option V), σ' = [some (.ref a), some (.ref p), some (.ref r), some (.int ((start + 1 + cnt n : Nat) : Int)), v4, v5, v6] ∧ Zat K H a ms H2 ∧ StoresAt C (fun b => b = r) H2 p S ∧ Hok S ∧ IL H2 r ans ∧ due Dx03.init calls = ans ++ due S cs',
        fun σ' H2 ⟨S, ans, v4, v5, v6, q1, q2, q3, q4, q5, q6⟩ => ⟨ms.length - (start + 1 + cnt n), by omega, start + 1 + cnt n, ans, S, cs', fu', v4, v5, v6, q1, q2, q3, q4, q5, ?_, q6, by omega, rfl⟩, ?_⟩
      · rw [← List.drop_drop, er]
        exact hcs'
      refine ⟨_, rfl, _, rfl, a, nV ms, (start : Int), V.int (n : Int), rfl, rfl, sq, atI_nat (get_nV en0), ?_⟩
      refine ⟨_, rfl, _, _, rfl, rfl, _, rfl, tA, counts, (n : Int), V.int (cnt n : Int), rfl, rfl, hA _, atI_nat (counts_get h9), _, _, rfl, rfl, ?_⟩
      -- result = answer(stores, number, calls[start + 1:end])
      refine ⟨_, rfl, _, rfl, _, rfl, _, rfl, _, _, rfl, rfl, _, rfl, _, rfl, (start : Int) + 1 + (cnt n : Int), rfl, a, nV ms, rfl, sq, fun u nu => ?_⟩
      have ecut : cutV (nV ms) (some ((start : Int) + 1)) (some ((start : Int) + 1 + (cnt n : Int))) = nV (rest.take (cnt n)) := by
        rw [e2, e1, cut_nat _ (by rw [nV_len]; omega) (by omega)]
        have e3 : start + 1 + cnt n - (start + 1) = cnt n := by omega
        rw [e3, ← er]
        unfold nV cs
        rw [List.map_take, List.map_take, List.map_drop, List.map_drop]
      rw [ecut]
      have s3 : Same H' (upd H' u (.lst (nV (rest.take (cnt n))))) := Same.one nu
      obtain ⟨dx', g', _, _, hp', _⟩ := id st
      have rp : r ≠ p := ne_of ia hp' (by intro z; cases z)
      refine ⟨fun b => b = r, p, u, n, S, rest.take (cnt n), rfl, st.mono s3, fun b hb e => ?_, ok, upd_same, h9, ht, fun q H2 nq kp st2 il => ?_⟩
      · subst hb
        rw [s3 _ _ ia] at e
        cases e
      have ir := s3 _ _ ia
      have ia2 : IL H2 r ans := kp r _ ir rp fun x y => ints_ne
      have z2 : Zat K H a ms H2 := (z.same s3).keep np kp
      have qr : q ≠ r := Ne.symm (ne_of_none ir nq)
      have ok2 : Hok (Dx03Neutral.step S [zs (n :: rest.take (cnt n))]).1 := by
        rw [step_is h9 ht]
        exact step_ok ok _
      generalize eR : (Dx03Neutral.step S [zs (n :: rest.take (cnt n))]).2 = rs at *
      generalize eS : (Dx03Neutral.step S [zs (n :: rest.take (cnt n))]).1 = S' at *
      -- answered.append(len(result)); answered.extend(result)
      have b1 : ans.length + 1 + rs.length ≤ 10000000 := by omega
      refine ⟨_, rfl, .inl ⟨rfl, _, SqL.of ia2⟩, _, rfl, q, _, rfl, .inl (SqL.of il), r, _, _, rfl, rfl, ia2, ?_, ?_⟩
      · rw [List.length_map]
        exact Nat.lt_of_le_of_lt (show ans.length ≤ 10000000 by omega) (by decide)
      rw [List.length_map]
      have ia3 : IL (upd H2 r (.lst (ans.map V.int ++ [V.int (rs.length : Int)]))) r (ans ++ [(rs.length : Int)]) := by
        unfold IL
        rw [upd_same, List.map_append]
        rfl
      refine ⟨_, rfl, .inl ⟨rfl, _, SqL.of upd_same⟩, _, rfl, r, q, _, _, rfl, rfl, upd_same, by rw [upd_ne qr]; exact il, ?_, ?_⟩
      · rw [List.length_append, List.length_map, List.length_map]
        exact Nat.le_trans (show ans.length + 1 + rs.length ≤ 10000000 from b1) (by decide)
      refine ⟨_, rfl, S', ans ++ [(rs.length : Int)] ++ rs, _, _, _, by rw [← e2]; rfl, (z2.upd nr0).upd nr0, (st2.updN ia2).updN ia3, ok2, ?_, ?_⟩
      · unfold IL
        rw [upd_same, List.map_append, List.map_append]
        rfl
      · rw [hdue]
        simp
    · have ge : start = ms.length := by
        have := of_decide_eq_false c
        omega
      subst ge
      rw [List.drop_length] at hcs
      have : cs = [] := calls_nil hcs
      subst this
      rw [due_nil, List.append_nil] at hdue
      exact ⟨_, rfl, k _ _ (by rw [hdue]; exact ia)⟩
end
end Fc

namespace Fc
open PySem PySem.Spec PyProof.Rows L2 FcS
open Dx (Fact Facts Map)
open Dx03 (House)
/-- a def that the top has written -/
def Fnd (K : PySem.W.Frag) (nm : Str) (st : Stmt) : Prop := ∃ (f : Addr) (fd : FuncData), PySem.W.nsIn K mainGlobals nm = some (some (.ref f)) ∧ Fun K nm nm st f fd
theorem Fnd.of {K : PySem.W.Frag} {nm : Str} {st : Stmt} {f : Addr} {od an : Option Addr} {sl : Array (Option Value)} {oc kV dc pm cd ct : Value} (a : PySem.W.nsIn K mainGlobals nm = some (some (.ref f)))
    (l : K.lookup f = some ⟨oc, od, .func (PySem.W.fnOf nm nm (defArgs st) (defBody st) (defScope st) .none kV dc pm an cd ct), sl⟩) (c : PySem.W.codeIn K cd nm = true) (k : PySem.W.keepIn K (.ref f) = true) : Fnd K nm st :=
  ⟨f, _, a, fun_mk (st := st) l c k⟩
theorem Fnd.df {K : PySem.W.Frag} {h : Heap} {mg : Str → Option Value} {nm : Str} {st : Stmt} (D : Fnd K nm st) (X : K.In h) (G : h.Ns mainGlobals mg) (ps : List Str)
    (hb : ∀ (kV doc pm : Value) (an : Option Addr) (cdv ct : Value) (us : List Value), us.length = ps.length → bindArgs (PySem.W.fnOf nm nm (defArgs st) (defBody st) (defScope st) .none kV doc pm an cdv ct) ⟨us, []⟩ = pure (ps.zip us)) : ∃ f fd, Df K mg nm st ps f fd := by
  obtain ⟨f, fd, a, F⟩ := D
  exact ⟨f, fd, F, F.binds (ps := ps) hb, PySem.W.mg_of X G a⟩
/-- a method that the top has written -/
def Mfd (K : PySem.W.Frag) (C : Addr) (nm qual : Str) (st : Stmt) : Prop := ∃ (f : Addr) (fd : FuncData), Meth K C nm f ∧ Fun K nm qual st f fd
theorem Mfd.of {K : PySem.W.Frag} {C : Addr} {nm qual : Str} {st : Stmt} {f : Addr} {od an : Option Addr} {sl : Array (Option Value)} {oc kV dc pm cd ct : Value} (a : PySem.W.findIn K (.ref C) nm = some (some (.ref f))) (i : PySem.W.isFn K (.ref f) = true)
    (l : K.lookup f = some ⟨oc, od, .func (PySem.W.fnOf nm qual (defArgs st) (defBody st) (defScope st) .none kV dc pm an cd ct), sl⟩) (c : PySem.W.codeIn K cd qual = true) (k : PySem.W.keepIn K (.ref f) = true) : Mfd K C nm qual st :=
  ⟨f, _, ⟨a, i, k⟩, fun_mk (st := st) l c k⟩
theorem Mfd.mf {K : PySem.W.Frag} {C : Addr} {nm qual : Str} {st : Stmt} (D : Mfd K C nm qual st) (ps : List Str)
    (hb : ∀ (kV doc pm : Value) (an : Option Addr) (cdv ct : Value) (us : List Value), us.length = ps.length → bindArgs (PySem.W.fnOf nm qual (defArgs st) (defBody st) (defScope st) .none kV doc pm an cdv ct) ⟨us, []⟩ = pure (ps.zip us)) : ∃ f fd, Fun K nm qual st f fd ∧ L2.Binds K fd ps [] ∧ Meth K C nm f := by
  obtain ⟨f, fd, m, F⟩ := D
  exact ⟨f, fd, F, F.binds (ps := ps) hb, m⟩
/-- what the top has written, all of it -/
structure Top (K : PySem.W.Frag) (C tA : Addr) : Prop where
  f_is_unknown : Fnd K "is_unknown" (top 2)
  f_values_of : Fnd K "values_of" (top 3)
  f_unknowns_of : Fnd K "unknowns_of" (top 4)
  f_without : Fnd K "without" (top 5)
  f_facts_under : Fnd K "facts_under" (top 7)
  f_may_become_value : Fnd K "may_become_value" (top 8)
  f_may_become : Fnd K "may_become" (top 9)
  f_may_become_one_of : Fnd K "may_become_one_of" (top 10)
  f_fits : Fnd K "fits" (top 11)
  f_first_completion : Fnd K "first_completion" (top 12)
  f_first_mapping : Fnd K "first_mapping" (top 13)
  f_maps_into : Fnd K "maps_into" (top 14)
  f_are_equivalent : Fnd K "are_equivalent" (top 15)
  f_redundant_facts : Fnd K "redundant_facts" (top 17)
  f_after_one_step : Fnd K "after_one_step" (top 18)
  f_core_of : Fnd K "core_of" (top 19)
  f_arrangements : Fnd K "arrangements" (top 21)
  f_first_isomorphism : Fnd K "first_isomorphism" (top 22)
  f_renamed : Fnd K "renamed" (top 23)
  f_is_permitted_value : Fnd K "is_permitted_value" (top 44)
  f_is_permitted : Fnd K "is_permitted" (top 45)
  f_listed : Fnd K "listed" (top 46)
  f_told : Fnd K "told" (top 47)
  f_answer_on_one : Fnd K "answer_on_one" (top 49)
  f_answer : Fnd K "answer" (top 50)
  f_answers : Fnd K "answers" (top 51)
  m___init__ : Mfd K C "__init__" "Stores.__init__" (inClass (top 48) 0)
  m_begins : Mfd K C "begins" "Stores.begins" (inClass (top 48) 1)
  m_fact : Mfd K C "fact" "Stores.fact" (inClass (top 48) 2)
  m_gone : Mfd K C "gone" "Stores.gone" (inClass (top 48) 3)
  m_facts : Mfd K C "facts" "Stores.facts" (inClass (top 48) 4)
  m_core : Mfd K C "core" "Stores.core" (inClass (top 48) 5)
  m_spare : Mfd K C "spare" "Stores.spare" (inClass (top 48) 6)
  m_into_other : Mfd K C "into_other" "Stores.into_other" (inClass (top 48) 7)
  m_same : Mfd K C "same" "Stores.same" (inClass (top 48) 8)
  m_alike : Mfd K C "alike" "Stores.alike" (inClass (top 48) 9)
  m_keep : Mfd K C "keep" "Stores.keep" (inClass (top 48) 10)
  c_FIRST_UNKNOWN : ∃ t : Tok, PySem.W.nsIn K mainGlobals "FIRST_UNKNOWN" = some (some (.int (100) t))
  c_BEGINS : ∃ t : Tok, PySem.W.nsIn K mainGlobals "BEGINS" = some (some (.int (0) t))
  c_FACT : ∃ t : Tok, PySem.W.nsIn K mainGlobals "FACT" = some (some (.int (1) t))
  c_GONE : ∃ t : Tok, PySem.W.nsIn K mainGlobals "GONE" = some (some (.int (2) t))
  c_FACTS : ∃ t : Tok, PySem.W.nsIn K mainGlobals "FACTS" = some (some (.int (3) t))
  c_CORE : ∃ t : Tok, PySem.W.nsIn K mainGlobals "CORE" = some (some (.int (4) t))
  c_SPARE : ∃ t : Tok, PySem.W.nsIn K mainGlobals "SPARE" = some (some (.int (5) t))
  c_MAP : ∃ t : Tok, PySem.W.nsIn K mainGlobals "MAP" = some (some (.int (6) t))
  c_SAME : ∃ t : Tok, PySem.W.nsIn K mainGlobals "SAME" = some (some (.int (7) t))
  c_ALIKE : ∃ t : Tok, PySem.W.nsIn K mainGlobals "ALIKE" = some (some (.int (8) t))
  c_KNOWN_END : ∃ t : Tok, PySem.W.nsIn K mainGlobals "KNOWN_END" = some (some (.int (20) t))
  c_LAST_UNKNOWN : ∃ t : Tok, PySem.W.nsIn K mainGlobals "LAST_UNKNOWN" = some (some (.int (199) t))
  c_MOST_FACTS : ∃ t : Tok, PySem.W.nsIn K mainGlobals "MOST_FACTS" = some (some (.int (6) t))
  c_MOST_UNKNOWNS : ∃ t : Tok, PySem.W.nsIn K mainGlobals "MOST_UNKNOWNS" = some (some (.int (4) t))
  c_NOT_PERMITTED : ∃ t : Tok, PySem.W.nsIn K mainGlobals "NOT_PERMITTED" = some (some (.int (-1) t))
  c_NO_SUCH_STORE : ∃ t : Tok, PySem.W.nsIn K mainGlobals "NO_SUCH_STORE" = some (some (.int (-2) t))
  c_NOT_CONTAINED : ∃ t : Tok, PySem.W.nsIn K mainGlobals "NOT_CONTAINED" = some (some (.int (-3) t))
  c_CONTAINED : ∃ t : Tok, PySem.W.nsIn K mainGlobals "CONTAINED" = some (some (.int (-4) t))
  c_TOO_MANY : ∃ t : Tok, PySem.W.nsIn K mainGlobals "TOO_MANY" = some (some (.int (-7) t))
  b_set : PySem.W.nsIn K mainGlobals "set" = some none
  b_sorted : PySem.W.nsIn K mainGlobals "sorted" = some none
  b_len : PySem.W.nsIn K mainGlobals "len" = some none
  b_dict : PySem.W.nsIn K mainGlobals "dict" = some none
  b_zip : PySem.W.nsIn K mainGlobals "zip" = some none
  b_enumerate : PySem.W.nsIn K mainGlobals "enumerate" = some none
  b_list : PySem.W.nsIn K mainGlobals "list" = some none
  b_tuple : PySem.W.nsIn K mainGlobals "tuple" = some none
  aC : PySem.W.nsIn K mainGlobals "Stores" = some (some (.ref C))
  pg : PySem.W.plainGet K C Str.empty = true
  hd : PySem.W.hasDictIn K C = true
  po : PySem.W.plainOver K C = true
  sa : PySem.W.findIn K (.ref C) "__setattr__" = some (some (.builtin "object.__setattr__"))
  mkC : PySem.W.makesIn K C = true
  kc : PySem.W.keepIn K (.ref C) = true
  nH : PySem.W.findIn K (.ref C) "held" = some none
  aA : PySem.W.nsIn K mainGlobals "ARGUMENT_COUNTS" = some (some (.ref tA))
  tup : ∀ H, SqT K H tA counts
theorem all_mk {P : Program} {w : World} {K : PySem.W.Frag} {h : Heap} {mg : Str → Option Value} {fa C tA : Addr} (X : K.In h) (G : h.Ns mainGlobals mg) (hfa : mg "answers" = some (.ref fa)) (Y : Top K C tA) :
    ∃ fd : FuncData, (∀ (s : Shared) (us : List Value), us.length = (["calls"] : List Str).length → BindsTo s fd ⟨us, []⟩ ((["calls"] : List Str).zip us)) ∧ ∀ base : Heap, K.In base → base.Ns mainGlobals mg → FnOk P w K mg base CX0 17 fa fd ["calls"] (spAll K) := by
  have T : Txt K C := ⟨⟨Y.pg, Y.hd, Y.po, Y.sa⟩, Y.nH⟩
  have B : Blt mg := ⟨PySem.W.mg_none_of X G Y.b_set, PySem.W.mg_none_of X G Y.b_sorted, PySem.W.mg_none_of X G Y.b_len, PySem.W.mg_none_of X G Y.b_dict, PySem.W.mg_none_of X G Y.b_zip, PySem.W.mg_none_of X G Y.b_enumerate, PySem.W.mg_none_of X G Y.b_list, PySem.W.mg_none_of X G Y.b_tuple⟩
  have k_FIRST_UNKNOWN : Cst mg "FIRST_UNKNOWN" (100) := let ⟨t, e⟩ := Y.c_FIRST_UNKNOWN; ⟨t, PySem.W.mg_of X G e⟩
  have k_BEGINS : Cst mg "BEGINS" (0) := let ⟨t, e⟩ := Y.c_BEGINS; ⟨t, PySem.W.mg_of X G e⟩
  have k_FACT : Cst mg "FACT" (1) := let ⟨t, e⟩ := Y.c_FACT; ⟨t, PySem.W.mg_of X G e⟩
  have k_GONE : Cst mg "GONE" (2) := let ⟨t, e⟩ := Y.c_GONE; ⟨t, PySem.W.mg_of X G e⟩
  have k_FACTS : Cst mg "FACTS" (3) := let ⟨t, e⟩ := Y.c_FACTS; ⟨t, PySem.W.mg_of X G e⟩
  have k_CORE : Cst mg "CORE" (4) := let ⟨t, e⟩ := Y.c_CORE; ⟨t, PySem.W.mg_of X G e⟩
  have k_SPARE : Cst mg "SPARE" (5) := let ⟨t, e⟩ := Y.c_SPARE; ⟨t, PySem.W.mg_of X G e⟩
  have k_MAP : Cst mg "MAP" (6) := let ⟨t, e⟩ := Y.c_MAP; ⟨t, PySem.W.mg_of X G e⟩
  have k_SAME : Cst mg "SAME" (7) := let ⟨t, e⟩ := Y.c_SAME; ⟨t, PySem.W.mg_of X G e⟩
  have k_ALIKE : Cst mg "ALIKE" (8) := let ⟨t, e⟩ := Y.c_ALIKE; ⟨t, PySem.W.mg_of X G e⟩
  have k_KNOWN_END : Cst mg "KNOWN_END" (20) := let ⟨t, e⟩ := Y.c_KNOWN_END; ⟨t, PySem.W.mg_of X G e⟩
  have k_LAST_UNKNOWN : Cst mg "LAST_UNKNOWN" (199) := let ⟨t, e⟩ := Y.c_LAST_UNKNOWN; ⟨t, PySem.W.mg_of X G e⟩
  have k_MOST_FACTS : Cst mg "MOST_FACTS" (6) := let ⟨t, e⟩ := Y.c_MOST_FACTS; ⟨t, PySem.W.mg_of X G e⟩
  have k_MOST_UNKNOWNS : Cst mg "MOST_UNKNOWNS" (4) := let ⟨t, e⟩ := Y.c_MOST_UNKNOWNS; ⟨t, PySem.W.mg_of X G e⟩
  have k_NOT_PERMITTED : Cst mg "NOT_PERMITTED" (-1) := let ⟨t, e⟩ := Y.c_NOT_PERMITTED; ⟨t, PySem.W.mg_of X G e⟩
  have k_NO_SUCH_STORE : Cst mg "NO_SUCH_STORE" (-2) := let ⟨t, e⟩ := Y.c_NO_SUCH_STORE; ⟨t, PySem.W.mg_of X G e⟩
  have k_NOT_CONTAINED : Cst mg "NOT_CONTAINED" (-3) := let ⟨t, e⟩ := Y.c_NOT_CONTAINED; ⟨t, PySem.W.mg_of X G e⟩
  have k_CONTAINED : Cst mg "CONTAINED" (-4) := let ⟨t, e⟩ := Y.c_CONTAINED; ⟨t, PySem.W.mg_of X G e⟩
  have k_TOO_MANY : Cst mg "TOO_MANY" (-7) := let ⟨t, e⟩ := Y.c_TOO_MANY; ⟨t, PySem.W.mg_of X G e⟩
  obtain ⟨_, _, D_is_unknown⟩ := Y.f_is_unknown.df X G ["value"] fun _ _ _ _ _ _ us hl => match us, hl with | [_], _ => rfl
  obtain ⟨_, _, D_values_of⟩ := Y.f_values_of.df X G ["facts"] fun _ _ _ _ _ _ us hl => match us, hl with | [_], _ => rfl
  obtain ⟨_, _, D_unknowns_of⟩ := Y.f_unknowns_of.df X G ["facts"] fun _ _ _ _ _ _ us hl => match us, hl with | [_], _ => rfl
  obtain ⟨_, _, D_without⟩ := Y.f_without.df X G ["members", "one"] fun _ _ _ _ _ _ us hl => match us, hl with | [_, _], _ => rfl
  obtain ⟨_, _, D_facts_under⟩ := Y.f_facts_under.df X G ["mapping", "facts"] fun _ _ _ _ _ _ us hl => match us, hl with | [_, _], _ => rfl
  obtain ⟨_, _, D_may_become_value⟩ := Y.f_may_become_value.df X G ["value", "goal", "mapping"] fun _ _ _ _ _ _ us hl => match us, hl with | [_, _, _], _ => rfl
  obtain ⟨_, _, D_may_become⟩ := Y.f_may_become.df X G ["fact", "goal", "mapping"] fun _ _ _ _ _ _ us hl => match us, hl with | [_, _, _], _ => rfl
  obtain ⟨_, _, D_may_become_one_of⟩ := Y.f_may_become_one_of.df X G ["fact", "goals", "mapping"] fun _ _ _ _ _ _ us hl => match us, hl with | [_, _, _], _ => rfl
  obtain ⟨_, _, D_fits⟩ := Y.f_fits.df X G ["mapping", "facts", "goals"] fun _ _ _ _ _ _ us hl => match us, hl with | [_, _, _], _ => rfl
  obtain ⟨_, _, D_first_completion⟩ := Y.f_first_completion.df X G ["mapping", "unassigned", "facts", "goals"] fun _ _ _ _ _ _ us hl => match us, hl with | [_, _, _, _], _ => rfl
  obtain ⟨_, _, D_first_mapping⟩ := Y.f_first_mapping.df X G ["facts", "goals"] fun _ _ _ _ _ _ us hl => match us, hl with | [_, _], _ => rfl
  obtain ⟨_, _, D_maps_into⟩ := Y.f_maps_into.df X G ["facts", "goals"] fun _ _ _ _ _ _ us hl => match us, hl with | [_, _], _ => rfl
  obtain ⟨_, _, D_are_equivalent⟩ := Y.f_are_equivalent.df X G ["facts", "others"] fun _ _ _ _ _ _ us hl => match us, hl with | [_, _], _ => rfl
  obtain ⟨_, _, D_redundant_facts⟩ := Y.f_redundant_facts.df X G ["facts"] fun _ _ _ _ _ _ us hl => match us, hl with | [_], _ => rfl
  obtain ⟨_, _, D_after_one_step⟩ := Y.f_after_one_step.df X G ["facts"] fun _ _ _ _ _ _ us hl => match us, hl with | [_], _ => rfl
  obtain ⟨_, _, D_core_of⟩ := Y.f_core_of.df X G ["facts"] fun _ _ _ _ _ _ us hl => match us, hl with | [_], _ => rfl
  obtain ⟨_, _, D_arrangements⟩ := Y.f_arrangements.df X G ["values"] fun _ _ _ _ _ _ us hl => match us, hl with | [_], _ => rfl
  obtain ⟨_, _, D_first_isomorphism⟩ := Y.f_first_isomorphism.df X G ["facts", "goals"] fun _ _ _ _ _ _ us hl => match us, hl with | [_, _], _ => rfl
  obtain ⟨_, _, D_renamed⟩ := Y.f_renamed.df X G ["facts"] fun _ _ _ _ _ _ us hl => match us, hl with | [_], _ => rfl
  obtain ⟨_, _, D_is_permitted_value⟩ := Y.f_is_permitted_value.df X G ["value"] fun _ _ _ _ _ _ us hl => match us, hl with | [_], _ => rfl
  obtain ⟨_, _, D_is_permitted⟩ := Y.f_is_permitted.df X G ["fact"] fun _ _ _ _ _ _ us hl => match us, hl with | [_], _ => rfl
  obtain ⟨_, _, D_listed⟩ := Y.f_listed.df X G ["facts"] fun _ _ _ _ _ _ us hl => match us, hl with | [_], _ => rfl
  obtain ⟨_, _, D_told⟩ := Y.f_told.df X G ["mapping"] fun _ _ _ _ _ _ us hl => match us, hl with | [_], _ => rfl
  obtain ⟨_, _, D_answer_on_one⟩ := Y.f_answer_on_one.df X G ["stores", "number", "store", "fact"] fun _ _ _ _ _ _ us hl => match us, hl with | [_, _, _, _], _ => rfl
  obtain ⟨_, _, D_answer⟩ := Y.f_answer.df X G ["stores", "number", "arguments"] fun _ _ _ _ _ _ us hl => match us, hl with | [_, _, _], _ => rfl
  obtain ⟨f___init__, fd___init__, F___init__, b___init__, m___init__⟩ := Y.m___init__.mf ["self"] fun _ _ _ _ _ _ us hl => match us, hl with | [_], _ => rfl
  obtain ⟨f_begins, fd_begins, F_begins, b_begins, m_begins⟩ := Y.m_begins.mf ["self"] fun _ _ _ _ _ _ us hl => match us, hl with | [_], _ => rfl
  obtain ⟨f_fact, fd_fact, F_fact, b_fact, m_fact⟩ := Y.m_fact.mf ["self", "store", "new"] fun _ _ _ _ _ _ us hl => match us, hl with | [_, _, _], _ => rfl
  obtain ⟨f_gone, fd_gone, F_gone, b_gone, m_gone⟩ := Y.m_gone.mf ["self", "store", "old"] fun _ _ _ _ _ _ us hl => match us, hl with | [_, _, _], _ => rfl
  obtain ⟨f_facts, fd_facts, F_facts, b_facts, m_facts⟩ := Y.m_facts.mf ["self", "store"] fun _ _ _ _ _ _ us hl => match us, hl with | [_, _], _ => rfl
  obtain ⟨f_core, fd_core, F_core, b_core, m_core⟩ := Y.m_core.mf ["self", "store"] fun _ _ _ _ _ _ us hl => match us, hl with | [_, _], _ => rfl
  obtain ⟨f_spare, fd_spare, F_spare, b_spare, m_spare⟩ := Y.m_spare.mf ["self", "store"] fun _ _ _ _ _ _ us hl => match us, hl with | [_, _], _ => rfl
  obtain ⟨f_into_other, fd_into_other, F_into_other, b_into_other, m_into_other⟩ := Y.m_into_other.mf ["self", "store"] fun _ _ _ _ _ _ us hl => match us, hl with | [_, _], _ => rfl
  obtain ⟨f_same, fd_same, F_same, b_same, m_same⟩ := Y.m_same.mf ["self"] fun _ _ _ _ _ _ us hl => match us, hl with | [_], _ => rfl
  obtain ⟨f_alike, fd_alike, F_alike, b_alike, m_alike⟩ := Y.m_alike.mf ["self"] fun _ _ _ _ _ _ us hl => match us, hl with | [_], _ => rfl
  obtain ⟨f_keep, fd_keep, F_keep, b_keep, m_keep⟩ := Y.m_keep.mf ["self", "store"] fun _ _ _ _ _ _ us hl => match us, hl with | [_, _], _ => rfl
  obtain ⟨f0, fd0, a0, F0⟩ := Y.f_answers
  have e := hfa.symm.trans (PySem.W.mg_of X G a0)
  cases e
  refine ⟨fd0, fun s us hu => ?_, fun base _ _ => ?_⟩
  · obtain ⟨oc, od, kV, doc, pm, an, cdv, ct, osl, rfl, _, _⟩ := F0.ex
    match us, hu with
    | [_], _ => exact .of_eq rfl
  obtain ⟨tFU, eFU⟩ := k_FIRST_UNKNOWN
  have g_isU : FnOk P w K mg base CX0 1 _ _ ["value"] spIsU := ok_isU D_is_unknown.F eFU
  have g_vals : FnOk P w K mg base CX0 1 _ _ ["facts"] spVals := ok_vals D_values_of.F B
  have g_unk : FnOk P w K mg base CX0 2 _ _ ["facts"] spUnk := ok_unk D_unknowns_of.F D_is_unknown D_values_of g_isU g_vals
  have g_wo : FnOk P w K mg base CX0 1 _ _ ["members", "one"] spWo := ok_wo D_without.F
  have g_under : FnOk P w K mg base CX0 1 _ _ ["mapping", "facts"] spUnder := ok_under D_facts_under.F B
  have g_mbv : FnOk P w K mg base CX0 2 _ _ ["value", "goal", "mapping"] spMbv := ok_mbv D_may_become_value.F D_is_unknown g_isU
  have g_mb : FnOk P w K mg base CX0 3 _ _ ["fact", "goal", "mapping"] spMb := ok_mb D_may_become.F D_may_become_value g_mbv
  have g_mbo : FnOk P w K mg base CX0 4 _ _ ["fact", "goals", "mapping"] spMbo := ok_mbo D_may_become_one_of.F D_may_become g_mb
  have g_fits : FnOk P w K mg base CX0 5 _ _ ["mapping", "facts", "goals"] spFits := ok_fits D_fits.F D_may_become_one_of g_mbo
  have g_fc : FnOk P w K mg base CX0 10 _ _ ["mapping", "unassigned", "facts", "goals"] (spFC 4) := ok_fc D_first_completion B D_fits g_fits D_values_of g_vals 4
  have g_fm : FnOk P w K mg base CX0 11 _ _ ["facts", "goals"] spFM := ok_fm D_first_mapping.F D_first_completion g_fc D_unknowns_of g_unk
  have g_mi : FnOk P w K mg base CX0 12 _ _ ["facts", "goals"] spMI := ok_mi D_maps_into.F D_first_mapping g_fm
  have g_eq : FnOk P w K mg base CX0 13 _ _ ["facts", "others"] spEq := ok_eq D_are_equivalent.F D_maps_into g_mi
  have g_red : FnOk P w K mg base CX0 13 _ _ ["facts"] spRed := ok_red D_redundant_facts.F D_maps_into g_mi D_without g_wo
  have g_aos : FnOk P w K mg base CX0 12 _ _ ["facts"] spAos := ok_aos D_after_one_step.F D_first_mapping g_fm D_without g_wo D_facts_under g_under
  have g_core : FnOk P w K mg base CX0 13 _ _ ["facts"] spCore := ok_core D_core_of.F B D_after_one_step g_aos
  have g_arr : FnOk P w K mg base CX0 6 _ _ ["values"] (spArr 4) := ok_arr D_arrangements B D_without g_wo 4
  have g_iso : FnOk P w K mg base CX0 7 _ _ ["facts", "goals"] spIso := ok_iso D_first_isomorphism.F B D_arrangements g_arr D_unknowns_of g_unk D_facts_under g_under
  have g_ren : FnOk P w K mg base CX0 3 _ _ ["facts"] spRen := ok_ren D_renamed.F B eFU D_unknowns_of g_unk D_facts_under g_under
  have g_pv : FnOk P w K mg base CX0 1 _ _ ["value"] spPv := ok_pv D_is_permitted_value.F k_KNOWN_END ⟨tFU, eFU⟩ k_LAST_UNKNOWN
  have g_pm : FnOk P w K mg base CX0 2 _ _ ["fact"] spPm := ok_pm D_is_permitted.F D_is_permitted_value g_pv
  have g_lis : FnOk P w K mg base CX0 1 _ _ ["facts"] spLis := ok_lis D_listed.F B
  have g_told : FnOk P w K mg base CX0 1 _ _ ["mapping"] spTold := ok_told D_told.F B
  have m_begins : Mt P w K mg base C 1 "begins" ["self"] (spBegins C) := ⟨_, _, ok_begins F_begins T, b_begins, m_begins⟩
  have m_fact : Mt P w K mg base C 3 "fact" ["self", "store", "new"] (spOf C Dx03.Call.fact) := ⟨_, _, ok_fact F_fact T B k_NOT_PERMITTED k_CONTAINED k_TOO_MANY k_MOST_FACTS k_MOST_UNKNOWNS D_is_permitted g_pm D_unknowns_of g_unk, b_fact, m_fact⟩
  have m_gone : Mt P w K mg base C 2 "gone" ["self", "store", "old"] (spOf C Dx03.Call.gone) := ⟨_, _, ok_gone F_gone T B k_NOT_CONTAINED D_without g_wo, b_gone, m_gone⟩
  have m_facts : Mt P w K mg base C 2 "facts" ["self", "store"] (spOn C Dx03.Call.facts) := ⟨_, _, ok_facts F_facts T D_listed g_lis, b_facts, m_facts⟩
  have m_core : Mt P w K mg base C 14 "core" ["self", "store"] (spOn C Dx03.Call.core) := ⟨_, _, ok_coreM F_core T D_listed g_lis D_core_of g_core, b_core, m_core⟩
  have m_spare : Mt P w K mg base C 14 "spare" ["self", "store"] (spOn C Dx03.Call.spare) := ⟨_, _, ok_spare F_spare T D_listed g_lis D_redundant_facts g_red, b_spare, m_spare⟩
  have m_into : Mt P w K mg base C 12 "into_other" ["self", "store"] (spOn C Dx03.Call.map) := ⟨_, _, ok_into F_into_other T D_told g_told D_first_mapping g_fm, b_into_other, m_into_other⟩
  have m_same : Mt P w K mg base C 14 "same" ["self"] (spNo C Dx03.Call.same) := ⟨_, _, ok_same F_same T D_are_equivalent g_eq, b_same, m_same⟩
  have m_alike : Mt P w K mg base C 8 "alike" ["self"] (spNo C Dx03.Call.alike) := ⟨_, _, ok_alike F_alike T D_told g_told D_first_isomorphism g_iso, b_alike, m_alike⟩
  have m_keep : Mt P w K mg base C 14 "keep" ["self", "store"] (spOn C Dx03.Call.keep) := ⟨_, _, ok_keep F_keep T D_listed g_lis D_core_of g_core D_renamed g_ren, b_keep, m_keep⟩
  have g_one : FnOk P w K mg base CX0 15 _ _ ["stores", "number", "store", "fact"] (spOne C) := ok_one D_answer_on_one.F T k_NO_SUCH_STORE k_FACT k_GONE k_FACTS k_CORE k_SPARE k_MAP m_fact m_gone m_facts m_core m_spare m_into m_keep
  have g_ans : FnOk P w K mg base CX0 16 _ _ ["stores", "number", "arguments"] (spAns C) := ok_answer D_answer.F T B k_BEGINS k_SAME k_ALIKE m_begins m_same m_alike D_answer_on_one g_one
  exact ok_all F0 T B (PySem.W.mg_of X G Y.aC) ⟨Y.mkC, m___init__.1, m___init__.2, Y.kc⟩ (ok_init F___init__ T) b___init__ (PySem.W.mg_of X G Y.aA) Y.tup D_answer g_ans
end Fc

namespace Fc
open PySem PySem.Spec PyProof.Rows L2 FcS
open PySem.W (Codec)
theorem tup_of {K : PySem.W.Frag} {tA : Addr} {od : Option Addr} {sl : Array (Option Value)} {n : Nat} {t0 t1 t2 t3 t4 t5 t6 t7 t8 t9 : Tok}
    (l : K.lookup tA = some ⟨.type "tuple", od, .seq #[.int 0 t0, .int 4 t1, .int 4 t2, .int 1 t3, .int 1 t4, .int 1 t5, .int 1 t6, .int 0 t7, .int 0 t8, .int 1 t9] n, sl⟩) : ∀ H, SqT K H tA counts := fun _ =>
  .inr ⟨_, _, _, l, rfl, rfl, by show 10 ≤ sizeLine; decide, .cons ⟨_, rfl⟩ (.cons ⟨_, rfl⟩ (.cons ⟨_, rfl⟩ (.cons ⟨_, rfl⟩ (.cons ⟨_, rfl⟩ (.cons ⟨_, rfl⟩ (.cons ⟨_, rfl⟩ (.cons ⟨_, rfl⟩ (.cons ⟨_, rfl⟩ (.cons ⟨_, rfl⟩ .nil)))))))))⟩
theorem asked_short {l : List Int} (h : PyDx03.answers_asked l = true) : (PyDx03.answers l).length ≤ 10000000 := by
  unfold PyDx03.answers_asked at h
  split at h
  · cases h
  · simp only [Bool.and_eq_true] at h
    exact of_decide_eq_true h.2
theorem asks {K : PySem.W.Frag} {H : Hp} {x : Addr} (l : List Int) (hall : l.all (Codec.inInt 0 4294967295) = true) (hask : PyDx03.answers_asked l = true) (hs : SqL K H x (l.map V.int)) (Q : VK)
    (hQ : ∀ (H' : Hp) (p : Addr), H' p = some (.lst ((PyDx03.answers l).map V.int)) → Q (.ref p) H') (E : XK) : spAll K [.ref x] H Q E := by
  have el : l = zs (l.map Int.toNat) := by
    unfold zs
    rw [List.map_map]
    conv => lhs; rw [← List.map_id l]
    refine List.map_congr_left fun j hj => ?_
    have := List.all_eq_true.mp hall j hj
    have h0 : 0 ≤ j := by
      unfold Codec.inInt at this
      simp at this
      omega
    show j = ((j.toNat : Nat) : Int)
    omega
  obtain ⟨cs, hc⟩ := asked_calls hask
  have ed := answers_eq hc
  refine ⟨x, l.map Int.toNat, l.length, cs, rfl, ?_, ?_, ?_, fun H' r hr => hQ H' r ?_⟩
  · have : nV (l.map Int.toNat) = l.map V.int := by
      show (zs (l.map Int.toNat)).map V.int = _
      rw [← el]
    rw [this]
    exact hs
  · rw [← el]
    exact hc
  · rw [← ed]
    exact asked_short hask
  · rw [ed]
    exact hr
end Fc
namespace Fc
open PySem PySem.Spec PyProof.Rows L2 FcS
theorem cst_of {K : PySem.W.Frag} {nm : Str} {i : Int} {t : Tok} (e : PySem.W.nsIn K mainGlobals nm = some (some (.int i t))) : ∃ t : Tok, PySem.W.nsIn K mainGlobals nm = some (some (.int i t)) := ⟨t, e⟩
end Fc

open PySem PySem.W PyProof.Rows
set_option maxRecDepth 100000 in
set_option maxHeartbeats 0 in
theorem PySem.Challenge.cw_factcores_s01_answers_holds : PySem.Challenge.rw_factcores_s01_answers.Holds := by
  w_on; k_headS; (case hw => exact ⟨[.list [.int 0]], by decide +kernel, by decide +kernel⟩)
  k_fillS
  refine L2.walk_specK (r := PySem.Challenge.rw_factcores_s01_answers) (k := 17) (CX := L2.CX0) (ps := ["calls"]) (sp := Fc.spAll) (by decide +kernel) rfl rfl ⟨rfl, by decide, by decide⟩ (fun w h Y => PySem.W.kIn_of Y) ?F ?S (fun _ _ _ _ z => z)
  case F =>
    intro w mg fa h Y KX G hmg
    refine' Fc.all_mk (C := ?C) (tA := ?tA) KX G hmg (Fc.Top.mk ?f_is_unknown ?f_values_of ?f_unknowns_of ?f_without ?f_facts_under ?f_may_become_value ?f_may_become ?f_may_become_one_of ?f_fits ?f_first_completion ?f_first_mapping ?f_maps_into ?f_are_equivalent ?f_redundant_facts ?f_after_one_step ?f_core_of ?f_arrangements ?f_first_isomorphism ?f_renamed ?f_is_permitted_value ?f_is_permitted ?f_listed ?f_told ?f_answer_on_one ?f_answer ?f_answers ?m___init__ ?m_begins ?m_fact ?m_gone ?m_facts ?m_core ?m_spare ?m_into_other ?m_same ?m_alike ?m_keep ?c_FIRST_UNKNOWN ?c_BEGINS ?c_FACT ?c_GONE ?c_FACTS ?c_CORE ?c_SPARE ?c_MAP ?c_SAME ?c_ALIKE ?c_KNOWN_END ?c_LAST_UNKNOWN ?c_MOST_FACTS ?c_MOST_UNKNOWNS ?c_NOT_PERMITTED ?c_NO_SUCH_STORE ?c_NOT_CONTAINED ?c_CONTAINED ?c_TOO_MANY ?b_set ?b_sorted ?b_len ?b_dict ?b_zip ?b_enumerate ?b_list ?b_tuple ?aC ?pg ?hd ?po ?sa ?mkC ?kc ?nH ?aA ?tup)
    (case aC => k_is)
    case f_is_unknown => refine' Fc.Fnd.of ?a ?l ?c ?k; (case a => k_is); (case l => k_is); (case c => k_is); (case k => k_is)
    case f_values_of => refine' Fc.Fnd.of ?a ?l ?c ?k; (case a => k_is); (case l => k_is); (case c => k_is); (case k => k_is)
    case f_unknowns_of => refine' Fc.Fnd.of ?a ?l ?c ?k; (case a => k_is); (case l => k_is); (case c => k_is); (case k => k_is)
    case f_without => refine' Fc.Fnd.of ?a ?l ?c ?k; (case a => k_is); (case l => k_is); (case c => k_is); (case k => k_is)
    case f_facts_under => refine' Fc.Fnd.of ?a ?l ?c ?k; (case a => k_is); (case l => k_is); (case c => k_is); (case k => k_is)
    case f_may_become_value => refine' Fc.Fnd.of ?a ?l ?c ?k; (case a => k_is); (case l => k_is); (case c => k_is); (case k => k_is)
    case f_may_become => refine' Fc.Fnd.of ?a ?l ?c ?k; (case a => k_is); (case l => k_is); (case c => k_is); (case k => k_is)
    case f_may_become_one_of => refine' Fc.Fnd.of ?a ?l ?c ?k; (case a => k_is); (case l => k_is); (case c => k_is); (case k => k_is)
    case f_fits => refine' Fc.Fnd.of ?a ?l ?c ?k; (case a => k_is); (case l => k_is); (case c => k_is); (case k => k_is)
    case f_first_completion => refine' Fc.Fnd.of ?a ?l ?c ?k; (case a => k_is); (case l => k_is); (case c => k_is); (case k => k_is)
    case f_first_mapping => refine' Fc.Fnd.of ?a ?l ?c ?k; (case a => k_is); (case l => k_is); (case c => k_is); (case k => k_is)
    case f_maps_into => refine' Fc.Fnd.of ?a ?l ?c ?k; (case a => k_is); (case l => k_is); (case c => k_is); (case k => k_is)
    case f_are_equivalent => refine' Fc.Fnd.of ?a ?l ?c ?k; (case a => k_is); (case l => k_is); (case c => k_is); (case k => k_is)
    case f_redundant_facts => refine' Fc.Fnd.of ?a ?l ?c ?k; (case a => k_is); (case l => k_is); (case c => k_is); (case k => k_is)
    case f_after_one_step => refine' Fc.Fnd.of ?a ?l ?c ?k; (case a => k_is); (case l => k_is); (case c => k_is); (case k => k_is)
    case f_core_of => refine' Fc.Fnd.of ?a ?l ?c ?k; (case a => k_is); (case l => k_is); (case c => k_is); (case k => k_is)
    case f_arrangements => refine' Fc.Fnd.of ?a ?l ?c ?k; (case a => k_is); (case l => k_is); (case c => k_is); (case k => k_is)
    case f_first_isomorphism => refine' Fc.Fnd.of ?a ?l ?c ?k; (case a => k_is); (case l => k_is); (case c => k_is); (case k => k_is)
    case f_renamed => refine' Fc.Fnd.of ?a ?l ?c ?k; (case a => k_is); (case l => k_is); (case c => k_is); (case k => k_is)
    case f_is_permitted_value => refine' Fc.Fnd.of ?a ?l ?c ?k; (case a => k_is); (case l => k_is); (case c => k_is); (case k => k_is)
    case f_is_permitted => refine' Fc.Fnd.of ?a ?l ?c ?k; (case a => k_is); (case l => k_is); (case c => k_is); (case k => k_is)
    case f_listed => refine' Fc.Fnd.of ?a ?l ?c ?k; (case a => k_is); (case l => k_is); (case c => k_is); (case k => k_is)
    case f_told => refine' Fc.Fnd.of ?a ?l ?c ?k; (case a => k_is); (case l => k_is); (case c => k_is); (case k => k_is)
    case f_answer_on_one => refine' Fc.Fnd.of ?a ?l ?c ?k; (case a => k_is); (case l => k_is); (case c => k_is); (case k => k_is)
    case f_answer => refine' Fc.Fnd.of ?a ?l ?c ?k; (case a => k_is); (case l => k_is); (case c => k_is); (case k => k_is)
    case f_answers => refine' Fc.Fnd.of ?a ?l ?c ?k; (case a => k_is); (case l => k_is); (case c => k_is); (case k => k_is)
    case m___init__ => refine' Fc.Mfd.of ?a ?i ?l ?c ?k; (case a => k_is); (case i => k_is); (case l => k_is); (case c => k_is); (case k => k_is)
    case m_begins => refine' Fc.Mfd.of ?a ?i ?l ?c ?k; (case a => k_is); (case i => k_is); (case l => k_is); (case c => k_is); (case k => k_is)
    case m_fact => refine' Fc.Mfd.of ?a ?i ?l ?c ?k; (case a => k_is); (case i => k_is); (case l => k_is); (case c => k_is); (case k => k_is)
    case m_gone => refine' Fc.Mfd.of ?a ?i ?l ?c ?k; (case a => k_is); (case i => k_is); (case l => k_is); (case c => k_is); (case k => k_is)
    case m_facts => refine' Fc.Mfd.of ?a ?i ?l ?c ?k; (case a => k_is); (case i => k_is); (case l => k_is); (case c => k_is); (case k => k_is)
    case m_core => refine' Fc.Mfd.of ?a ?i ?l ?c ?k; (case a => k_is); (case i => k_is); (case l => k_is); (case c => k_is); (case k => k_is)
    case m_spare => refine' Fc.Mfd.of ?a ?i ?l ?c ?k; (case a => k_is); (case i => k_is); (case l => k_is); (case c => k_is); (case k => k_is)
    case m_into_other => refine' Fc.Mfd.of ?a ?i ?l ?c ?k; (case a => k_is); (case i => k_is); (case l => k_is); (case c => k_is); (case k => k_is)
    case m_same => refine' Fc.Mfd.of ?a ?i ?l ?c ?k; (case a => k_is); (case i => k_is); (case l => k_is); (case c => k_is); (case k => k_is)
    case m_alike => refine' Fc.Mfd.of ?a ?i ?l ?c ?k; (case a => k_is); (case i => k_is); (case l => k_is); (case c => k_is); (case k => k_is)
    case m_keep => refine' Fc.Mfd.of ?a ?i ?l ?c ?k; (case a => k_is); (case i => k_is); (case l => k_is); (case c => k_is); (case k => k_is)
    case c_FIRST_UNKNOWN => refine' Fc.cst_of ?e; (case e => k_is)
    case c_BEGINS => refine' Fc.cst_of ?e; (case e => k_is)
    case c_FACT => refine' Fc.cst_of ?e; (case e => k_is)
    case c_GONE => refine' Fc.cst_of ?e; (case e => k_is)
    case c_FACTS => refine' Fc.cst_of ?e; (case e => k_is)
    case c_CORE => refine' Fc.cst_of ?e; (case e => k_is)
    case c_SPARE => refine' Fc.cst_of ?e; (case e => k_is)
    case c_MAP => refine' Fc.cst_of ?e; (case e => k_is)
    case c_SAME => refine' Fc.cst_of ?e; (case e => k_is)
    case c_ALIKE => refine' Fc.cst_of ?e; (case e => k_is)
    case c_KNOWN_END => refine' Fc.cst_of ?e; (case e => k_is)
    case c_LAST_UNKNOWN => refine' Fc.cst_of ?e; (case e => k_is)
    case c_MOST_FACTS => refine' Fc.cst_of ?e; (case e => k_is)
    case c_MOST_UNKNOWNS => refine' Fc.cst_of ?e; (case e => k_is)
    case c_NOT_PERMITTED => refine' Fc.cst_of ?e; (case e => k_is)
    case c_NO_SUCH_STORE => refine' Fc.cst_of ?e; (case e => k_is)
    case c_NOT_CONTAINED => refine' Fc.cst_of ?e; (case e => k_is)
    case c_CONTAINED => refine' Fc.cst_of ?e; (case e => k_is)
    case c_TOO_MANY => refine' Fc.cst_of ?e; (case e => k_is)
    (case b_set => k_is)
    (case b_sorted => k_is)
    (case b_len => k_is)
    (case b_dict => k_is)
    (case b_zip => k_is)
    (case b_enumerate => k_is)
    (case b_list => k_is)
    (case b_tuple => k_is)
    (case pg => k_is); (case hd => k_is); (case po => k_is); (case sa => k_is); (case mkC => k_is); (case kc => k_is); (case nH => k_is)
    (case aA => k_is)
    case tup =>
      refine' Fc.tup_of ?l
      (case l => k_is)
  case S =>
    intro K H xs a hO hwi hask hx
    cases hx with
    | cons h1 h2 =>
      cases h2
      cases h1 with
      | lst hs ha =>
        have e := L2.ints_dw a.1 _ ha
        subst e
        have q : ((Codec.inLen 0 300 a.1 && a.1.all (Codec.inInt 0 4294967295)) && true) = true := hwi
        rw [Bool.and_eq_true, Bool.and_eq_true] at q
        exact Fc.asks a.1 q.1.2 hask hs _ (fun H' p hp => .lst (L2.SqL.of hp) (L2.dw_ints _)) _
#print axioms PySem.Challenge.cw_factcores_s01_answers_holds
