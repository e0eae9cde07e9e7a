import PyProof.Rows.All
import Wide.All
import OpenK.AllK
import Wide.FinOn
import HandS.ForMost
import HandS.IsInst
import HandS.Conv
import HandS.Zip
import HandS.Strs
import HandS.Flow
import HandS.Codes
import HandS.SetKeys
import HandS.Walk
import HandS.StrMore
import HandS.Defaults
import KE.IntTextLaws
import HandS.FStr
import HandS.WordsExc
import PySem.Challenge.RW_piercednames_k01_words_and_ids_judged
set_option Elab.async false
set_option linter.all false
set_option maxRecDepth 100000
/-! part Kit1 -/
/-! My own rows over the layer: a list that is sealed (its content hidden behind a predicate), draws as free choices. -/
namespace My
open PySem PySem.Spec PyProof.Rows L2

/-- the predicate of a sealed list at a: some content that is so -/
def sealP (a : Addr) (φ : List V → Prop) : Heap → Prop := fun h => ∃ xs : List V, φ xs ∧ xs.length ≤ sizeLine ∧ ∃ (its : List Value) (n : Nat), Vals xs its ∧ h.get? a = some { cls := .type "list", data := .seq its.toArray n }
abbrev Seal (a : Addr) (φ : List V → Prop) : HO := .ext (sealP a φ)
theorem sealP_stay {a : Addr} {φ : List V → Prop} (h1 h2 : Heap) (p : sealP a φ h1) (k : ∀ o, h1.get? a = some o → h2.get? a = some o) : sealP a φ h2 := by
  obtain ⟨xs, p1, p2, its, n, r, e⟩ := p
  exact ⟨xs, p1, p2, its, n, r, k _ e⟩

section
variable {P : Program} {w : World} {K : PySem.W.Frag} {mg : Str → Option Value} {base : Heap}
/-- a list is sealed -/
theorem hok_seal {H : Hp} {h : Heap} {a : Addr} {φ : List V → Prop} {xs : List V} (ok : HOk P w H h) (e : H a = some (.lst xs)) (p : φ xs) : HOk P w (upd H a (Seal a φ)) h := fun b o q => by
  by_cases hb : b = a
  · subst hb
    rw [upd_same] at q
    cases q
    obtain ⟨z, its, n, r, eo⟩ := (show ObjOk P w H h b (.lst xs) from ok b _ e)
    exact ⟨⟨xs, p, z, its, n, r, eo⟩, ⟨_, eo⟩, fun h1 h2 => sealP_stay h1 h2⟩
  · rw [upd_ne hb] at q
    refine (ok b o q).stay (fun _ _ _ r => r) (fun c r => ?_) (fun c ys r => ?_)
    · rw [upd_ne (ne_of r e (by intro z; cases z))]; exact r
    · rw [upd_ne (ne_of r e (by intro z; cases z))]; exact r
theorem hok_open {H : Hp} {h : Heap} {a : Addr} {φ : List V → Prop} (ok : HOk P w H h) (e : H a = some (Seal a φ)) : ∃ xs, φ xs ∧ HOk P w (upd H a (.lst xs)) h := by
  obtain ⟨⟨xs, p, z, its, n, r, eo⟩, _, _⟩ := (show ObjOk P w H h a (Seal a φ) from ok a _ e)
  refine ⟨xs, p, fun b o q => ?_⟩
  by_cases hb : b = a
  · subst hb
    rw [upd_same] at q
    cases q
    exact ⟨z, its, n, r, eo⟩
  · rw [upd_ne hb] at q
    refine (ok b o q).stay (fun _ _ _ r => r) (fun c r => ?_) (fun c ys r => ?_)
    · rw [upd_ne (ne_of r e (by intro z; cases z))]; exact r
    · rw [upd_ne (ne_of r e (by intro z; cases z))]; exact r
theorem none_upd {H : Hp} {a b : Addr} {o u : HO} (e : H a = some o) (h : H b = none) : upd H a u b = none := by
  rw [upd_ne (fun z => by subst z; rw [e] at h; cases h)]; exact h
/-- THE RULE: a def that works on the open list keeps the promise over the sealed one -/
theorem fn_seal {k : Nat} {f : Addr} {fd : FuncData} {ps : List Str} {sp sp' : Sp} (F : FnOk P w K mg base CX0 k f fd ps sp)
    (len : ∀ vs H Q E, sp' vs H Q E → vs.length = ps.length)
    (h : ∀ vs H Q E, sp' vs H Q E → ∃ (a : Addr) (φ : List V → Prop), H a = some (Seal a φ) ∧ ∀ xs, φ xs → sp vs (upd H a (.lst xs)) (fun v H' => ∃ ys, H' a = some (.lst ys) ∧ φ ys ∧ Q v (upd H' a (Seal a φ))) E) :
    FnOk P w K mg base CX0 k f fd ps sp' := by
  refine ⟨len, fun A outer s H args us vs Q E hr he hb hv hs => ?_⟩
  obtain ⟨a, φ, e, h⟩ := h vs H Q E hs
  obtain ⟨xs, p, ok⟩ := hok_open he.hok e
  have he1 : Env0 P w K mg base A outer s (upd H a (.lst xs)) :=
    ⟨he.frames, he.mod, fun b o q => ⟨(he.bs b o q).1, none_upd e (he.bs b o q).2⟩, he.bsz, he.funs, fun b hb => none_upd e (he.frf b hb), ok, he.bare⟩
  have R := F.run A outer s (upd H a (.lst xs)) args us vs _ E hr he1 hb hv (h xs p)
  refine codeAny_mono R fun r s' c => ?_
  cases r with
  | error x => exact (show False from c).elim
  | ok fl =>
    cases fl with
    | ret u =>
      obtain ⟨v, H', h1, h2, h3, h4, h5, ys, h6, h7, h8⟩ := c
      refine ⟨v, upd H' a (Seal a φ), h1, h2, ?_, hok_seal h4 h6 h7, h5, h8⟩
      have nn : ∀ b, H b = none → upd H a (.lst xs) b = none := fun b q => none_upd e q
      have ne : ∀ b o, H b = some o → (∀ ψ, o ≠ .ext ψ) → b ≠ a := fun b o q n => ne_of q e (n _)
      refine ⟨fun b o q n i j => h3.keep b o q (nn b n) i j, fun b o q n i j => h3.slot b o q (nn b n) i j, fun b o q n j => none_upd h6 (h3.free b o q (nn b n) j), fun b o q j => h3.there b o q j, fun b ys q => ?_, fun b o u q => ?_, fun b ps q => ?_⟩
      · have z := ne b _ q (fun ψ z => by cases z)
        rw [upd_ne z]; exact h3.tups b ys (by rw [upd_ne z]; exact q)
      · have z := ne b _ q (fun ψ z => by cases z)
        rw [upd_ne z]; exact h3.frzs b o u (by rw [upd_ne z]; exact q)
      · have z := ne b _ q (fun ψ z => by cases z)
        rw [upd_ne z]; exact h3.tbls b ps (by rw [upd_ne z]; exact q)
    | _ => exact c
end
end My
/-! part SetMk -/
/-! set(xs) of a list or a tuple of any keys, any number below the scan's bound (own proof; the library has it for ints, and for at most one text) -/
namespace My
open PySem PySem.Spec PyProof.Rows L2
section
variable {prog : Program} {w : World} {κ : Type} [DecidableEq κ] (knd : KeyKind prog w κ)
/-- the set at a has met the first i keys -/
def Met (a : Addr) (ks : List κ) (i : Nat) (h : Heap) : Prop := ∃ (S : κ → Bool) (n : Nat), h.SetOf knd a S n ∧ n ≤ i ∧ ∀ k, S k = true ↔ k ∈ ks.take i
variable {knd}
theorem Met.at {a : Addr} {ks : List κ} {i : Nat} {g h : Heap} (m : Met knd a ks i g) (k : ∀ o, g.get? a = some o → h.get? a = some o) : Met knd a ks i h := by
  obtain ⟨S, n, ⟨o, es, ep, t, ho, r⟩, z⟩ := m
  exact ⟨S, n, ⟨o, es, ep, t, k o ho, r⟩, z⟩
variable {A : Around} {R : Result → Shared → Prop} {it a : Addr} {fp wr : List Addr} {G : Array GenState → Array GenState → Prop} {n : Nat} {Pv : Nat → Value → Prop} {St : Nat → Shared → Prop}
/-- the turns that are left: each item is added -/
theorem met_all (W : WalksS prog w A.in1 it fp wr G n Pv St) (off : a ∉ fp) (ks : List κ) (room : n + 1 < scanBound)
    (is : ∀ i v, Pv i v → ∃ k, ks[i]? = some k ∧ knd.is k v = true ∧ v.scannable = true) (d : Nat) : ∀ (i : Nat) (s : Shared), i + d = n → St i s → Met knd a ks i s.heap →
      (∀ z, Moved (a :: wr) G s z → Met knd a ks n z.heap → R (.ok (.ret .none)) z) → codeAny (model prog w) A (.builtin "set.update.loop" ⟨[.ref a, .ref it], []⟩) R s := by
  have offw : a ∉ wr := fun q => off (W.sub a q)
  have wide : ∀ b ∈ wr, b ∈ a :: wr := fun b q => List.mem_cons_of_mem a q
  induction d with
  | zero =>
    intro i s e st m fin
    obtain rfl : i = n := by omega
    refine codeAny_builtin PyProof.Rows.F.entry_set_update_loop ?_
    rw [Around.under_plainId PyProof.Rows.F.plain_set_update_loop _]
    show wpAny (model prog w) A.in1 (pyNext (.ref it) >>= _) _ _ s
    refine wpAny_bind (W.done s _ _ st fun z mv => ?_)
    show wpAny (model prog w) A.in1 (ret Value.none) _ _ z
    exact wpAny_pure (fin z (mv.mono wide) (m.at fun o q => mv.heap a o offw q))
  | succ d ih =>
    intro i s e st m fin
    refine codeAny_builtin PyProof.Rows.F.entry_set_update_loop ?_
    rw [Around.under_plainId PyProof.Rows.F.plain_set_update_loop _]
    show wpAny (model prog w) A.in1 (pyNext (.ref it) >>= _) _ _ s
    refine wpAny_bind (W.item i s _ _ (by omega) st fun v z pv st' mv => ?_)
    obtain ⟨k, hk, ik, sc⟩ := is i v pv
    obtain ⟨S, c, so, cn, mem⟩ := m.at (h := z.heap) fun o q => mv.heap a o offw q
    show wpAny (model prog w) A.in1 (holding [v] (setAdd a v) >>= _) _ _ z
    refine wpAny_bind (wpAny_holding ?_)
    unfold setAdd
    refine wpAny_holding (wpAny_bind (knd.pyHash ik ?_))
    refine wpAny_setAddHashed_of (knd := knd) (s := { z with toks := z.toks + 1 }) ik sc so (by omega) fun h2 same so2 => ?_
    have m2 : Met knd a ks (i + 1) h2 := by
      refine ⟨_, _, so2, by split <;> omega, fun q => ?_⟩
      rw [List.take_add_one, hk, List.mem_append]
      show (S q || decide (q = k)) = true ↔ q ∈ ks.take i ∨ q ∈ [k]
      rw [Bool.or_eq_true, mem q, decide_eq_true_eq, List.mem_singleton]
    have far : ∀ b ∈ fp, b ≠ a := fun b hb q => off (q ▸ hb)
    refine wpAny_pure ⟨plainId_quiet PyProof.Rows.F.plain_set_update_loop _, ih (i + 1) _ (by omega) (W.frame (i + 1) z h2 _ st' (Nat.le_succ _) fun b hb o q => (same.2 b (far b hb)).trans q) m2 fun y mv2 m3 => fin y ?_ m3⟩
    exact Moved.trans W.gtrans ((mv.mono wide).then_heap (Nat.le_succ _) fun b o hb q => (same.2 b fun u => hb (u ▸ List.mem_cons_self)).trans q) mv2
end
section
variable {prog : Program} {w : World} {κ : Type} [DecidableEq κ] [BEq κ] [LawfulBEq κ] {knd : KeyKind prog w κ} {A : Around} {E : Value → Shared → Prop} {s : Shared}
/-- an empty set's object -/
abbrev setEmpty (led : Bool) : Obj := { cls := .type "set", dict := none, data := .set #[] 0 (.fresh 0 0 led) }
theorem met_none (led : Bool) {a : Addr} {ks : List κ} {h : Heap} (e : h.get? a = some (setEmpty led)) : Met knd a ks 0 h :=
  ⟨_, _, (PyProof.Rows.setObjOf_fresh (knd := knd) led).setOf e (by decide), Nat.le_refl 0, fun k => by simp⟩
set_option maxHeartbeats 3200000 in
/-- set(x), x a list or a tuple -/
theorem set_of (l : Addr) (items : Array Value) (ks : List κ) {Q : Value → Shared → Prop} (calm : A.handled = none) (src : s.heap.IsList l items ∨ s.heap.IsTuple l items) (room : items.size + 1 < scanBound)
    (is : ∀ (i : Nat) (v : Value), items[i]? = some v → ∃ k, ks[i]? = some k ∧ knd.is k v = true ∧ v.scannable = true)
    (fin : ∀ (h : Heap) (t : Nat), Met knd s.heap.objs.size ks items.size h → (∀ b o, b < s.heap.objs.size → s.heap.get? b = some o → h.get? b = some o) → Q (.ref s.heap.objs.size) { s with heap := h, toks := t }) :
    wpAny (model prog w) A (call (.type "set") [.ref l]) Q E s := by
  let a := s.heap.objs.size
  obtain ⟨c, tl, u1⟩ := PySem.F.called_set.mro
  have u2 := PySem.F.called_set.made
  have u3 := PySem.F.called_set.sub
  refine wpAny_call (codeAny_of_tree ((wpAny_pure ⟨Code.quiet_builtin _ (by decide +kernel), codeAny_builtin PySem.F.entry_type_call ?_⟩ : wpAny _ _ (callAny (.type "set") _) _ _ _)))
  rw [Around.under_plain (weight_type_call_type "set" [.ref l] []) rfl]
  have u4 := PySem.F.called_set.notType
  have u5 := PySem.F.called_set.canCreate
  have u6 := PySem.F.typeCall_set_1 (.ref l)
  repeat (any_goals (first | assumption | wp_step))
  refine codeAny_mono (code_set_new_1 (.ref l) (E := E) (Q₁ := fun o z => ∃ led : Bool, o = .ref a ∧ z = { s with heap := s.heap.push (setEmpty led) }) fun led => ⟨led, rfl, rfl⟩) fun r z hr => ?_
  rcases r with e | fl
  · exact hr
  cases fl with
  | ret o =>
    obtain ⟨led, rfl, rfl⟩ := hr
    have ea : (s.heap.push (setEmpty led)).get? a = some (setEmpty led) := Heap.get?_push_size _ rfl
    have ty : Shared.TypeIs { s with heap := s.heap.push (setEmpty led) } (.ref a) "set" := ⟨_, ea, rfl⟩
    have u7 := PySem.F.called_set.init.lookup
    have u8 := PySem.F.called_set.init.bind (.ref a)
    repeat (any_goals (first | assumption | wp_step))
    refine codeAny_mono (codeAny_call_builtin (R := wants (fun r z => r = .none ∧ ∃ h t, z = { s with heap := h, toks := t } ∧ Met knd a ks items.size h ∧ ∀ b o, b < a → s.heap.get? b = some o → h.get? b = some o) E)
      PySem.F.called_set.init.plain PySem.F.entry_set_init (check_set_init_1 ty ?_)) fun r z hr => ?_
    · have far : ∀ {b : Addr}, b < a → b ≠ (s.heap.push (setEmpty led)).objs.size := fun {b} hb => by
        rw [Heap.size_push]
        exact Nat.ne_of_lt (Nat.lt_succ_of_lt hb)
      have off : ∀ {b : Addr}, b < a → a ∉ [(s.heap.push (setEmpty led)).objs.size, b] := fun {b} hb hm => by
        rw [Heap.size_push] at hm
        rcases List.mem_cons.mp hm with q | q
        · exact Nat.ne_of_lt (Nat.lt_succ_self a) q
        · exact Nat.ne_of_gt hb (List.mem_singleton.mp q)
      have close : ∀ (z : Shared) (o : Obj), Moved [a, (s.heap.push (setEmpty led)).objs.size] (fun x y => y = x) { s with heap := (s.heap.push (setEmpty led)).push o } z → Met knd a ks items.size z.heap →
          ∃ (h : Heap) (t : Nat), z = { s with heap := h, toks := t } ∧ Met knd a ks items.size h ∧ ∀ b o, b < a → s.heap.get? b = some o → h.get? b = some o := fun z o mv m => by
        obtain ⟨h, g, dr, t, os⟩ := z
        have e1 : g = s.gens := mv.gens
        have e2 : dr = s.drawn := mv.drawn
        have e3 : os = s.os := mv.os
        subst e1 e2 e3
        refine ⟨h, t, rfl, m, fun b o hb q => mv.heap b o (fun hm => ?_) (Heap.get?_push_of_some _ (Heap.get?_push_of_some _ q))⟩
        rcases List.mem_cons.mp hm with u | u
        · exact Nat.ne_of_lt hb u
        · exact far hb (List.mem_singleton.mp u)
      rcases src with src | src
      · obtain ⟨ol, p1, p2, nl, p3⟩ := src
        have low : l < a := Heap.lt_size p1
        obtain ⟨oc, od, oda, osl⟩ := ol
        simp only at p2 p3
        subst p2 p3
        have p4 : (s.heap.push (setEmpty led)).get? l = some ⟨.type "list", od, .seq items nl, osl⟩ := Heap.get?_push_of_some _ p1
        have u9 := PySem.F.sub_list_set
        have u10 := PySem.F.sub_list_frozenset
        have u11 : (Value.type "list" == Value.type "dict") = false := by decide
        have p5 : (s.heap.push (setEmpty led)).IsList l items := ⟨_, p4, rfl, nl, rfl⟩
        unfold Builtin.«set.__init__» noKeywords Builtin.Frozenset.updateFrom
        generalize hide : pyIter = PI
        wp_walk
        subst hide
        refine wpAny_pyIter_list p5 (wpAny_bind (wpAny_runValue ?_))
        refine met_all ((Walks.list (show A.in1.in1.in1.handled = none by simp [calm]) _ l (far low) items).toS) (off low) ks room is items.size 0 _ (Nat.zero_add _) ⟨⟨_, Heap.get?_push_size _ rfl, rfl, rfl⟩, p5.push _⟩ (met_none led (Heap.get?_push_of_some _ ea)) fun z mv m => ?_
        show wpAny _ _ _ _ _ z
        refine wpAny_pure ?_
        show wpAny _ _ (ret Value.none) _ _ z
        exact wpAny_pure ⟨rfl, close z _ mv m⟩
      · obtain ⟨ol, p1, p2, nl, p3⟩ := src
        have low : l < a := Heap.lt_size p1
        obtain ⟨oc, od, oda, osl⟩ := ol
        simp only at p2 p3
        subst p2 p3
        have p4 : (s.heap.push (setEmpty led)).get? l = some ⟨.type "tuple", od, .seq items nl, osl⟩ := Heap.get?_push_of_some _ p1
        have u9 := PySem.F.sub_tuple_set
        have u10 := PySem.F.sub_tuple_frozenset
        have u11 : (Value.type "tuple" == Value.type "dict") = false := by decide
        have p5 : (s.heap.push (setEmpty led)).IsTuple l items := ⟨_, p4, rfl, nl, rfl⟩
        unfold Builtin.«set.__init__» noKeywords Builtin.Frozenset.updateFrom
        generalize hide : pyIter = PI
        wp_walk
        subst hide
        refine wpAny_pyIter_tuple p5 (wpAny_bind (wpAny_runValue ?_))
        refine met_all ((Walks.tuple (show A.in1.in1.in1.handled = none by simp [calm]) _ l (far low) items).toS) (off low) ks room is items.size 0 _ (Nat.zero_add _) ⟨⟨_, Heap.get?_push_size _ rfl, rfl, rfl⟩, p5.push _⟩ (met_none led (Heap.get?_push_of_some _ ea)) fun z mv m => ?_
        show wpAny _ _ _ _ _ z
        refine wpAny_pure ?_
        show wpAny _ _ (ret Value.none) _ _ z
        exact wpAny_pure ⟨rfl, close z _ mv m⟩
    · rcases r with e | fl2
      · exact hr
      cases fl2 with
      | ret r =>
        obtain ⟨rfl, h, t, rfl, m, k⟩ := hr
        repeat (any_goals (first | assumption | wp_step))
        exact fin h t m k
      | _ => exact hr.elim
  | _ => exact hr.elim
end
end My
/-! part Kit2 -/
namespace My
open PySem PySem.Spec PyProof.Rows L2

theorem same_new {H : Hp} {p : Addr} (h : H p = none) (o : HO) : Same H (upd H p o) := fun b u q => by rw [upd_ne (ne_of_none q h)]; exact q
theorem upd_self {H : Hp} {a : Addr} {o : HO} (h : H a = some o) : upd H a o = H := by
  funext b
  unfold upd
  split
  · rename_i e; rw [e, h]
  · rfl
theorem fmod_lo (x : Int) {k : Int} (h : 0 < k) : 0 ≤ x.fmod k := by
  rw [Int.fmod_eq_emod_of_nonneg _ (Int.le_of_lt h)]
  exact Int.emod_nonneg _ (by omega)
theorem fmod_hi (x : Int) {k : Int} (h : 0 < k) : x.fmod k < k := by
  rw [Int.fmod_eq_emod_of_nonneg _ (Int.le_of_lt h)]
  exact Int.emod_lt_of_pos _ h

/-! ### the bag of draws -/
/-- its five items: the cells at l, how many of k were taken, the rest of a great one, the mixed number, the draws -/
def bagF (l : Addr) (k : Nat) : List V → Prop := fun xs => ∃ i g m n : Int, xs = [.ref l, .int i, .int g, .int m, .int n] ∧ 0 ≤ i ∧ i ≤ (k : Int) ∧ 0 ≤ m ∧ m < 2147483629
/-- a bag stands at a -/
def IsBag (H : Hp) (a : Addr) : Prop := ∃ (l : Addr) (ns : List Int), H l = some (.lst (ns.map V.int)) ∧ ns.length ≤ 63 ∧ H a = some (Seal a (bagF l ns.length))
theorem IsBag.same {H H' : Hp} {a : Addr} (b : IsBag H a) (s : Same H H') : IsBag H' a := by
  obtain ⟨l, ns, h1, h2, h3⟩ := b
  exact ⟨l, ns, s _ _ h1, h2, s _ _ h3⟩
/-- the open one, as the def of the draws sees it -/
def spDraw0 : Sp := fun vs H Q _ => ∃ (a l : Addr) (ns : List Int) (k : Int) (xs : List V), vs = [.ref a, .int k] ∧ H l = some (.lst (ns.map V.int)) ∧ H a = some (.lst xs) ∧ l ≠ a ∧ bagF l ns.length xs ∧ 0 < k ∧ k < 1073741824 ∧
  ∀ (d : Int) (ys : List V), 0 ≤ d → d < k → bagF l ns.length ys → Q (.int d) (upd H a (.lst ys))
/-- a draw below k: any number -/
def spDraw : Sp := fun vs H Q _ => ∃ (a : Addr) (k : Int), vs = [.ref a, .int k] ∧ IsBag H a ∧ 0 < k ∧ k < 1073741824 ∧ ∀ d : Int, 0 ≤ d → d < k → Q (.int d) H
theorem draw_sealed {P : Program} {w : World} {K : PySem.W.Frag} {mg : Str → Option Value} {base : Heap} {k : Nat} {f : Addr} {fd : FuncData} {ps : List Str}
    (F : FnOk P w K mg base CX0 k f fd ps spDraw0) (h2 : ps.length = 2) : FnOk P w K mg base CX0 k f fd ps spDraw := by
  refine fn_seal F (fun vs H Q E h => ?_) (fun vs H Q E h => ?_)
  · obtain ⟨a, k, rfl, _⟩ := h
    exact h2.symm
  · obtain ⟨a, k, rfl, ⟨l, ns, hl, hn, ha⟩, h0, h1, q⟩ := h
    have la : l ≠ a := ne_of hl ha (by intro z; cases z)
    refine ⟨a, _, ha, fun xs hx => ⟨a, l, ns, k, xs, rfl, ?_, upd_same, la, hx, h0, h1, fun d ys hd hk hy => ⟨ys, upd_same, hy, ?_⟩⟩⟩
    · rw [upd_ne la]; exact hl
    · rw [upd_upd, upd_upd, upd_self ha]; exact q d hd hk
/-- an item drawn out of a list or a text -/
def spOf (K : PySem.W.Frag) : Sp := fun vs H Q _ => ∃ (a p : Addr) (xs : List V), vs = [.ref a, .ref p] ∧ IsBag H a ∧ SqL K H p xs ∧ 0 < xs.length ∧ xs.length ≤ 1000000 ∧ ∀ (i : Nat) (v : V), xs[i]? = some v → Q v H

/-- a def that hands back a new list, which is then sealed -/
theorem fn_seal_ret {P : Program} {w : World} {K : PySem.W.Frag} {mg : Str → Option Value} {base : Heap} {k : Nat} {f : Addr} {fd : FuncData} {ps : List Str} {sp sp' : Sp} (F : FnOk P w K mg base CX0 k f fd ps sp)
    (len : ∀ vs H Q E, sp' vs H Q E → vs.length = ps.length)
    (h : ∀ vs H Q E, sp' vs H Q E → sp vs H (fun v H' => ∃ (a : Addr) (φ : List V → Prop) (ys : List V), H' a = some (.lst ys) ∧ φ ys ∧ Q v (upd H' a (Seal a φ))) E) :
    FnOk P w K mg base CX0 k f fd ps sp' := by
  refine ⟨len, fun A outer s H args us vs Q E hr he hb hv hs => ?_⟩
  have R := F.run A outer s H args us vs _ E hr he hb hv (h vs H Q E hs)
  refine codeAny_mono R fun r s' c => ?_
  cases r with
  | error x => exact (show False from c).elim
  | ok fl =>
    cases fl with
    | ret u =>
      obtain ⟨v, H', h1, h2, h3, h4, h5, a, φ, ys, h6, h7, h8⟩ := c
      refine ⟨v, upd H' a (Seal a φ), h1, h2, ?_, hok_seal h4 h6 h7, h5, h8⟩
      refine ⟨fun b o q n i j => h3.keep b o q n i j, fun b o q n i j => h3.slot b o q n i j, fun b o q n j => none_upd h6 (h3.free b o q n j), fun b o q j => h3.there b o q j, fun b zs q => ?_, fun b o z q => ?_, fun b zs q => ?_⟩
      · have z := h3.tups b zs q
        rw [upd_ne (ne_of z h6 (by intro y; cases y))]; exact z
      · have z := h3.frzs b o z q
        rw [upd_ne (ne_of z h6 (by intro y; cases y))]; exact z
      · obtain ⟨m, z⟩ := h3.tbls b zs q
        exact ⟨m, by rw [upd_ne (ne_of z h6 (by intro y; cases y))]; exact z⟩
    | _ => exact c
def spBag0 (K : PySem.W.Frag) : Sp := fun vs H Q _ => ∃ (a : Addr) (ns : List Int), vs = [.ref a] ∧ SqL K H a (ns.map V.int) ∧ ns.length ≤ 63 ∧ ∀ (H' : Hp) (b l : Addr) (ms : List Int) (ys : List V), Same H H' → H b = none → H' l = some (.lst (ms.map V.int)) → ms.length ≤ 63 → H' b = some (.lst ys) → bagF l ms.length ys → l ≠ b → Q (.ref b) H'
/-- the bag of a script: new -/
def spBag (K : PySem.W.Frag) : Sp := fun vs H Q _ => ∃ (a : Addr) (ns : List Int), vs = [.ref a] ∧ SqL K H a (ns.map V.int) ∧ ns.length ≤ 63 ∧ ∀ (H' : Hp) (b : Addr), Same H H' → H b = none → IsBag H' b → Q (.ref b) H'
theorem bag_sealed {P : Program} {w : World} {K : PySem.W.Frag} {mg : Str → Option Value} {base : Heap} {k : Nat} {f : Addr} {fd : FuncData} {ps : List Str}
    (F : FnOk P w K mg base CX0 k f fd ps (spBag0 K)) (h2 : ps.length = 1) : FnOk P w K mg base CX0 k f fd ps (spBag K) := by
  refine fn_seal_ret F (fun vs H Q E h => ?_) (fun vs H Q E h => ?_)
  · obtain ⟨a, ns, rfl, _⟩ := h
    exact h2.symm
  · obtain ⟨a, ns, rfl, hs, hn, q⟩ := h
    refine ⟨a, ns, rfl, hs, hn, fun H' b l ms ys sm nb hl hm hb hf lb => ⟨b, _, ys, hb, hf, q _ b ?_ nb ⟨l, ms, ?_, hm, upd_same⟩⟩⟩
    · intro c o e
      rw [upd_ne (ne_of_none e nb)]
      exact sm c o e
    · rw [upd_ne lb]; exact hl
theorem cut_map (ns : List Int) (lo hi : Option Int) : ∃ ms : List Int, cutV (ns.map V.int) lo hi = ms.map V.int ∧ ms.length ≤ ns.length := by
  refine ⟨(ns.drop (HT.sIx (ns.map V.int).length 0 lo)).take (HT.sIx (ns.map V.int).length (ns.map V.int).length hi - HT.sIx (ns.map V.int).length 0 lo), ?_, ?_⟩
  · unfold cutV
    rw [List.map_take, List.map_drop]
  · rw [List.length_take, List.length_drop]
    omega
theorem small63 {n : Nat} (h : n ≤ 1000) : n ≤ sizeLine := Nat.le_of_lt (small1000 h)
end My
/-! part Kit3 -/
namespace My
open PySem PySem.Spec PyProof.Rows L2
section
variable {X : Cx} (K : PySem.W.Frag) (h : X.K = K := by rfl)
include h
theorem k_ix_list : IxR X (rIxL K) := by subst h; exact ix_list
theorem k_ix_tup : IxR X (rIxT K) := by subst h; exact ix_tup
theorem k_op_in_seq : OpR X (compareOp .In) (rIn K false) := by subst h; exact op_in_seq
theorem k_op_notIn_seq : OpR X (compareOp .NotIn) (rIn K true) := by subst h; exact op_notIn_seq
theorem k_call_len_seq : CallR X (.builtin "len") (fun xs H Q => ∃ p ys, xs = [.ref p] ∧ (SqL K H p ys ∨ SqT K H p ys) ∧ Q (.int ys.length) H) := by subst h; exact call_len_seq
theorem k_sl_list : SlR X (rSlL K) := by subst h; exact sl_list
theorem k_sl_tup : SlR X (rSlT K) := by subst h; exact sl_tup
theorem k_call_list_of : CallR X (.type "list") (fun xs H Q => ∃ p ys, xs = [.ref p] ∧ (SqL K H p ys ∨ SqT K H p ys) ∧ ∀ l, H l = none → Q (.ref l) (upd H l (.lst ys))) := by subst h; exact call_list_of
theorem k_call_tuple_of : CallR X (.type "tuple") (fun xs H Q => ∃ p ys, xs = [.ref p] ∧ ((SqL K H p ys ∧ ∀ l, H l = none → Q (.ref l) (upd H l (.tup ys))) ∨ (SqT K H p ys ∧ Q (.ref p) H))) := by subst h; exact call_tuple_of
theorem k_op_catT : OpR X (binaryOp .Add) (rCatT K) := by subst h; exact op_catT
theorem k_call_isi : CallR X (.builtin "isinstance") (rIsi K) := by subst h; exact call_isi
theorem k_call_isiT : CallR X (.builtin "isinstance") (rIsiT K) := by subst h; exact call_isiT
theorem k_op_eqD (hu : X.A.units + 64 < cLine) : OpR X (compareOp .Eq) (rEqD K) := by subst h; exact op_eqD hu
theorem k_op_neD (hu : X.A.units + 64 < cLine) : OpR X (compareOp .NotEq) (rNeD K) := by subst h; exact op_neD hu
end
section
variable {X : Cx} (K : PySem.W.Frag) (h : X.K = K := by rfl) (hc : X.calm = true := by rfl)
include h hc
theorem k_cr_all : CallR X (.builtin "all") (rAll K) := by subst h; exact cr_all hc
theorem k_cr_any : CallR X (.builtin "any") (rAny K) := by subst h; exact cr_any hc
theorem k_cr_sum : CallR X (.builtin "sum") (rSum K) := by subst h; exact cr_sum hc
end
theorem _root_.L2.Same.seqT {K : PySem.W.Frag} {H H' : Hp} {a : Addr} {xs : List V} (e : Same H H') (h : SqT K H a xs) : SqT K H' a xs := by
  rcases h with (h | ⟨o, h⟩) | h
  · exact .inl (.inl (e _ _ h))
  · exact .inl (.inr ⟨o, e _ _ h⟩)
  · exact .inr h
theorem ty_list {K : PySem.W.Frag} {H : Hp} {a : Addr} {xs : List V} (h : SqL K H a xs) : TyX K H (.ref a) (.type "list") := by
  rcases h with (h | ⟨o, h⟩) | ⟨o, _, _, h, c, _⟩
  · exact .base (.lst h)
  · exact .base (.frz h)
  · exact .kList h c
theorem ty_tuple {K : PySem.W.Frag} {H : Hp} {a : Addr} {xs : List V} (h : SqT K H a xs) : TyX K H (.ref a) (.type "tuple") := by
  rcases h with (h | ⟨o, h⟩) | ⟨o, _, _, h, c, _⟩
  · exact .base (.tup h)
  · exact .fTuple h
  · exact .kTuple h c
theorem walk_zipT {K : PySem.W.Frag} {a b : Addr} {xs ys : List V} {n : Nat} (hn : n = min xs.length ys.length) : Walk (RZ.ItzT K a b) n (fun H => SqT K H a xs ∧ SqT K H b ys) (YPair (fun i => xs[i]?) (fun i => ys[i]?)) := by
  subst hn
  refine ⟨fun i H hi q => ?_, fun H q => ⟨xs, ys, q.1, q.2, by omega⟩, fun i H v H' hi q y => ?_⟩
  · have u1 : i < xs.length := by omega
    have u2 : i < ys.length := by omega
    exact ⟨xs, ys, xs[i], ys[i], q.1, q.2, by simp [u1], by simp [u2]⟩
  · obtain ⟨T, x, z, u1, u2, u3, u4, u5⟩ := y
    exact ⟨T, x, z, u1, u2, u3, u4 xs q.1, u5 ys q.2⟩
def scalV : V → Bool
  | .non => true
  | .bl _ => true
  | .int _ => true
  | .str _ => true
  | _ => false
/-- v and w are the same data, at most n deep -/
def Eqv (K : PySem.W.Frag) (H : Hp) : Nat → V → V → Prop
  | 0, _, _ => False
  | n + 1, v, w => (v = w ∧ scalV v = true) ∨
    (∃ (a b : Addr) (xs ys : List V), v = .ref a ∧ w = .ref b ∧ SqL K H a xs ∧ SqL K H b ys ∧ xs.length = ys.length ∧ xs.length < sizeLine ∧ ∀ (i : Nat) (x y : V), xs[i]? = some x → ys[i]? = some y → Eqv K H n x y) ∨
    (∃ (a b : Addr) (xs ys : List V), v = .ref a ∧ w = .ref b ∧ SqT K H a xs ∧ SqT K H b ys ∧ xs.length = ys.length ∧ xs.length < sizeLine ∧ ∀ (i : Nat) (x y : V), xs[i]? = some x → ys[i]? = some y → Eqv K H n x y)
theorem Eqv.same {K : PySem.W.Frag} {H H' : Hp} (s : Same H H') : ∀ {n : Nat} {v w : V}, Eqv K H n v w → Eqv K H' n v w
  | 0, _, _, h => h.elim
  | n + 1, _, _, .inl h => .inl h
  | n + 1, _, _, .inr (.inl ⟨a, b, xs, ys, e1, e2, h1, h2, h3, h4, h5⟩) => .inr (.inl ⟨a, b, xs, ys, e1, e2, s.seq h1, s.seq h2, h3, h4, fun i x y hx hy => Eqv.same s (h5 i x y hx hy)⟩)
  | n + 1, _, _, .inr (.inr ⟨a, b, xs, ys, e1, e2, h1, h2, h3, h4, h5⟩) => .inr (.inr ⟨a, b, xs, ys, e1, e2, Same.seqT s h1, Same.seqT s h2, h3, h4, fun i x y hx hy => Eqv.same s (h5 i x y hx hy)⟩)
/-- the law's own comparison, of same data -/
def spSame (K : PySem.W.Frag) (n : Nat) : Sp := fun vs H Q _ => ∃ (v w : V), vs = [v, w] ∧ Eqv K H n v w ∧ ∀ H', Same H H' → Q (.bl true) H'
end My
/-! part Kit4 -/
namespace My
open PySem PySem.Spec PyProof.Rows L2
/-! ### words of letters -/
abbrev az : Str := Str.ofString "abcdefghijklmnopqrstuvwxyz"
def kwL : List Str := [Str.ofString "let", Str.ofString "set", Str.ofString "out", Str.ofString "read", Str.ofString "do", Str.ofString "def", Str.ofString "if", Str.ofString "else", Str.ofString "repeat", Str.ofString "block"]
/-- the program's own test of a name -/
def nameB (z : Str) : Bool := if (z.length : Int) > 6 then false else Txt.isascii z && (Txt.isalpha z && (Txt.islower z && !kwL.contains z))
def toS (l : List Nat) : Str := ⟨l.toArray⟩
/-- the last t letters of the word with an index -/
def sfx : Nat → Nat → List Nat
  | 0, _ => []
  | t + 1, i => (97 + (i / 26 ^ t) % 26) :: sfx t i
theorem sfx_len : ∀ t i, (sfx t i).length = t
  | 0, _ => rfl
  | t + 1, i => by
    show (sfx t i).length + 1 = t + 1
    rw [sfx_len t i]
theorem toS_len (l : List Nat) : (toS l).length = l.length := by
  show l.toArray.size = l.length
  exact List.size_toArray ..
theorem toS_cons (c : Nat) (l : List Nat) : (⟨#[c]⟩ : Str) ++ toS l = toS (c :: l) := by
  show (⟨#[c] ++ l.toArray⟩ : Str) = ⟨(c :: l).toArray⟩
  rw [show #[c] ++ l.toArray = (c :: l).toArray by simp]
theorem az_at {k : Nat} (h : k < 26) : atI az.cps.toList (k : Int) = some (97 + k) := by
  have q : ∀ k : Fin 26, az.cps.toList[k.1]? = some (97 + k.1) := by decide +kernel
  exact atI_nat (q ⟨k, h⟩)
theorem az_len : az.length = 26 := by decide +kernel
theorem inV_strs (x : Str) : ∀ ys : List Str, inV (.str x) (ys.map V.str) = ys.contains x
  | [] => rfl
  | y :: ys => by
    have ih := inV_strs x ys
    unfold inV at ih ⊢
    rw [List.map_cons, List.any_cons, ih, List.contains_cons]
    rw [show eqV (.str y) (.str x) = (y == x) from rfl]
    rw [show (y == x) = (x == y) from Bool.eq_iff_iff.mpr ⟨fun h => beq_iff_eq.mpr (beq_iff_eq.mp h).symm, fun h => beq_iff_eq.mpr (beq_iff_eq.mp h).symm⟩]
theorem flat_strs (ys : List Str) : (ys.map V.str).all flatV = true := by
  rw [List.all_map]
  exact List.all_eq_true.mpr fun _ _ => rfl
end My
/-! part SetR -/
namespace My
open PySem PySem.Spec PyProof.Rows L2
section
variable {X : Cx}
theorem lawful_key : LawfulBEq Key where
  eq_of_beq {a b} h := by
    cases a <;> cases b
    · exact congrArg Sum.inl (eq_of_beq (α := Int) h)
    · cases h
    · cases h
    · exact congrArg Sum.inr (eq_of_beq (α := Str) h)
  rfl {a} := by
    cases a
    · exact beq_self_eq_true (α := Int) _
    · exact beq_self_eq_true (α := Str) _
theorem key_of_str {P : Program} {w : World} : ∀ {xs : List Str} {us : List Value}, Vals (xs.map V.str) us → ∀ (i : Nat) (v : Value), us.toArray[i]? = some v → ∃ k : Key, (xs.map Sum.inr)[i]? = some k ∧ (mixKind P w).is k v = true ∧ v.scannable = true
  | [], _, .nil, i, v, h => by simp at h
  | x :: xs, _, .cons r t, 0, v, h => by
    obtain ⟨t, rfl⟩ := r
    have e : Value.str x t = v := by simpa using h
    subst e
    exact ⟨.inr x, rfl, mixKind_str P w x t, rfl⟩
  | x :: xs, _,   .cons r t, i + 1, v, h => by
    obtain ⟨k, h1, h2⟩ := key_of_str (P := P) (w := w) t i v (by simpa using h)
    exact ⟨k, by simpa using h1, h2⟩
/-- set(x), x a list or tuple of texts: new, its members are those -/
def rSetS (K : PySem.W.Frag) (P : Program) (w : World) : List V → Hp → VK → Prop := fun vs H Q => ∃ (l : Addr) (xs : List Str), vs = [.ref l] ∧ (SqL K H l (xs.map V.str) ∨ SqT K H l (xs.map V.str)) ∧ xs.length ≤ 4000 ∧
  ∀ (a : Addr) (S : Key → Bool) (n : Nat), H a = none → (∀ x : Str, S (.inr x) = xs.contains x) → Q (.ref a) (upd H a (SetK P w a S n))
theorem cr_setS (hc : X.calm = true) : CallR X (.type "set") (rSetS X.K X.prog X.w) := by
  intro pins s σ H vs us Q I r h
  obtain ⟨l, xs, rfl, hs, hn, q⟩ := h
  rw [Vals.ref1 r]
  have go : ∀ its : List Value, Vals (xs.map V.str) its → (s.heap.IsList l its.toArray ∨ s.heap.IsTuple l its.toArray) → wpAny (model X.prog X.w) X.A (call (.type "set") [.ref l]) (EP X pins σ Q) X.xe s := fun its rv src => by
    haveI : LawfulBEq Key := lawful_key
    have e : its.length = xs.length := by rw [← rv.length, List.length_map]
    refine set_of (knd := mixKind X.prog X.w) l its.toArray (xs.map Sum.inr) (I.ok.hd hc) src (by rw [List.size_toArray, e]; unfold scanBound; omega) (key_of_str rv) fun h t m k => ?_
    obtain ⟨S, n, so, _, mem⟩ := m
    have hf : H s.heap.objs.size = none := I.hok.fresh (Nat.le_refl _)
    refine ⟨.ref s.heap.objs.size, _, I.laid (t' := t) (fun b o e => k b o (Heap.lt_size e) e) (Nat.le_refl _) (setK_new so), rfl, q _ S n hf fun x => ?_⟩
    rw [Bool.eq_iff_iff, mem, List.size_toArray, e, List.take_of_length_le (by rw [List.length_map]; exact Nat.le_refl _), List.contains_iff_mem, List.mem_map]
    exact ⟨fun ⟨y, hy, z⟩ => by cases z; exact hy, fun hy => ⟨x, hy, rfl⟩⟩
  rcases hs with hs | hs
  · obtain ⟨its, rv, p, _⟩ := I.list hs
    exact go its rv (.inl p.isList)
  · obtain ⟨its, rv, p, _⟩ := I.tuple hs
    exact go its rv (.inr p)
end
end My
/-! part Kit5 -/
namespace My
open PySem PySem.Spec PyProof.Rows L2
/-- the words of L letters, in order -/
def ws (L : Nat) : List Str := (List.range (26 ^ L)).map fun i => toS (sfx L i)
def okW (avoid : List Str) (z : Str) : Bool := nameB z && !avoid.contains z
/-- the words of fewer than L + 1 letters -/
def pre (L : Nat) : List Str := (List.range L).flatMap fun t => ws (t + 1)
/-- the first so many names that are not to be avoided -/
def fresh (many : Nat) (avoid : List Str) : List Str := ((pre 6).filter (okW avoid)).take many
theorem pre_succ (L : Nat) : pre (L + 1) = pre L ++ ws (L + 1) := by
  unfold pre
  rw [List.range_succ, List.flatMap_append, List.flatMap_singleton]
theorem pre_le {L : Nat} (h : L ≤ 6) : ∃ r, pre 6 = pre L ++ r := by
  have go : ∀ d : Nat, ∃ r, pre (L + d) = pre L ++ r := fun d => by
    induction d with
    | zero => exact ⟨[], by simp⟩
    | succ d ih =>
      obtain ⟨r, e⟩ := ih
      exact ⟨r ++ ws (L + d + 1), by rw [← Nat.add_assoc, pre_succ, e, List.append_assoc]⟩
  obtain ⟨r, e⟩ := go (6 - L)
  rw [show L + (6 - L) = 6 by omega] at e
  exact ⟨r, e⟩
theorem ws_get {L i : Nat} (h : i < 26 ^ L) : (ws L)[i]? = some (toS (sfx L i)) := by
  unfold ws
  rw [List.getElem?_map, List.getElem?_range h] <;> rfl
theorem ws_len (L : Nat) : (ws L).length = 26 ^ L := by
  unfold ws
  rw [List.length_map, List.length_range]
theorem take_front {many : Nat} {f : Str → Bool} (u v : List Str) (h : (u.filter f).length = many) : u.filter f = ((u ++ v).filter f).take many := by
  rw [List.filter_append, List.take_append_of_le_length (by rw [h]; exact Nat.le_refl _), List.take_of_length_le (by rw [h]; exact Nat.le_refl _)]
/-- a first part of what is gone through that has enough -/
theorem fresh_enough {many L j : Nat} {avoid : List Str} (hL : L < 6) (hj : ((pre L ++ (ws (L + 1)).take j).filter (okW avoid)).length = many) :
    (pre L ++ (ws (L + 1)).take j).filter (okW avoid) = fresh many avoid := by
  obtain ⟨r, e⟩ := pre_le (show L + 1 ≤ 6 by omega)
  have c : pre 6 = (pre L ++ (ws (L + 1)).take j) ++ ((ws (L + 1)).drop j ++ r) := by
    rw [e, pre_succ, List.append_assoc, List.append_assoc, ← List.append_assoc ((ws (L + 1)).take j), List.take_append_drop]
  unfold fresh
  rw [c]
  exact take_front _ _ hj
theorem fresh_end {many : Nat} {avoid : List Str} (h : ((pre 6).filter (okW avoid)).length ≤ many) : (pre 6).filter (okW avoid) = fresh many avoid := by
  unfold fresh
  rw [List.take_of_length_le h]
theorem fresh_len (many : Nat) (avoid : List Str) : (fresh many avoid).length ≤ many := by
  unfold fresh
  rw [List.length_take]
  omega
theorem sfx_mem : ∀ (t i c : Nat), c ∈ sfx t i → 97 ≤ c ∧ c < 123
  | 0, _, c, h => by cases h
  | t + 1, i, c, h => by
    rcases List.mem_cons.mp h with e | e
    · have q : i / 26 ^ t % 26 < 26 := Nat.mod_lt _ (by decide)
      rw [e]
      omega
    · exact sfx_mem t i c e
def spFresh (K : PySem.W.Frag) : Sp := fun vs H Q _ => ∃ (many : Nat) (l : Addr) (xs : List Str), vs = [.int many, .ref l] ∧ (SqL K H l (xs.map V.str) ∨ SqT K H l (xs.map V.str)) ∧ xs.length ≤ 4000 ∧ many ≤ 1000000 ∧
  ∀ (H' : Hp) (p : Addr), Same H H' → H p = none → H' p = some (.lst ((fresh many xs).map V.str)) → Q (.ref p) H'
end My
/-! part Kit6 -/
namespace My
open PySem PySem.Spec PyProof.Rows L2
theorem cut_to (xs : List V) (n : Nat) : cutV xs none (some (n : Int)) = xs.take n := by
  unfold cutV
  rw [HT.sIx_none, show HT.sIx xs.length xs.length (some (n : Int)) = min n xs.length from HT.sIx_nat xs.length xs.length n, List.drop_zero, Nat.sub_zero]
  rw [List.take_eq_take_iff]
  omega
theorem cut_mid (xs : List V) (m n : Nat) (h1 : m ≤ n) (h2 : n ≤ xs.length) : cutV xs (some (m : Int)) (some (n : Int)) = (xs.drop m).take (n - m) := by
  unfold cutV
  rw [show HT.sIx xs.length 0 (some (m : Int)) = min m xs.length from HT.sIx_nat xs.length 0 m, show HT.sIx xs.length xs.length (some (n : Int)) = min n xs.length from HT.sIx_nat xs.length xs.length n, Nat.min_eq_left (Nat.le_trans h1 h2), Nat.min_eq_left h2]
/-! ### the law's own words -/
def c26 : List Nat := (List.range 26).map (97 + ·)
def lw1 : List (List Nat) := c26.map fun x => [x]
def lw2 : List (List Nat) := c26.flatMap fun x => c26.map fun y => [x, y]
def lw3 : List (List Nat) := [97, 98].flatMap fun x => c26.flatMap fun y => c26.map fun z => [x, y, z]
def lawW : List Str := ((lw1 ++ lw2 ++ lw3).map toS).filter fun z => !kwL.contains z
theorem az_cps : az.cps.toList = c26 := by decide +kernel
def spWords : Sp := fun vs H Q _ => ∃ many : Nat, vs = [.int many] ∧ ∀ (H' : Hp) (p : Addr), Same H H' → H p = none → H' p = some (.lst ((lawW.take many).map V.str)) → Q (.ref p) H'
def spKw : Sp := fun vs H Q _ => vs = [] ∧ ∀ (H' : Hp) (p : Addr), Same H H' → H p = none → H' p = some (.lst (kwL.map V.str)) → Q (.ref p) H'
def spAz : Sp := fun vs H Q _ => vs = [] ∧ Q (.str az) H
end My
/-! part Kit7 -/
namespace My
open PySem PySem.Spec PyProof.Rows L2
section
variable {J : It} {n : Nat} {G : Hp → Prop} {Y : Nat → Hp → V → Hp → Prop} {g : TG} {tt : TT} {te : TE} {vs : List Nat} {σ : L2.St} {H1 : Hp} {D : Addr} {Qd : Hp → Prop}
/-- a comprehension whose i-th item gives `out i`, nothing for none: the new list of what was given -/
theorem lc_gen (w : Walk J n G Y) (out : Nat → Option V) (small : n < sizeLine) (nD : H1 D = none) (hG : ∀ H', Same H1 H' → G H')
    (hs : ∀ (i : Nat) (x : V) (H H' : Hp) (R : V → Hp → Prop) (Rn : Hp → Prop), i < n → Same H1 H → Y i H x H' → (∀ y, out i = some y → ∀ H4, Same H H4 → R y H4) → (out i = none → ∀ H4, Same H H4 → Rn H4) →
      g x (wipe σ vs) H' fun σ2 H2 => wipe σ2 vs = wipe σ vs ∧ tt σ2 H2 fun b H3 => if b = true then te σ2 H3 R else Rn H3)
    (hd : ∀ H', Same H1 H' → H' D = some (.lst ((List.range n).filterMap out)) → Qd H') :
    ∃ W : Nat → Nat → Hp → Prop, (∃ m, W 0 m (upd H1 D (.lst []))) ∧ ∀ i m H, W i m H →
      (J.stop i H ∧ Qd H) ∨ (J.go i H ∧ ∃ Nx : Hp → Prop, (∀ H', Nx H' → ∃ m', m' < m ∧ W (i + 1) m' H') ∧ ∀ x H', J.yld i H x H' → g x (wipe σ vs) H' fun σ2 H2 => wipe σ2 vs = wipe σ vs ∧ tt σ2 H2 fun b H3 =>
        if b = true then te σ2 H3 fun y H4 => ∃ acc, H4 D = some (.lst acc) ∧ acc.length < sizeLine ∧ Nx (upd H4 D (.lst (acc ++ [y]))) else Nx H3) := by
  have bound : ∀ i, ((List.range i).filterMap out).length ≤ i := fun i => Nat.le_trans (List.length_filterMap_le ..) (by rw [List.length_range]; exact Nat.le_refl _)
  have step : ∀ i, (List.range (i + 1)).filterMap out = (List.range i).filterMap out ++ (match out i with | some y => [y] | none => []) := fun i => by
    rw [List.range_succ, List.filterMap_append]
    cases h : out i with
    | none => rw [List.filterMap_cons_none h, List.filterMap_nil]
    | some y => rw [List.filterMap_cons_some h, List.filterMap_nil]
  refine lc_it w (fun i H => Same H1 H ∧ H D = some (.lst ((List.range i).filterMap out))) ⟨same_new nD _, upd_same⟩ (fun i H _ p => hG H p.1) (fun i x H H' hi p y => ?_) (fun H p => hd H p.1 p.2)
  refine hs i x H H' _ _ hi p.1 y (fun z e H4 s => ?_) (fun e H4 s => ?_)
  · refine ⟨_, s _ _ p.2, Nat.lt_of_le_of_lt (bound i) (Nat.lt_trans hi small), fun b o q => ?_, ?_⟩
    · rw [upd_ne (ne_of_none q nD)]
      exact s _ _ (p.1 _ _ q)
    · rw [upd_same, step, e]
  · refine ⟨p.1.trans s, ?_⟩
    rw [step, e, List.append_nil]
    exact s _ _ p.2
/-- a comprehension whose items are only known to be Ok -/
theorem lc_rel (w : Walk J n G Y) (Ok : Nat → V → Hp → Prop) (small : n < sizeLine) (nD : H1 D = none) (hG : ∀ H', Same H1 H' → G H') (mono : ∀ i y H H', (∀ b o, b ≠ D → H b = some o → H' b = some o) → Ok i y H → Ok i y H')
    (hs : ∀ (i : Nat) (x : V) (H H' : Hp) (R : V → Hp → Prop) (Rn : Hp → Prop), i < n → Same H1 H → H D ≠ none → Y i H x H' → (∀ y H4, Same H H4 → Ok i y H4 → R y H4) →
      g x (wipe σ vs) H' fun σ2 H2 => wipe σ2 vs = wipe σ vs ∧ tt σ2 H2 fun b H3 => if b = true then te σ2 H3 R else Rn H3)
    (hd : ∀ H' ys, Same H1 H' → ys.length = n → (∀ i y, ys[i]? = some y → Ok i y H') → H' D = some (.lst ys) → Qd H') :
    ∃ W : Nat → Nat → Hp → Prop, (∃ m, W 0 m (upd H1 D (.lst []))) ∧ ∀ i m H, W i m H →
      (J.stop i H ∧ Qd H) ∨ (J.go i H ∧ ∃ Nx : Hp → Prop, (∀ H', Nx H' → ∃ m', m' < m ∧ W (i + 1) m' H') ∧ ∀ x H', J.yld i H x H' → g x (wipe σ vs) H' fun σ2 H2 => wipe σ2 vs = wipe σ vs ∧ tt σ2 H2 fun b H3 =>
        if b = true then te σ2 H3 fun y H4 => ∃ acc, H4 D = some (.lst acc) ∧ acc.length < sizeLine ∧ Nx (upd H4 D (.lst (acc ++ [y]))) else Nx H3) := by
  refine lc_it w (fun i H => Same H1 H ∧ ∃ ys : List V, ys.length = i ∧ (∀ k y, ys[k]? = some y → Ok k y H) ∧ H D = some (.lst ys)) ?_ (fun i H _ p => hG H p.1) (fun i x H H' hi p y => ?_) (fun H p => ?_)
  · exact ⟨same_new nD _, [], rfl, fun k y h => by simp at h, upd_same⟩
  · obtain ⟨s1, ys, rfl, ok, e⟩ := p
    refine hs ys.length x H H' _ _ hi s1 (by rw [e]; exact fun z => nomatch z) y fun z H4 s o4 => ?_
    refine ⟨_, s _ _ e, Nat.lt_trans hi small, fun b o q => ?_, ys ++ [z], by rw [List.length_append, List.length_singleton], fun k u hu => ?_, upd_same⟩
    · rw [upd_ne (ne_of_none q nD)]
      exact s _ _ (s1 _ _ q)
    · have back : ∀ b o, b ≠ D → H4 b = some o → upd H4 D (.lst (ys ++ [z])) b = some o := fun b o hb q => by rw [upd_ne hb]; exact q
      by_cases hk : k < ys.length
      · rw [List.getElem?_append_left hk] at hu
        exact mono k u _ _ back (mono k u _ _ (fun b o _ q => s b o q) (ok k u hu))
      · rw [List.getElem?_append_right (by omega)] at hu
        have k0 : k = ys.length := by
          have := (List.getElem?_eq_some_iff.mp hu).1
          rw [List.length_singleton] at this
          omega
        subst k0
        rw [Nat.sub_self] at hu
        obtain rfl : z = u := Option.some.inj hu
        exact mono _ _ _ _ back o4
  · obtain ⟨s1, ys, h2, ok, e⟩ := p
    exact hd H ys s1 h2 ok e
end
end My
/-! part Kit8 -/
namespace My
open PySem PySem.Spec PyProof.Rows L2
theorem range_items {α β : Type} (l : List α) (f : α → Option β) (k : Nat) : (List.range k).filterMap (fun i => (l[i]?).bind f) = (l.take k).filterMap f := by
  induction k with
  | zero => rfl
  | succ k ih =>
    rw [List.range_succ, List.filterMap_append, ih, List.take_add_one, List.filterMap_append]
    congr 1
    cases h : l[k]? with
    | none =>
      rw [List.filterMap_cons_none (by show (l[k]?).bind f = none; rw [h] <;> rfl)]
      rfl
    | some x =>
      show [k].filterMap (fun i => (l[i]?).bind f) = [x].filterMap f
      cases h2 : f x with
      | none => rw [List.filterMap_cons_none (by show (l[k]?).bind f = none; rw [h]; exact h2), List.filterMap_cons_none h2]; rfl
      | some y => rw [List.filterMap_cons_some (b := y) (by show (l[k]?).bind f = some y; rw [h]; exact h2), List.filterMap_cons_some h2]; rfl
theorem range_all {α β : Type} (l : List α) (f : α → Option β) : (List.range l.length).filterMap (fun i => (l[i]?).bind f) = l.filterMap f := by
  rw [range_items, List.take_of_length_le (Nat.le_refl _)]
theorem filterMap_some {α β : Type} (f : α → β) : ∀ l : List α, l.filterMap (fun x => some (f x)) = l.map f
  | [] => rfl
  | x :: l => by
    rw [List.filterMap_cons_some (f := fun x => some (f x)) (b := f x) rfl, filterMap_some f l]
    rfl
theorem toS_app (a b : List Nat) : toS a ++ toS b = toS (a ++ b) := by
  show (⟨a.toArray ++ b.toArray⟩ : Str) = ⟨(a ++ b).toArray⟩
  rw [List.append_toArray]
def vS (l : List (List Nat)) : List V := l.map fun x => V.str (toS x)
theorem vS_len (l : List (List Nat)) : (vS l).length = l.length := List.length_map _
theorem vS_app (a b : List (List Nat)) : vS a ++ vS b = vS (a ++ b) := by
  unfold vS
  rw [List.map_append]
theorem vS_get {l : List (List Nat)} {i : Nat} {x : List Nat} (h : l[i]? = some x) : (vS l)[i]? = some (.str (toS x)) := by
  unfold vS
  rw [List.getElem?_map, h]
  rfl
theorem c26_len : c26.length = 26 := by decide
theorem az_size : az.cps.size = 26 := by decide +kernel
theorem az_getA (i : Nat) : az.cps[i]? = c26[i]? := by
  rw [← az_cps, Array.getElem?_toList]
end My
/-! part Kit9 -/
namespace My
open PySem PySem.Spec PyProof.Rows L2
/-- each word with each letter behind -/
def ext1 (l : List (List Nat)) : List (List Nat) := l.flatMap fun a => c26.map fun b => a ++ [b]
theorem ext1_len : ∀ l : List (List Nat), (ext1 l).length = 26 * l.length
  | [] => rfl
  | a :: l => by
    show (c26.map (fun b => a ++ [b]) ++ ext1 l).length = 26 * (l.length + 1)
    rw [List.length_append, List.length_map, ext1_len l, c26_len]
    omega
theorem ext1_app (l m : List (List Nat)) : ext1 (l ++ m) = ext1 l ++ ext1 m := by
  unfold ext1
  rw [List.flatMap_append]
theorem ext1_one (a : List Nat) : ext1 [a] = c26.map fun b => a ++ [b] := by
  unfold ext1
  rw [List.flatMap_singleton]
theorem ext1_nil : ext1 [[]] = lw1 := by decide +kernel
theorem ext1_lw1 : ext1 lw1 = lw2 := by decide +kernel
theorem ext1_ab : ext1 (ext1 [[97], [98]]) = lw3 := by decide +kernel
theorem lw1_len : lw1.length = 26 := by decide
theorem lw2_len : lw2.length = 676 := by decide +kernel
theorem vS_c26 (a : List Nat) : c26.map (fun c => V.str (toS (a ++ [c]))) = vS (ext1 [a]) := by
  rw [ext1_one]
  unfold vS
  rw [List.map_map]
  rfl
theorem take_snoc {α : Type} {l : List α} {i : Nat} {x : α} (h : l[i]? = some x) : l.take (i + 1) = l.take i ++ [x] := by
  rw [List.take_add_one, h]
  rfl
theorem ab_cps : (Str.ofString "ab").cps.toList = [97, 98] := by decide +kernel
end My
namespace My
open PySem PySem.Spec PyProof.Rows L2
theorem ab_size : (Str.ofString "ab").cps.size = 2 := by decide +kernel
theorem kw_filter : ∀ l : List (List Nat), l.filterMap (fun x => if kwL.contains (toS x) = true then none else some (V.str (toS x))) = ((l.map toS).filter fun z => !kwL.contains z).map V.str
  | [] => rfl
  | x :: l => by
    have ih := kw_filter l
    cases h : kwL.contains (toS x) with
    | true =>
      rw [List.filterMap_cons_none (by rw [h] <;> rfl), List.map_cons, List.filter_cons_of_neg (by rw [h]; exact Bool.false_ne_true), ih]
    | false =>
      rw [List.filterMap_cons_some (b := .str (toS x)) (by rw [h] <;> rfl), List.map_cons, List.filter_cons_of_pos (by rw [h] <;> rfl), ih, List.map_cons]
end My
/-! part KitA -/
namespace My
open PySem PySem.Spec PyProof.Rows L2
theorem letter_ok {c : Nat} (h1 : 97 ≤ c) (h2 : c < 123) : Unicode.isAlpha c = true ∧ Unicode.isLower c = true ∧ Unicode.isUpper c = false ∧ Unicode.isTitle c = false ∧ c < 128 := by
  have q : ∀ k : Fin 26, Unicode.isAlpha (97 + k.1) = true ∧ Unicode.isLower (97 + k.1) = true ∧ Unicode.isUpper (97 + k.1) = false ∧ Unicode.isTitle (97 + k.1) = false ∧ 97 + k.1 < 128 := by decide +kernel
  have e : c = 97 + (c - 97) := by omega
  rw [e]
  exact q ⟨c - 97, by omega⟩
/-- a word of letters is a name unless it is a keyword -/
theorem nameB_word {l : List Nat} (h0 : 0 < l.length) (h6 : l.length ≤ 6) (h : ∀ c ∈ l, 97 ≤ c ∧ c < 123) : nameB (toS l) = !kwL.contains (toS l) := by
  have a1 : Txt.isascii (toS l) = true := by
    show l.toArray.all (fun c => decide (c < 128)) = true
    rw [List.all_toArray]
    exact List.all_eq_true.mpr fun c hc => decide_eq_true (letter_ok (h c hc).1 (h c hc).2).2.2.2.2
  have a2 : Txt.isalpha (toS l) = true := by
    show (decide ((toS l).length > 0) && l.toArray.all Unicode.isAlpha) = true
    rw [List.all_toArray, toS_len, decide_eq_true h0]
    exact List.all_eq_true.mpr fun c hc => (letter_ok (h c hc).1 (h c hc).2).1
  have a3 : Txt.islower (toS l) = true := by
    show (l.toArray.any Unicode.isLower && !l.toArray.any fun c => Unicode.isUpper c || Unicode.isTitle c) = true
    rw [List.any_toArray, List.any_toArray]
    have b1 : l.any Unicode.isLower = true := by
      cases l with
      | nil => exact absurd h0 (by decide)
      | cons c r => exact List.any_eq_true.mpr ⟨c, List.mem_cons_self, (letter_ok (h c List.mem_cons_self).1 (h c List.mem_cons_self).2).2.1⟩
    have b2 : (l.any fun c => Unicode.isUpper c || Unicode.isTitle c) = false := List.any_eq_false.mpr fun c hc => by
      have q := letter_ok (h c hc).1 (h c hc).2
      rw [q.2.2.1, q.2.2.2.1]
      exact Bool.false_ne_true
    rw [b1, b2]
    rfl
  unfold nameB
  rw [if_neg (by rw [toS_len]; omega), a1, a2, a3]
  rfl
def lwAll : List (List Nat) := lw1 ++ lw2 ++ lw3
theorem lw_ok : lwAll.all (fun l => decide (0 < l.length) && decide (l.length ≤ 6) && l.all fun c => decide (97 ≤ c) && decide (c < 123)) = true := by decide +kernel
theorem lw_word {l : List Nat} (h : l ∈ lwAll) : nameB (toS l) = !kwL.contains (toS l) := by
  have q := List.all_eq_true.mp lw_ok l h
  simp only [Bool.and_eq_true, decide_eq_true_eq, List.all_eq_true] at q
  exact nameB_word q.1.1 q.1.2 fun c hc => q.2 c hc
theorem ws_eq {L : Nat} {l : List (List Nat)} {n : Nat} (h : (List.range n).map (sfx L) = l) (hn : n ≤ 26 ^ L) : (ws L).take n = l.map toS := by
  unfold ws
  rw [← List.map_take, List.take_range, Nat.min_eq_left hn, ← h, List.map_map]
  rfl
theorem pre_front : ∃ r, pre 6 = lwAll.map toS ++ r := by
  obtain ⟨r, e⟩ := pre_le (show 3 ≤ 6 by decide)
  have e1 : ws 1 = lw1.map toS := by
    rw [← ws_eq (L := 1) (n := 26) (l := lw1) (by decide +kernel) (by decide), List.take_of_length_le (by rw [ws_len]; decide)]
  have e2 : ws 2 = lw2.map toS := by
    rw [← ws_eq (L := 2) (n := 676) (l := lw2) (by decide +kernel) (by decide), List.take_of_length_le (by rw [ws_len]; decide)]
  have e3 : (ws 3).take 1352 = lw3.map toS := ws_eq (by decide +kernel) (by decide)
  refine ⟨(ws 3).drop 1352 ++ r, ?_⟩
  rw [e, show pre 3 = ws 1 ++ ws 2 ++ ws 3 by rw [pre_succ 2, pre_succ 1, pre_succ 0]; rfl]
  unfold lwAll
  rw [List.map_append, List.map_append, ← e1, ← e2, ← e3, ← List.append_assoc, List.append_assoc (ws 1 ++ ws 2) _ ((ws 3).drop 1352), List.take_append_drop]
theorem name_front : ∃ r, (pre 6).filter nameB = lawW ++ r := by
  obtain ⟨r, e⟩ := pre_front
  refine ⟨r.filter nameB, ?_⟩
  rw [e, List.filter_append]
  congr 1
  unfold lawW
  show _ = (lwAll.map toS).filter _
  refine List.filter_congr fun z hz => ?_
  obtain ⟨l, hl, rfl⟩ := List.mem_map.mp hz
  exact lw_word hl
/-! no word twice -/
def code (l : List Nat) : Nat := l.foldl (fun a c => a * 27 + (c - 96)) 0
def upB : List Nat → Bool
  | [] => true
  | [_] => true
  | a :: b :: r => decide (a < b) && upB (b :: r)
theorem up_pw : ∀ {l : List Nat}, upB l = true → l.Pairwise (· < ·)
  | [], _ => .nil
  | [a], _ => List.pairwise_singleton ..
  | a :: b :: r, h => by
    have h : (decide (a < b) && upB (b :: r)) = true := h
    rw [Bool.and_eq_true, decide_eq_true_eq] at h
    have ih := up_pw h.2
    refine List.pairwise_cons.mpr ⟨fun c hc => ?_, ih⟩
    rcases List.mem_cons.mp hc with e | e
    · rw [e]; exact h.1
    · exact Nat.lt_trans h.1 ((List.pairwise_cons.mp ih).1 c e)
theorem lw_chain : upB (lwAll.map code) = true := by decide +kernel
theorem toS_inj {a b : List Nat} (h : toS a = toS b) : a = b := by
  have q : a.toArray = b.toArray := congrArg Str.cps h
  simpa using q
theorem lw_nodup : (lwAll.map toS).Nodup := by
  have p : (lwAll.map code).Pairwise (· < ·) := up_pw lw_chain
  refine List.pairwise_map.mpr ((List.pairwise_map.mp p).imp fun {a b} h e => ?_)
  have q : a = b := toS_inj e
  rw [q] at h
  exact Nat.lt_irrefl _ h
theorem lawW_nodup : lawW.Nodup := List.Pairwise.filter _ lw_nodup
theorem lawW_len : lawW.length = 2052 := by decide +kernel
/-- of different words at most as many are avoided as there are to avoid -/
theorem left_over : ∀ (av : List Str) (l : List Str), l.Nodup → l.length ≤ (l.filter fun z => !av.contains z).length + av.length
  | [], l, _ => by
    have e : (l.filter fun z => !([] : List Str).contains z) = l := List.filter_eq_self.mpr fun _ _ => rfl
    rw [e]
    exact Nat.le_refl _
  | a :: av, l, h => by
    have e : (l.filter fun z => !(a :: av).contains z) = (l.filter fun z => z != a).filter fun z => !av.contains z := by
      rw [List.filter_filter]
      refine List.filter_congr fun z _ => ?_
      rw [List.contains_cons, Bool.not_or, Bool.and_comm]
      rfl
    have ih := left_over av (l.filter fun z => z != a) (List.Pairwise.filter _ h)
    have k : l.length ≤ (l.filter fun z => z != a).length + 1 := by
      rw [← List.Nodup.erase_eq_filter h, List.length_erase]
      split <;> omega
    rw [e, List.length_cons]
    omega
theorem fresh_law {many : Nat} {av : List Str} (h : many + av.length ≤ 1400) : fresh many av = ((lawW.take 1400).filter fun z => !av.contains z).take many := by
  obtain ⟨r, e⟩ := name_front
  have e2 : (pre 6).filter (okW av) = ((pre 6).filter nameB).filter fun z => !av.contains z := by
    rw [List.filter_filter]
    refine List.filter_congr fun z _ => ?_
    unfold okW
    rw [Bool.and_comm]
  unfold fresh
  rw [e2, e, show lawW ++ r = lawW.take 1400 ++ (lawW.drop 1400 ++ r) by rw [← List.append_assoc, List.take_append_drop], List.filter_append, List.take_append_of_le_length]
  have q := left_over av (lawW.take 1400) (lawW_nodup.sublist (List.take_sublist ..))
  rw [List.length_take, lawW_len] at q
  omega
end My
/-! part KitK -/
/-! calls by keywords alone -/
namespace My
open PySem PySem.Spec PyProof.Rows L2
/-- the items at these places -/
def pick {α : Type} (is : List Nat) (xs : List α) : List α := is.filterMap fun i => xs[i]?
theorem pick_rel : ∀ (is : List Nat) {zs : List V} {ws : List Value}, Vals zs ws → Vals (pick is zs) (pick is ws)
  | [], _, _, _ => .nil
  | i :: is, zs, ws, r => by
    have ih := pick_rel is r
    cases h : zs[i]? with
    | none =>
      have h2 := r.none_of h
      unfold pick
      rw [List.filterMap_cons_none h, List.filterMap_cons_none h2]
      exact ih
    | some v =>
      obtain ⟨u, h2, rv⟩ := r.get h
      unfold pick
      rw [List.filterMap_cons_some h, List.filterMap_cons_some h2]
      exact .cons rv ih
section
variable {K : PySem.W.Frag} {x qual : Str} {st : Stmt} {f : Addr} {fd : FuncData} {ps ks : List Str}
/-- how keywords bind: positional values first, then by the places `is` of the keywords -/
theorem kbn_of (F : L2.Fun K x qual st f fd) (n : Nat) (is : List Nat)
    (h : ∀ (kV doc pm : Value) (an : Option Addr) (cdv ct : Value) (us ws : List Value), us.length = n → ws.length = ks.length → bindArgs (PySem.W.fnOf x qual (defArgs st) (defBody st) (defScope st) .none kV doc pm an cdv ct) ⟨us, ks.zip ws⟩ = pure (ps.zip (us ++ pick is ws))) :
    KBn K fd ps n ks (fun us ws => us ++ pick is ws) (fun vs zs => vs ++ pick is zs) := by
  obtain ⟨oc, od, kV, doc, pm, an, cdv, ct, osl, rfl, lk, hcd⟩ := F.ex
  exact ⟨fun s us ws _ h1 h2 => .of_eq (h kV doc pm an cdv ct us ws h1 h2), fun r1 r2 => Vals.append r1 (pick_rel is r2)⟩
end
section
variable {X : Cx} {CX : CXT} {k n : Nat} {f : Addr} {fd : FuncData} {ps ks : List Str} {sp : Sp} {g : List Value → List Value → List Value} {gV : List V → List V → List V} {E : XK} {x : Str} {p pos : Pos} {kws : List Keyword} {tk : TA}
theorem pe_callK0 (F : FnOk X.prog X.w X.K X.mg X.base CX k f fd ps sp) (hr : Room k X.A) (hg : Gl X x) (hm : X.mg x = some (.ref f)) (hk : PySem.W.keepIn X.K (.ref f) = true) (hb : KBn X.K fd ps 0 ks g gV) (hx : Passes CX X E) (hkw : PK X kws tk)
    (hall : (backToKw pos (keywordEach kws X.env)).all (·.1.isSome) = true := by rfl) (hks : (backToKw pos (keywordEach kws X.env)).filterMap (·.1) = ks := by rfl) (hdb : (x == ("__debug__" : Str)) = false := by decide)
    (hpl : ((backTo pos (starEach [] X.env)).any (·.1) || (backToKw pos (keywordEach kws X.env)).any (·.1.isNone)) = false := by rfl) : PE X (.Call (.Name x p) [] kws pos) (tCallN 0 ks.length sp gV E tNil tk) := by
  refine ⟨fun pins s σ H Q I h => wpAny_Call_Name_kw (ld_glob I hg hm (PySem.W.callWith_KW0 (h₀ := X.base) I.ok.mod.kin hk hall ?_ hpl) hdb)⟩
  refine thn (hkw.run pos pins s σ H _ I h) fun ws s2 ⟨zs, H2, I2, rz, l1, l2, q2⟩ => ⟨I2.kIn, ?_⟩
  rw [hks]
  exact run_fnN F hr hb hx I2 .nil rz l1 l2 q2
end
end My
/-! part KitB -/
namespace My
open PySem PySem.Spec PyProof.Rows L2
def spLaw (K : PySem.W.Frag) : Sp := fun vs H Q _ => ∃ (a : Addr) (ns : List Int), vs = [.ref a] ∧ SqL K H a (ns.map V.int) ∧ ns.length ≤ 63 ∧ ∀ H', Q (.bl true) H'
/-- a list of texts -/
theorem strs_of {ys : List V} (h : ∀ (i : Nat) (y : V), ys[i]? = some y → ∃ s : Str, y = .str s) : ∃ ss : List Str, ys = ss.map V.str ∧ ss.length = ys.length := by
  induction ys with
  | nil => exact ⟨[], rfl, rfl⟩
  | cons y ys ih =>
    obtain ⟨s, rfl⟩ := h 0 y rfl
    obtain ⟨ss, e, l⟩ := ih fun i z hz => h (i + 1) z hz
    exact ⟨s :: ss, by rw [List.map_cons, ← e], by rw [List.length_cons, List.length_cons, l]⟩
/-- the same texts in two lists -/
theorem eqv_strs {K : PySem.W.Frag} {H : Hp} {a b : Addr} {ss : List Str} (h1 : SqL K H a (ss.map V.str)) (h2 : SqL K H b (ss.map V.str)) (hs : ss.length < sizeLine) (n : Nat) : Eqv K H (n + 2) (.ref a) (.ref b) := by
  refine .inr (.inl ⟨a, b, _, _, rfl, rfl, h1, h2, rfl, by rw [List.length_map]; exact hs, fun i x y hx hy => ?_⟩)
  rw [hx] at hy
  obtain rfl : x = y := Option.some.inj hy
  rw [List.getElem?_map] at hx
  obtain ⟨s, _, rfl⟩ := Option.map_eq_some_iff.mp hx
  exact .inl ⟨rfl, rfl⟩
theorem eqv_scal {K : PySem.W.Frag} {H : Hp} {n : Nat} {v : V} (h : scalV v = true) : Eqv K H (n + 1) v v := .inl ⟨rfl, h⟩
/-- a written list of things that are alike -/
theorem eqv_list {K : PySem.W.Frag} {H : Hp} {a b : Addr} {xs ys : List V} {n : Nat} (h1 : SqL K H a xs) (h2 : SqL K H b ys) (hs : xs.length < sizeLine) (h : Paired (Eqv K H n) xs ys) : Eqv K H (n + 1) (.ref a) (.ref b) := by
  refine .inr (.inl ⟨a, b, xs, ys, rfl, rfl, h1, h2, Paired.length h, hs, ?_⟩)
  clear h1 h2 hs
  induction h with
  | nil => intro i x y hx; simp at hx
  | cons r t ih =>
    intro i x y hx hy
    cases i with
    | zero =>
      obtain rfl := Option.some.inj hx
      obtain rfl := Option.some.inj hy
      exact r
    | succ i => exact ih i x y hx hy
theorem eqv_tup {K : PySem.W.Frag} {H : Hp} {a b : Addr} {xs ys : List V} {n : Nat} (h1 : SqT K H a xs) (h2 : SqT K H b ys) (hs : xs.length < sizeLine) (h : Paired (Eqv K H n) xs ys) : Eqv K H (n + 1) (.ref a) (.ref b) := by
  refine .inr (.inr ⟨a, b, xs, ys, rfl, rfl, h1, h2, Paired.length h, hs, ?_⟩)
  clear h1 h2 hs
  induction h with
  | nil => intro i x y hx; simp at hx
  | cons r t ih =>
    intro i x y hx hy
    cases i with
    | zero =>
      obtain rfl := Option.some.inj hx
      obtain rfl := Option.some.inj hy
      exact r
    | succ i => exact ih i x y hx hy
theorem str_filter (av : List Str) : ∀ l : List Str, l.filterMap (fun z => if av.contains z = true then none else some (V.str z)) = (l.filter fun z => !av.contains z).map V.str
  | [] => rfl
  | x :: l => by
    have ih := str_filter av l
    cases h : av.contains x with
    | true => rw [List.filterMap_cons_none (by rw [h] <;> rfl), List.filter_cons_of_neg (by rw [h]; exact Bool.false_ne_true), ih]
    | false => rw [List.filterMap_cons_some (b := .str x) (by rw [h] <;> rfl), List.filter_cons_of_pos (by rw [h] <;> rfl), ih, List.map_cons]
theorem same_none {K : PySem.W.Frag} {P : Program} {w : World} {mg : Str → Option Value} {base : Heap} {f : Addr} {fd : FuncData} {a b : Str} : FnOk P w K mg base CX0 0 f fd [a, b] (spSame K 0) :=
  ⟨fun vs H Q E h => (by obtain ⟨_, _, _, z, _⟩ := h; exact z.elim), fun A outer s H args us vs Q E _ _ _ _ h => (by obtain ⟨_, _, _, z, _⟩ := h; exact z.elim)⟩
end My
/-! part KitC -/
namespace My
open PySem PySem.Spec PyProof.Rows L2
theorem dp_strs {K : PySem.W.Frag} {H : Hp} : ∀ ss : List Str, DpAll K H (ss.map V.str) (ss.map PyData.str)
  | [] => .nil
  | s :: ss => .cons (.str s) (dp_strs ss)
theorem lay_strs : ∀ ss : List Str, (∀ s ∈ ss, PyData.strOk s = true) → PyData.canLayAll0 (ss.map PyData.str) = true
  | [], _ => rfl
  | s :: ss, h => by
    show (PyData.canLay0 (.str s) && PyData.canLayAll0 (ss.map PyData.str)) = true
    rw [lay_strs ss fun z hz => h z (List.mem_cons_of_mem _ hz), show PyData.canLay0 (.str s) = PyData.strOk s from rfl, h s List.mem_cons_self]
    rfl
theorem depth_strs : ∀ ss : List Str, PyData.depthAll (ss.map PyData.str) = 0
  | [] => by simp [PyData.depthAll]
  | s :: ss => by
    have ih := depth_strs ss
    simp [PyData.depthAll, PyData.depth, ih]
theorem shaped_strs {ss : List Str} (h : ∀ s ∈ ss, PyData.strOk s = true) : SeqAt.shaped (.list (ss.map PyData.str)) = true := by
  have d : PyData.depth (.list (ss.map PyData.str)) = 1 := by simp [PyData.depth, depth_strs]
  show (PyData.canLayAll0 (ss.map PyData.str) && decide (PyData.depth (.list (ss.map PyData.str)) ≤ 64)) = true
  rw [lay_strs ss h, d]
  rfl
theorem eqv_same {ss : List Str} (h : ∀ s ∈ ss, PyData.strOk s = true) : PyData.eqv (.list (ss.map PyData.str)) (.list (ss.map PyData.str)) = true := SeqAt.eqv_refl _ (lay_strs ss h)
theorem lawW_strOk : lawW.all (fun s => PyData.strOk s) = true := by decide +kernel
theorem strs_ok {ys : List V} (h : ∀ (i : Nat) (y : V), ys[i]? = some y → ∃ s : Str, y = .str s ∧ PyData.strOk s = true) : ∃ ss : List Str, ys = ss.map V.str ∧ ss.length = ys.length ∧ ∀ s ∈ ss, PyData.strOk s = true := by
  induction ys with
  | nil => exact ⟨[], rfl, rfl, fun s h => by cases h⟩
  | cons y ys ih =>
    obtain ⟨s, rfl, k⟩ := h 0 y rfl
    obtain ⟨ss, e, l, o⟩ := ih fun i z hz => h (i + 1) z hz
    refine ⟨s :: ss, by rw [List.map_cons, ← e], by rw [List.length_cons, List.length_cons, l], fun z hz => ?_⟩
    rcases List.mem_cons.mp hz with u | u
    · rw [u]; exact k
    · exact o z u
theorem new_at {H H' : Hp} {p : Addr} {o : HO} (hX : upd H p o = H') (np : H p = none) : Same H H' ∧ H' p = some o := by
  subst hX
  exact ⟨same_new np o, upd_same⟩
theorem same_over {H H' : Hp} {p : Addr} (s : Same H H') (n : H p = none) (o : HO) : Same H (upd H' p o) := fun b u e => by
  rw [upd_ne (ne_of_none e n)]
  exact s _ _ e
abbrev ww : List Str := lawW.take 1400
theorem ww_len : ww.length = 1400 := by
  show (lawW.take 1400).length = 1400
  rw [List.length_take, lawW_len]
  rfl
theorem late_all {m : Nat} (h : m ≤ 1400) : fresh m [] = ww.take m := by
  rw [fresh_law (by simpa using h)]
  have e : (ww.filter fun z => !([] : List Str).contains z) = ww := List.filter_eq_self.mpr fun _ _ => rfl
  rw [show (lawW.take 1400) = ww from rfl, e]
theorem late_mid {m : Nat} (h : 28 ≤ m) : ((ww.take m).drop 25).take 3 = [Str.ofString "z", Str.ofString "aa", Str.ofString "ab"] := by
  rw [List.drop_take, List.take_take, Nat.min_eq_left (by omega)]
  decide +kernel
theorem late_kw {m : Nat} {k : Str} (h : kwL.contains k = true) : (ww.take m).contains k = false := by
  cases q : (ww.take m).contains k
  · rfl
  · have mem : k ∈ lawW := List.mem_of_mem_take (List.mem_of_mem_take (List.contains_iff_mem.mp q))
    have z := (List.mem_filter.mp mem).2
    rw [h] at z
    cases z
abbrev held4 : List Str := [Str.ofString "a", Str.ofString "z", Str.ofString "zz", Str.ofString "dp"]
abbrev mid24 : List Str := (List.range 24).map fun i => toS [98 + i]
theorem late_held {m : Nat} (h1 : 26 ≤ m) (h2 : m ≤ 1000) : (fresh m held4).take 26 = mid24 ++ [Str.ofString "aa", Str.ofString "ab"] := by
  rw [fresh_law (by show m + 4 ≤ 1400; omega), List.take_take, Nat.min_eq_left h1]
  decide +kernel
end My
/-! part K01a -/
namespace Kx
open PySem PySem.Spec PyProof.Rows L2 My
def topS (i : Nat) : Stmt := PySem.Challenge.pw_piercednames_k01_words_and_ids_judged.main.body.getD i (.Pass ⟨0, 0, 0, 0⟩)
abbrev s_is_name : Stmt := topS 5
abbrev N_is_name : List Str := ["value"]
theorem sc_is_name : FnScope N_is_name ["value"] (defScope s_is_name) := ⟨rfl, rfl, rfl, by decide +kernel, rfl, by decide +kernel, by decide +kernel⟩
-- slots: 0 value
abbrev s_is_number : Stmt := topS 6
abbrev N_is_number : List Str := ["value", "least", "most"]
theorem sc_is_number : FnScope N_is_number ["value", "least", "most"] (defScope s_is_number) := ⟨rfl, rfl, rfl, by decide +kernel, rfl, by decide +kernel, by decide +kernel⟩
-- slots: 0 value, 1 least, 2 most
abbrev s_is_integer : Stmt := topS 7
abbrev N_is_integer : List Str := ["value"]
theorem sc_is_integer : FnScope N_is_integer ["value"] (defScope s_is_integer) := ⟨rfl, rfl, rfl, by decide +kernel, rfl, by decide +kernel, by decide +kernel⟩
-- slots: 0 value
abbrev s_is_id : Stmt := topS 8
abbrev N_is_id : List Str := ["value", "owner", "number"]
theorem sc_is_id : FnScope N_is_id ["value"] (defScope s_is_id) := ⟨rfl, rfl, rfl, by decide +kernel, rfl, by decide +kernel, by decide +kernel⟩
-- slots: 0 value, 1 owner, 2 number
abbrev s_is_owner : Stmt := topS 9
abbrev N_is_owner : List Str := ["value"]
theorem sc_is_owner : FnScope N_is_owner ["value"] (defScope s_is_owner) := ⟨rfl, rfl, rfl, by decide +kernel, rfl, by decide +kernel, by decide +kernel⟩
-- slots: 0 value
abbrev s_id_text : Stmt := topS 10
abbrev N_id_text : List Str := ["thing", "owner", "number"]
theorem sc_id_text : FnScope N_id_text ["thing"] (defScope s_id_text) := ⟨rfl, rfl, rfl, by decide +kernel, rfl, by decide +kernel, by decide +kernel⟩
-- slots: 0 thing, 1 owner, 2 number
abbrev s_read_id : Stmt := topS 11
abbrev N_read_id : List Str := ["text", "owner", "_", "digits"]
theorem sc_read_id : FnScope N_read_id ["text"] (defScope s_read_id) := ⟨rfl, rfl, rfl, by decide +kernel, rfl, by decide +kernel, by decide +kernel⟩
-- slots: 0 text, 1 owner, 2 _, 3 digits
abbrev s_read_numeral : Stmt := topS 12
abbrev N_read_numeral : List Str := ["text"]
theorem sc_read_numeral : FnScope N_read_numeral ["text"] (defScope s_read_numeral) := ⟨rfl, rfl, rfl, by decide +kernel, rfl, by decide +kernel, by decide +kernel⟩
-- slots: 0 text
abbrev s_is_plain_number : Stmt := topS 13
abbrev N_is_plain_number : List Str := ["text"]
theorem sc_is_plain_number : FnScope N_is_plain_number ["text"] (defScope s_is_plain_number) := ⟨rfl, rfl, rfl, by decide +kernel, rfl, by decide +kernel, by decide +kernel⟩
-- slots: 0 text
abbrev s__law_bag : Stmt := topS 15
abbrev N__law_bag : List Str := ["_law_script", "_law_mixed", "_law_cell"]
theorem sc__law_bag : FnScope N__law_bag ["_law_script"] (defScope s__law_bag) := ⟨rfl, rfl, rfl, by decide +kernel, rfl, by decide +kernel, by decide +kernel⟩
-- slots: 0 _law_script, 1 _law_mixed, 2 _law_cell
abbrev s__law_draw : Stmt := topS 16
abbrev N__law_draw : List Str := ["_law_bag_here", "_law_many", "_law_cell", "_law_digit", "_law_seed"]
theorem sc__law_draw : FnScope N__law_draw ["_law_bag_here", "_law_many"] (defScope s__law_draw) := ⟨rfl, rfl, rfl, by decide +kernel, rfl, by decide +kernel, by decide +kernel⟩
-- slots: 0 _law_bag_here, 1 _law_many, 2 _law_cell, 3 _law_digit, 4 _law_seed
abbrev s__law_of : Stmt := topS 17
abbrev N__law_of : List Str := ["_law_bag_here", "_law_some"]
theorem sc__law_of : FnScope N__law_of ["_law_bag_here", "_law_some"] (defScope s__law_of) := ⟨rfl, rfl, rfl, by decide +kernel, rfl, by decide +kernel, by decide +kernel⟩
-- slots: 0 _law_bag_here, 1 _law_some
abbrev s__law_same : Stmt := topS 18
abbrev N__law_same : List Str := ["_law_found", "_law_due", "_law_key", "_law_one", "_law_two"]
theorem sc__law_same : FnScope N__law_same ["_law_found", "_law_due"] (defScope s__law_same) := ⟨rfl, rfl, rfl, by decide +kernel, rfl, by decide +kernel, by decide +kernel⟩
-- slots: 0 _law_found, 1 _law_due, 2 _law_key, 3 _law_one, 4 _law_two
abbrev s__law_keywords : Stmt := topS 19
abbrev N__law_keywords : List Str := []
theorem sc__law_keywords : FnScope N__law_keywords [] (defScope s__law_keywords) := ⟨rfl, rfl, rfl, by decide +kernel, rfl, by decide +kernel, by decide +kernel⟩
-- slots: 
abbrev s__law_letters : Stmt := topS 20
abbrev N__law_letters : List Str := []
theorem sc__law_letters : FnScope N__law_letters [] (defScope s__law_letters) := ⟨rfl, rfl, rfl, by decide +kernel, rfl, by decide +kernel, by decide +kernel⟩
-- slots: 
abbrev s__law_is_word : Stmt := topS 21
abbrev N__law_is_word : List Str := ["_law_val_z", "_law_sign"]
theorem sc__law_is_word : FnScope N__law_is_word ["_law_val_z"] (defScope s__law_is_word) := ⟨rfl, rfl, rfl, by decide +kernel, rfl, by decide +kernel, by decide +kernel⟩
-- slots: 0 _law_val_z, 1 _law_sign
abbrev s__law_nest : Stmt := topS 22
abbrev N__law_nest : List Str := []
theorem sc__law_nest : FnScope N__law_nest [] (defScope s__law_nest) := ⟨rfl, rfl, rfl, by decide +kernel, rfl, by decide +kernel, by decide +kernel⟩
-- slots: 
abbrev s__law_odd : Stmt := topS 23
abbrev N__law_odd : List Str := ["_law_bag_here"]
theorem sc__law_odd : FnScope N__law_odd ["_law_bag_here"] (defScope s__law_odd) := ⟨rfl, rfl, rfl, by decide +kernel, rfl, by decide +kernel, by decide +kernel⟩
-- slots: 0 _law_bag_here
abbrev s__law_is_spot : Stmt := topS 24
abbrev N__law_is_spot : List Str := ["_law_val_z"]
theorem sc__law_is_spot : FnScope N__law_is_spot ["_law_val_z"] (defScope s__law_is_spot) := ⟨rfl, rfl, rfl, by decide +kernel, rfl, by decide +kernel, by decide +kernel⟩
-- slots: 0 _law_val_z
abbrev s__law_number_in : Stmt := topS 25
abbrev N__law_number_in : List Str := ["_law_te_z", "_law_mo_z", "_law_sign"]
theorem sc__law_number_in : FnScope N__law_number_in ["_law_te_z", "_law_mo_z"] (defScope s__law_number_in) := ⟨rfl, rfl, rfl, by decide +kernel, rfl, by decide +kernel, by decide +kernel⟩
-- slots: 0 _law_te_z, 1 _law_mo_z, 2 _law_sign
abbrev s__law_spot_in : Stmt := topS 26
abbrev N__law_spot_in : List Str := ["_law_te_z", "_law_at", "_law_owner", "_law_number"]
theorem sc__law_spot_in : FnScope N__law_spot_in ["_law_te_z"] (defScope s__law_spot_in) := ⟨rfl, rfl, rfl, by decide +kernel, rfl, by decide +kernel, by decide +kernel⟩
-- slots: 0 _law_te_z, 1 _law_at, 2 _law_owner, 3 _law_number
abbrev s_law : Stmt := topS 27
abbrev N_law : List Str := ["_law_script", "_law_bag_here", "_law_turn", "_law_word", "_law_k", "_law_at", "_law_bent", "_law_odd_here", "_law_val_z", "_law_number", "_law_some", "_law_digits", "_law_lea_z", "_law_mo_z", "_law_due"]
theorem sc_law : FnScope N_law ["_law_script"] (defScope s_law) := ⟨rfl, rfl, rfl, by decide +kernel, rfl, by decide +kernel, by decide +kernel⟩
-- slots: 0 _law_script, 1 _law_bag_here, 2 _law_turn, 3 _law_word, 4 _law_k, 5 _law_at, 6 _law_bent, 7 _law_odd_here, 8 _law_val_z, 9 _law_number, 10 _law_some, 11 _law_digits, 12 _law_lea_z, 13 _law_mo_z, 14 _law_due

structure Tx (K : PySem.W.Frag) (mg : Str → Option Value) where
  f_is_name : Addr
  d_is_name : FuncData
  F_is_name : Fun K "is_name" "is_name" s_is_name f_is_name d_is_name
  g_is_name : mg "is_name" = some (.ref f_is_name)
  b_is_name : Binds K d_is_name ["value"] []
  f_is_number : Addr
  d_is_number : FuncData
  F_is_number : Fun K "is_number" "is_number" s_is_number f_is_number d_is_number
  g_is_number : mg "is_number" = some (.ref f_is_number)
  b_is_number : Binds K d_is_number ["value", "least", "most"] []
  f_is_integer : Addr
  d_is_integer : FuncData
  F_is_integer : Fun K "is_integer" "is_integer" s_is_integer f_is_integer d_is_integer
  g_is_integer : mg "is_integer" = some (.ref f_is_integer)
  b_is_integer : Binds K d_is_integer ["value"] []
  f_is_id : Addr
  d_is_id : FuncData
  F_is_id : Fun K "is_id" "is_id" s_is_id f_is_id d_is_id
  g_is_id : mg "is_id" = some (.ref f_is_id)
  b_is_id : Binds K d_is_id ["value"] []
  f_is_owner : Addr
  d_is_owner : FuncData
  F_is_owner : Fun K "is_owner" "is_owner" s_is_owner f_is_owner d_is_owner
  g_is_owner : mg "is_owner" = some (.ref f_is_owner)
  b_is_owner : Binds K d_is_owner ["value"] []
  f_id_text : Addr
  d_id_text : FuncData
  F_id_text : Fun K "id_text" "id_text" s_id_text f_id_text d_id_text
  g_id_text : mg "id_text" = some (.ref f_id_text)
  b_id_text : Binds K d_id_text ["thing"] []
  f_read_id : Addr
  d_read_id : FuncData
  F_read_id : Fun K "read_id" "read_id" s_read_id f_read_id d_read_id
  g_read_id : mg "read_id" = some (.ref f_read_id)
  b_read_id : Binds K d_read_id ["text"] []
  f_read_numeral : Addr
  d_read_numeral : FuncData
  F_read_numeral : Fun K "read_numeral" "read_numeral" s_read_numeral f_read_numeral d_read_numeral
  g_read_numeral : mg "read_numeral" = some (.ref f_read_numeral)
  b_read_numeral : Binds K d_read_numeral ["text"] []
  f_is_plain_number : Addr
  d_is_plain_number : FuncData
  F_is_plain_number : Fun K "is_plain_number" "is_plain_number" s_is_plain_number f_is_plain_number d_is_plain_number
  g_is_plain_number : mg "is_plain_number" = some (.ref f_is_plain_number)
  b_is_plain_number : Binds K d_is_plain_number ["text"] []
  f__law_bag : Addr
  d__law_bag : FuncData
  F__law_bag : Fun K "_law_bag" "_law_bag" s__law_bag f__law_bag d__law_bag
  g__law_bag : mg "_law_bag" = some (.ref f__law_bag)
  b__law_bag : Binds K d__law_bag ["_law_script"] []
  f__law_draw : Addr
  d__law_draw : FuncData
  F__law_draw : Fun K "_law_draw" "_law_draw" s__law_draw f__law_draw d__law_draw
  g__law_draw : mg "_law_draw" = some (.ref f__law_draw)
  b__law_draw : Binds K d__law_draw ["_law_bag_here", "_law_many"] []
  f__law_of : Addr
  d__law_of : FuncData
  F__law_of : Fun K "_law_of" "_law_of" s__law_of f__law_of d__law_of
  g__law_of : mg "_law_of" = some (.ref f__law_of)
  b__law_of : Binds K d__law_of ["_law_bag_here", "_law_some"] []
  f__law_same : Addr
  d__law_same : FuncData
  F__law_same : Fun K "_law_same" "_law_same" s__law_same f__law_same d__law_same
  g__law_same : mg "_law_same" = some (.ref f__law_same)
  b__law_same : Binds K d__law_same ["_law_found", "_law_due"] []
  f__law_keywords : Addr
  d__law_keywords : FuncData
  F__law_keywords : Fun K "_law_keywords" "_law_keywords" s__law_keywords f__law_keywords d__law_keywords
  g__law_keywords : mg "_law_keywords" = some (.ref f__law_keywords)
  b__law_keywords : Binds K d__law_keywords [] []
  f__law_letters : Addr
  d__law_letters : FuncData
  F__law_letters : Fun K "_law_letters" "_law_letters" s__law_letters f__law_letters d__law_letters
  g__law_letters : mg "_law_letters" = some (.ref f__law_letters)
  b__law_letters : Binds K d__law_letters [] []
  f__law_is_word : Addr
  d__law_is_word : FuncData
  F__law_is_word : Fun K "_law_is_word" "_law_is_word" s__law_is_word f__law_is_word d__law_is_word
  g__law_is_word : mg "_law_is_word" = some (.ref f__law_is_word)
  b__law_is_word : Binds K d__law_is_word ["_law_val_z"] []
  f__law_nest : Addr
  d__law_nest : FuncData
  F__law_nest : Fun K "_law_nest" "_law_nest" s__law_nest f__law_nest d__law_nest
  g__law_nest : mg "_law_nest" = some (.ref f__law_nest)
  b__law_nest : Binds K d__law_nest [] []
  f__law_odd : Addr
  d__law_odd : FuncData
  F__law_odd : Fun K "_law_odd" "_law_odd" s__law_odd f__law_odd d__law_odd
  g__law_odd : mg "_law_odd" = some (.ref f__law_odd)
  b__law_odd : Binds K d__law_odd ["_law_bag_here"] []
  f__law_is_spot : Addr
  d__law_is_spot : FuncData
  F__law_is_spot : Fun K "_law_is_spot" "_law_is_spot" s__law_is_spot f__law_is_spot d__law_is_spot
  g__law_is_spot : mg "_law_is_spot" = some (.ref f__law_is_spot)
  b__law_is_spot : Binds K d__law_is_spot ["_law_val_z"] []
  f__law_number_in : Addr
  d__law_number_in : FuncData
  F__law_number_in : Fun K "_law_number_in" "_law_number_in" s__law_number_in f__law_number_in d__law_number_in
  g__law_number_in : mg "_law_number_in" = some (.ref f__law_number_in)
  b__law_number_in : Binds K d__law_number_in ["_law_te_z", "_law_mo_z"] []
  f__law_spot_in : Addr
  d__law_spot_in : FuncData
  F__law_spot_in : Fun K "_law_spot_in" "_law_spot_in" s__law_spot_in f__law_spot_in d__law_spot_in
  g__law_spot_in : mg "_law_spot_in" = some (.ref f__law_spot_in)
  b__law_spot_in : Binds K d__law_spot_in ["_law_te_z"] []
  f_law : Addr
  d_law : FuncData
  F_law : Fun K "law" "law" s_law f_law d_law
  g_law : mg "law" = some (.ref f_law)
  z_all : mg "all" = none
  z_bool : mg "bool" = none
  z_dict : mg "dict" = none
  z_int : mg "int" = none
  z_isinstance : mg "isinstance" = none
  z_len : mg "len" = none
  z_list : mg "list" = none
  z_range : mg "range" = none
  z_str : mg "str" = none
  z_tuple : mg "tuple" = none
  z_zip : mg "zip" = none
  a_KEYWORDS : Addr
  g_KEYWORDS : mg "KEYWORDS" = some (.ref a_KEYWORDS)
  q_KEYWORDS : ∀ H : Hp, SqT K H a_KEYWORDS [.str (PySem.Str.ofString "let"), .str (PySem.Str.ofString "set"), .str (PySem.Str.ofString "out"), .str (PySem.Str.ofString "read"), .str (PySem.Str.ofString "do"), .str (PySem.Str.ofString "def"), .str (PySem.Str.ofString "if"), .str (PySem.Str.ofString "else"), .str (PySem.Str.ofString "repeat"), .str (PySem.Str.ofString "block")]
  t_LIMIT : Tok
  g_LIMIT : mg "LIMIT" = some (.int 1000000 t_LIMIT)
  t_LONGEST_NAME : Tok
  g_LONGEST_NAME : mg "LONGEST_NAME" = some (.int 6 t_LONGEST_NAME)
  t_LONGEST_NUMERAL : Tok
  g_LONGEST_NUMERAL : mg "LONGEST_NUMERAL" = some (.int 6 t_LONGEST_NUMERAL)

end Kx
/-! part K01b -/
namespace Kx
open PySem PySem.Spec PyProof.Rows L2 My
section
variable {P : Program} {w : World} {K : PySem.W.Frag} {mg : Str → Option Value} {base : Heap} (T : Tx K mg)
theorem ok_draw0 : FnOk P w K mg base CX0 1 T.f__law_draw T.d__law_draw ["_law_bag_here", "_law_many"] spDraw0 := by
  refine T.F__law_draw.ok sc__law_draw (fun vs H Q E h => ?_) (fun cdv A outer s H vs Q E hr h => ?_)
  · obtain ⟨a, l, ns, k, xs, rfl, _⟩ := h
    rfl
  obtain ⟨a, l, ns, k, xs, rfl, hl, ha, la, ⟨i, g, m, n, rfl, i0, i1, m0, m1⟩, k0, k1, q⟩ := h
  refine ⟨_, (pss_cons (ps_asg (pe_op op_add (pe_ix ix_list (pv 0) pe_int (fun _ _ => rfl)) pe_int) (pg_sub (pv 0) pe_int set_list))
  (C8.pss_cut (ps_if (PW.pt (pw_and (pt_cmpR op_eq (pe_ix ix_list (pv 0) pe_int (fun _ _ => rfl)) pe_int (nomark _)) (pw_and1 (pt_cmpR op_lt (pe_ix ix_list (pv 0) pe_int (fun _ _ => rfl)) (pe_callB call_len_seq (by rfl) T.z_len (by decide +kernel) (pa_cons (pe_ix ix_list (pv 0) pe_int (fun _ _ => rfl)) pa_nil)) (nomark _)))))
    (pss_cons (ps_set (i := 2) sc__law_draw.nd rfl (Or.inl rfl) (pe_ix ix_list (pe_ix ix_list (pv 0) pe_int (fun _ _ => rfl)) (pe_ix ix_list (pv 0) pe_int (fun _ _ => rfl)) (fun _ _ => rfl)))
    (pss_cons (ps_asg (pe_op op_add (pe_ix ix_list (pv 0) pe_int (fun _ _ => rfl)) pe_int) (pg_sub (pv 0) pe_int set_list))
    (C8.pss_cut (ps_if (pt_cmpR op_ge (pv 2) (pe_op op_pow pe_int pe_int) (nomark _))
      (pss_one (ps_asg (pv 2) (pg_sub (pv 0) pe_int set_list)))
      pss_nil)
    (pss_one (ps_asg (pe_op op_modN (pe_callTy call_int1 (by rfl) T.z_int (by decide +kernel) (pa_cons (pe_op op_add (pe_op op_add (pe_op op_mul (pe_ix ix_list (pv 0) pe_int (fun _ _ => rfl)) pe_int) (pe_op op_mul (pe_op op_modN (pe_callTy call_int1 (by rfl) T.z_int (by decide +kernel) (pa_cons (pv 2) pa_nil)) pe_int) pe_int)) pe_int) pa_nil)) pe_int) (pg_sub (pv 0) pe_int set_list))))))
    pss_nil)
  (pss_cons (ps_if (pt_cmpR op_gt (pe_ix ix_list (pv 0) pe_int (fun _ _ => rfl)) pe_int (nomark _))
    (pss_cons (ps_set (i := 3) sc__law_draw.nd rfl (Or.inl rfl) (pe_op op_modN (pe_callTy call_int1 (by rfl) T.z_int (by decide +kernel) (pa_cons (pe_ix ix_list (pv 0) pe_int (fun _ _ => rfl)) pa_nil)) (pv 1)))
    (pss_cons (ps_asg (pe_op op_fdivN (pe_callTy call_int1 (by rfl) T.z_int (by decide +kernel) (pa_cons (pe_ix ix_list (pv 0) pe_int (fun _ _ => rfl)) pa_nil)) (pv 1)) (pg_sub (pv 0) pe_int set_list))
    (pss_one (ps_ret (pv 3)))))
    pss_nil)
  (pss_cons (ps_set (i := 4) sc__law_draw.nd rfl (Or.inl rfl) (pe_ix ix_list (pv 0) pe_int (fun _ _ => rfl)))
  (pss_cons (ps_asg (pe_op op_modN (pe_callTy call_int1 (by rfl) T.z_int (by decide +kernel) (pa_cons (pe_op op_add (pe_op op_add (pe_op op_add (pe_op op_pow (pv 4) pe_int) (pe_op op_mul (pv 4) pe_int)) (pe_op op_mul (pe_ix ix_list (pv 0) pe_int (fun _ _ => rfl)) pe_int)) pe_int) pa_nil)) pe_int) (pg_sub (pv 0) pe_int set_list))
  (pss_one (ps_ret (pe_op op_modN (pe_callTy call_int1 (by rfl) T.z_int (by decide +kernel) (pa_cons (pe_op op_add (pe_op op_fdivN (pe_ix ix_list (pv 0) pe_int (fun _ _ => rfl)) pe_int) (pe_op op_mul (pe_op op_modN (pe_callTy call_int1 (by rfl) T.z_int (by decide +kernel) (pa_cons (pe_ix ix_list (pv 0) pe_int (fun _ _ => rfl)) pa_nil)) pe_int) pe_int)) pa_nil)) (pv 1))))))))), ?_⟩
  refine ⟨_, rfl, _, _, _, _, rfl, rfl, .inl (.inl ha), atI_nat (j := 4) rfl, _, _, rfl, rfl, _, rfl, _, _, _, _, rfl, rfl, ha, rfl, ?_⟩
  refine ⟨fun σ' H' => ∃ (x2 : Option V) (i g m n : Int), σ' = [some (.ref a), some (.int k), x2, none, none] ∧ 0 ≤ i ∧ i ≤ (ns.length : Int) ∧ 0 ≤ m ∧ m < 2147483629 ∧
    H' a = some (.lst [.ref l, .int i, .int g, .int m, .int n]) ∧ ∀ ys, upd H' a (.lst ys) = upd H a (.lst ys), ?_, fun σ' H' hm => ?_⟩
  · have hl1 : upd H a (.lst [.ref l, .int i, .int g, .int m, .int (n + 1)]) l = some (.lst (ns.map V.int)) := by rw [upd_ne la]; exact hl
    refine ⟨_, rfl, _, _, _, _, rfl, rfl, .inl (.inl upd_same), atI_nat (j := 2) rfl, rfl, _, rfl, ?_⟩
    refine ite2 (fun _ => ?_) (fun _ => iteF ⟨none, i, g, m, n + 1, rfl, i0, i1, m0, m1, upd_same, fun ys => upd_upd⟩)
    refine ⟨_, rfl, _, _, _, _, rfl, rfl, .inl (.inl upd_same), atI_nat (j := 1) rfl, _, rfl, _, _, _, _, rfl, rfl, .inl (.inl upd_same), atI_nat (j := 0) rfl, l, ns.map V.int, rfl, .inl (.inl (.inl hl1)), _, _, rfl, rfl, _, rfl, ?_⟩
    refine ite2 (fun c => ?_) (fun _ => ⟨none, i, g, m, n + 1, rfl, i0, i1, m0, m1, upd_same, fun ys => upd_upd⟩)
    have c1 : i < ((ns.map V.int).length : Int) := of_decide_eq_true c
    rw [List.length_map] at c1
    have hi : i.toNat < ns.length := by omega
    have ei : i = ((i.toNat : Nat) : Int) := by omega
    have at1 : atI (ns.map V.int) i = some (.int ns[i.toNat]) := by
      have z : atI (ns.map V.int) ((i.toNat : Nat) : Int) = some (.int ns[i.toNat]) := atI_nat (by rw [List.getElem?_map, List.getElem?_eq_getElem hi] <;> rfl)
      rw [← ei] at z
      exact z
    generalize ns[i.toNat] = cell at at1
    refine ⟨_, rfl, _, _, _, _, rfl, rfl, .inl (.inl upd_same), atI_nat (j := 0) rfl, _, rfl, _, _, _, _, rfl, rfl, .inl (.inl upd_same), atI_nat (j := 1) rfl, l, _, _, _, rfl, rfl, .inl (.inl hl1), at1, ?_⟩
    refine ⟨_, rfl, _, _, _, _, rfl, rfl, .inl (.inl upd_same), atI_nat (j := 1) rfl, _, _, rfl, rfl, _, rfl, _, _, _, _, rfl, rfl, upd_same, rfl, ?_⟩
    refine ⟨fun σ' H' => ∃ g : Int, σ' = [some (.ref a), some (.int k), some (.int cell), none, none] ∧ H' a = some (.lst [.ref l, .int (i + 1), .int g, .int m, .int (n + 1)]) ∧ ∀ ys, upd H' a (.lst ys) = upd H a (.lst ys), ?_, fun σ' H' hm => ?_⟩
    · refine ⟨_, rfl, _, _, rfl, rfl, ⟨by decide, by decide, by decide⟩, _, _, rfl, rfl, _, rfl, ?_⟩
      refine ite2 (fun _ => ?_) (fun _ => ⟨g, rfl, upd_same, fun ys => ?_⟩)
      · refine ⟨_, rfl, _, rfl, _, _, _, _, rfl, rfl, upd_same, rfl, cell, rfl, upd_same, fun ys => ?_⟩
        rw [upd_upd, upd_upd, upd_upd]
      · rw [upd_upd, upd_upd]
    · obtain ⟨g, rfl, hb, hz⟩ := hm
      refine ⟨_, rfl, _, _, _, _, rfl, rfl, .inl (.inl hb), atI_nat (j := 3) rfl, _, _, rfl, rfl, .inr ⟨by decide, by decide⟩, _, rfl, .inl ⟨_, rfl, _, _, rfl, rfl, (by show (2147483563 : Int) ≠ 0; decide), _, _, rfl, rfl, .inr ⟨by decide, by decide⟩, _, _, rfl, rfl, _, _, rfl, rfl, .inl ⟨_, rfl, _, _, rfl, rfl, (by show (2147483629 : Int) ≠ 0; decide), ?_⟩⟩⟩
      refine ⟨_, rfl, _, _, _, _, rfl, rfl, hb, rfl, some (.int cell), i + 1, g, _, n + 1, rfl, by omega, by omega, fmod_lo _ (by decide), fmod_hi _ (by decide), upd_same, fun ys => ?_⟩
      rw [upd_upd]
      exact hz ys
  · obtain ⟨x2, i, g, m, n, rfl, i0, i1, m0, m1, hb, hz⟩ := hm
    refine ⟨_, rfl, _, _, _, _, rfl, rfl, .inl (.inl hb), atI_nat (j := 2) rfl, _, _, rfl, rfl, _, rfl, ?_⟩
    refine ite2 (fun c => ?_) (fun _ => ?_)
    · -- the rest of a great one
      refine ⟨_, rfl, _, _, _, _, rfl, rfl, .inl (.inl hb), atI_nat (j := 2) rfl, .inl ⟨_, rfl, _, rfl, _, _, rfl, rfl, (by show k ≠ 0; omega), ?_⟩⟩
      refine ⟨_, rfl, _, _, _, _, rfl, rfl, .inl (.inl hb), atI_nat (j := 2) rfl, .inl ⟨_, rfl, _, rfl, _, _, rfl, rfl, ⟨by omega, by omega⟩, ?_⟩⟩
      refine ⟨_, rfl, _, _, _, _, rfl, rfl, hb, rfl, _, rfl, ?_⟩
      rw [hz]
      exact q _ _ (fmod_lo _ k0) (fmod_hi _ k0) ⟨i, _, m, n, rfl, i0, i1, m0, m1⟩
    · refine ⟨_, rfl, _, _, _, _, rfl, rfl, .inl (.inl hb), atI_nat (j := 3) rfl, ?_⟩
      refine ⟨_, rfl, _, _, rfl, rfl, ⟨by decide, by decide, by omega⟩, _, rfl, _, _, rfl, rfl, .inl ⟨by omega, by omega⟩, _, _, rfl, rfl, _, rfl, _, _, _, _, rfl, rfl, .inl (.inl hb), atI_nat (j := 4) rfl, _, _, rfl, rfl, .inr ⟨by decide, by decide⟩, _, _, rfl, rfl, _, _, rfl, rfl,
        .inl ⟨_, rfl, _, _, rfl, rfl, (by show (2147483629 : Int) ≠ 0; decide), ?_⟩⟩
      refine ⟨_, rfl, _, _, _, _, rfl, rfl, hb, rfl, ?_⟩
      refine ⟨_, rfl, _, _, _, _, rfl, rfl, .inl (.inl upd_same), atI_nat (j := 3) rfl, _, _, rfl, rfl, ⟨by decide, by decide⟩, _, rfl, _, _, _, _, rfl, rfl, .inl (.inl upd_same), atI_nat (j := 3) rfl, .inl ⟨_, rfl, _, _, rfl, rfl, (by show (7907 : Int) ≠ 0; decide), _, _, rfl, rfl, .inr ⟨by decide, by decide⟩, _, _, rfl, rfl, .inl ⟨_, rfl, _, rfl, _, _, rfl, rfl, (by show k ≠ 0; omega), ?_⟩⟩⟩
      rw [hz]
      exact q _ _ (fmod_lo _ k0) (fmod_hi _ k0) ⟨i, g, _, n, rfl, i0, i1, fmod_lo _ (by decide), fmod_hi _ (by decide)⟩
theorem ok_draw : FnOk P w K mg base CX0 1 T.f__law_draw T.d__law_draw ["_law_bag_here", "_law_many"] spDraw := draw_sealed (ok_draw0 T) rfl
theorem ok_of : FnOk P w K mg base CX0 2 T.f__law_of T.d__law_of ["_law_bag_here", "_law_some"] (spOf K) := by
  have G__law_draw := ok_draw (P := P) (w := w) (base := base) T
  refine T.F__law_of.ok sc__law_of (fun vs H Q E h => ?_) (fun cdv A outer s H vs Q E hr h => ?_)
  · obtain ⟨a, p, xs, rfl, _⟩ := h
    rfl
  obtain ⟨a, p, xs, rfl, hb, hp, h0, h1, q⟩ := h
  refine ⟨_, (pss_one (ps_ret (pe_ix ix_list (pv 1) (pe_call G__law_draw (hr.mono (by decide)) (by rfl) T.g__law_draw T.F__law_draw.kp T.b__law_draw .nil pass0 (pa_cons (pv 0) (pa_cons (pe_callB call_len_seq (by rfl) T.z_len (by decide +kernel) (pa_cons (pv 1) pa_nil)) pa_nil))) (fun _ _ => rfl)))), ?_⟩
  refine ⟨_, rfl, _, rfl, _, rfl, _, xs, rfl, .inl hp, a, _, rfl, hb, by omega, by omega, fun d d0 d1 => ?_⟩
  have hd : d.toNat < xs.length := by omega
  have ed : d = ((d.toNat : Nat) : Int) := by omega
  have z : atI xs ((d.toNat : Nat) : Int) = some xs[d.toNat] := atI_nat (List.getElem?_eq_getElem hd)
  rw [← ed] at z
  exact ⟨_, _, _, _, rfl, rfl, hp, z, q d.toNat _ (List.getElem?_eq_getElem hd)⟩
theorem ok_bag0 : FnOk P w K mg base CX0 1 T.f__law_bag T.d__law_bag ["_law_script"] (spBag0 K) := by
  refine T.F__law_bag.ok sc__law_bag (fun vs H Q E h => ?_) (fun cdv A outer s H vs Q E hr h => ?_)
  · obtain ⟨a, ns, rfl, _⟩ := h
    rfl
  obtain ⟨a, ns, rfl, hs, hn, q⟩ := h
  refine ⟨_, (pss_cons (ps_set (i := 1) sc__law_bag.nd rfl (Or.inl rfl) pe_int)
  (pss_cons (ps_for PassesOwn.never rfl (pi_list (pe_slice sl_list (pv 0) po_none (po_some pe_int))) (pg_name (i := 2) sc__law_bag.nd rfl (Or.inl rfl))
    (pss_one (ps_set (i := 1) sc__law_bag.nd rfl (Or.inl rfl) (pe_op op_modN (pe_callTy call_int1 (by rfl) T.z_int (by decide +kernel) (pa_cons (pe_op op_add (pe_op op_add (pe_op op_mul (pv 1) pe_int) (pe_op op_modN (pe_callTy call_int1 (by rfl) T.z_int (by decide +kernel) (pa_cons (pv 2) pa_nil)) pe_int)) pe_int) pa_nil)) pe_int))))
  (pss_one (ps_ret (pe_lst (pa_cons (pe_callTy call_list_of (by rfl) T.z_list (by decide +kernel) (pa_cons (pe_slice sl_list (pv 0) po_none (po_some pe_int)) pa_nil)) (pa_cons pe_int (pa_cons pe_int (pa_cons (pv 1) (pa_cons pe_int pa_nil)))))))))), ?_⟩
  obtain ⟨ms, em, hm⟩ := cut_map ns none (some 63)
  refine ⟨_, rfl, 63, rfl, a, _, rfl, hs, fun p np => ?_⟩
  rw [em]
  refine ⟨p, rfl, ⟨_, .inl (.inl upd_same)⟩, ?_⟩
  refine for_list (K := K) (a := p) (xs := ms.map V.int) (fun _ σ H' => ∃ (m : Int) (x : Option V), σ = [some (.ref a), some (.int m), x] ∧ 0 ≤ m ∧ m < 2147483629 ∧ H' = upd H p (.lst (ms.map V.int))) ⟨12028, none, rfl, by decide, by decide, rfl⟩ ?_ ?_ ?_
  · rintro i σ H' _ ⟨m, x, _, _, _, rfl⟩
    exact .inl (.inl upd_same)
  · rintro i v σ H' hv ⟨m, x, rfl, m0, m1, rfl⟩
    rw [List.getElem?_map] at hv
    obtain ⟨c, hc, rfl⟩ := Option.map_eq_some_iff.mp hv
    refine ⟨_, rfl, _, _, rfl, rfl, .inr ⟨by decide, by decide⟩, _, rfl, .inl ⟨_, rfl, _, _, rfl, rfl, (by show (2147483563 : Int) ≠ 0; decide), _, _, rfl, rfl, _, _, rfl, rfl, .inl ⟨_, rfl, _, _, rfl, rfl, (by show (2147483629 : Int) ≠ 0; decide), ?_⟩⟩⟩
    exact ⟨_, _, rfl, fmod_lo _ (by decide), fmod_hi _ (by decide), rfl⟩
  · rintro σ H' ⟨m, x, rfl, m0, m1, rfl⟩
    have s1 : Same H (upd H p (.lst (ms.map V.int))) := same_new np _
    refine ⟨_, rfl, 63, rfl, a, _, rfl, s1.seq hs, fun p2 np2 => ?_⟩
    rw [em]
    have s2 := same_new np2 (.lst (ms.map V.int))
    refine ⟨p2, _, rfl, .inl (.inl (.inl upd_same)), fun l nl => ?_⟩
    have s3 := same_new nl (.lst (ms.map V.int))
    refine ⟨_, rfl, (by show 5 ≤ sizeLine; decide), fun b nb => ?_⟩
    have s4 := same_new nb (.lst [.ref l, .int 0, .int 0, .int m, .int 0])
    have lb : l ≠ b := fun e => by
      rw [← e, upd_same] at nb
      cases nb
    refine q _ b l ms _ (s1.trans (s2.trans (s3.trans s4))) ((s1.trans (s2.trans s3)).free nb) ?_ (by omega) upd_same ⟨0, 0, m, 0, rfl, by omega, by omega, m0, m1⟩ lb
    exact s4 _ _ upd_same
theorem ok_bag : FnOk P w K mg base CX0 1 T.f__law_bag T.d__law_bag ["_law_script"] (spBag K) := bag_sealed (ok_bag0 T) rfl
end
end Kx
/-! part K01c -/
namespace Kx
open PySem PySem.Spec PyProof.Rows L2 My
section
variable {P : Program} {w : World} {K : PySem.W.Frag} {mg : Str → Option Value} {base : Heap} (T : Tx K mg)
theorem ok_same1 {n : Nat} (G__law_same : FnOk P w K mg base CX0 n T.f__law_same T.d__law_same ["_law_found", "_law_due"] (spSame K n)) : FnOk P w K mg base CX0 (n + 1) T.f__law_same T.d__law_same ["_law_found", "_law_due"] (spSame K (n + 1)) := by
  refine T.F__law_same.ok sc__law_same (fun vs H Q E h => ?_) (fun cdv A outer s H vs Q E hr h => ?_)
  · obtain ⟨v, w, rfl, _⟩ := h
    rfl
  obtain ⟨v, w, rfl, h, q⟩ := h
  refine ⟨_, (pss_cons (ps_if (pt_val (pe_callB call_isi (by rfl) T.z_isinstance (by decide +kernel) (pa_cons (pv 1) (pa_cons (pe_bltn (v := .ty "dict") (by rfl) T.z_dict (by decide +kernel) rfl) pa_nil))))
    (pss_cons (ps_if (PW.pt (pw_or (pt_not (pt_val (pe_callB call_isi (by rfl) T.z_isinstance (by decide +kernel) (pa_cons (pv 0) (pa_cons (pe_bltn (v := .ty "dict") (by rfl) T.z_dict (by decide +kernel) rfl) pa_nil))))) (pw_or (pt_cmpR op_ne (pe_callB call_len_seq (by rfl) T.z_len (by decide +kernel) (pa_cons (pv 0) pa_nil)) (pe_callB call_len_seq (by rfl) T.z_len (by decide +kernel) (pa_cons (pv 1) pa_nil)) (nomark _)) (pw_or1 (pt_not (pt_val (pe_callB (cr_all rfl) (by rfl) T.z_all (by decide +kernel) (pa_cons (pe_lc (own := [("_law_key", 2)]) (g := gName 2) (by rfl) sc__law_same.nd (pi_list (pe_callTy call_list_of (by rfl) T.z_list (by decide +kernel) (pa_cons (pv 1) pa_nil))) (blkOk_by (own := [("_law_key", 2)]) (N := N__law_same) (sc := defScope s__law_same) (by decide +kernel)) (fun _ _ _ _ _ => (pg_name (i := 2) sc__law_same.nd rfl (Or.inl rfl))) (fun _ _ _ _ _ => pts_nil) (fun _ _ _ _ _ => (pe_cmpR (k_op_in_seq K) (pv 2) (pv 0) (by rfl)))) pa_nil))))))))
      (pss_one (ps_ret pe_bl))
      pss_nil)
    (pss_one (ps_ret (pe_callB (cr_all rfl) (by rfl) T.z_all (by decide +kernel) (pa_cons (pe_lc (own := [("_law_key", 2)]) (g := gName 2) (by rfl) sc__law_same.nd (pi_list (pe_callTy call_list_of (by rfl) T.z_list (by decide +kernel) (pa_cons (pv 1) pa_nil))) (blkOk_by (own := [("_law_key", 2)]) (N := N__law_same) (sc := defScope s__law_same) (by decide +kernel)) (fun _ _ _ _ _ => (pg_name (i := 2) sc__law_same.nd rfl (Or.inl rfl))) (fun _ _ _ _ _ => pts_nil) (fun _ _ _ _ _ => (pe_call G__law_same hr (by rfl) T.g__law_same T.F__law_same.kp T.b__law_same .nil pass0 (pa_cons (pe_ix (k_ix_list K) (pv 0) (pv 2) (fun _ _ => rfl)) (pa_cons (pe_ix (k_ix_list K) (pv 1) (pv 2) (fun _ _ => rfl)) pa_nil))))) pa_nil)))))
    pss_nil)
  (pss_cons (ps_if (pt_val (pe_callB call_isiT (by rfl) T.z_isinstance (by decide +kernel) (pa_cons (pv 1) (pa_cons (pe_tup (pa_cons (pe_bltn (v := .ty "list") (by rfl) T.z_list (by decide +kernel) rfl) (pa_cons (pe_bltn (v := .ty "tuple") (by rfl) T.z_tuple (by decide +kernel) rfl) pa_nil))) pa_nil))))
    (pss_cons (ps_if (PW.pt (pw_or (pt_cmpR op_ne (pe_callB call_isi (by rfl) T.z_isinstance (by decide +kernel) (pa_cons (pv 0) (pa_cons (pe_bltn (v := .ty "list") (by rfl) T.z_list (by decide +kernel) rfl) pa_nil))) (pe_callB call_isi (by rfl) T.z_isinstance (by decide +kernel) (pa_cons (pv 1) (pa_cons (pe_bltn (v := .ty "list") (by rfl) T.z_list (by decide +kernel) rfl) pa_nil))) (nomark _)) (pw_or1 (pt_cmpR op_ne (pe_callB call_isi (by rfl) T.z_isinstance (by decide +kernel) (pa_cons (pv 0) (pa_cons (pe_bltn (v := .ty "tuple") (by rfl) T.z_tuple (by decide +kernel) rfl) pa_nil))) (pe_callB call_isi (by rfl) T.z_isinstance (by decide +kernel) (pa_cons (pv 1) (pa_cons (pe_bltn (v := .ty "tuple") (by rfl) T.z_tuple (by decide +kernel) rfl) pa_nil))) (nomark _)))))
      (pss_one (ps_ret pe_bl))
      pss_nil)
    (pss_one (ps_ret (pe_and (pe_cmpR op_eq (pe_callB call_len_seq (by rfl) T.z_len (by decide +kernel) (pa_cons (pv 0) pa_nil)) (pe_callB call_len_seq (by rfl) T.z_len (by decide +kernel) (pa_cons (pv 1) pa_nil)) (nomark _)) (pe_one (pe_callB (cr_all rfl) (by rfl) T.z_all (by decide +kernel) (pa_cons (pe_lc (own := [("_law_one", 3), ("_law_two", 4)]) (g := gTup K 2 (gCons (gName 3) (gCons (gName 4) gNil))) (by rfl) sc__law_same.nd (RZ.pi_zipA (by rfl) T.z_zip (pa_cons (pv 0) (pa_cons (pv 1) pa_nil))) (blkOk_by (own := [("_law_one", 3), ("_law_two", 4)]) (N := N__law_same) (sc := defScope s__law_same) (by decide +kernel)) (fun _ _ _ _ _ => (pg_tup (by rfl) (pgs_cons (pg_name (i := 3) sc__law_same.nd rfl (Or.inl rfl)) (pgs_cons (pg_name (i := 4) sc__law_same.nd rfl (Or.inl rfl)) pgs_nil)))) (fun _ _ _ _ _ => pts_nil) (fun _ _ _ _ _ => (pe_call G__law_same hr (by rfl) T.g__law_same T.F__law_same.kp T.b__law_same .nil pass0 (pa_cons (pv 3) (pa_cons (pv 4) pa_nil))))) pa_nil)))))))
    pss_nil)
  (pss_cons (ps_if (PW.pt (pw_or (pt_cmpR op_isN (pv 1) pe_non (nomark _)) (pw_or1 (pt_cmpR op_isN (pv 0) pe_non (nomark _)))))
    (pss_one (ps_ret (pe_and (pe_cmpR op_isN (pv 1) pe_non (nomark _)) (pe_one (pe_cmpR op_isN (pv 0) pe_non (nomark _))))))
    pss_nil)
  (pss_cons (ps_if (PW.pt (pw_or (pt_cmpR op_ne (pe_callB call_isi (by rfl) T.z_isinstance (by decide +kernel) (pa_cons (pv 0) (pa_cons (pe_bltn (v := .ty "bool") (by rfl) T.z_bool (by decide +kernel) rfl) pa_nil))) (pe_callB call_isi (by rfl) T.z_isinstance (by decide +kernel) (pa_cons (pv 1) (pa_cons (pe_bltn (v := .ty "bool") (by rfl) T.z_bool (by decide +kernel) rfl) pa_nil))) (nomark _)) (pw_or1 (pt_cmpR op_ne (pe_callB call_isi (by rfl) T.z_isinstance (by decide +kernel) (pa_cons (pv 0) (pa_cons (pe_bltn (v := .ty "int") (by rfl) T.z_int (by decide +kernel) rfl) pa_nil))) (pe_callB call_isi (by rfl) T.z_isinstance (by decide +kernel) (pa_cons (pv 1) (pa_cons (pe_bltn (v := .ty "int") (by rfl) T.z_int (by decide +kernel) rfl) pa_nil))) (nomark _)))))
    (pss_one (ps_ret pe_bl))
    pss_nil)
  (pss_one (ps_ret (pe_and (pe_cmpR op_eq (pe_callB call_isi (by rfl) T.z_isinstance (by decide +kernel) (pa_cons (pv 0) (pa_cons (pe_bltn (v := .ty "str") (by rfl) T.z_str (by decide +kernel) rfl) pa_nil))) (pe_callB call_isi (by rfl) T.z_isinstance (by decide +kernel) (pa_cons (pv 1) (pa_cons (pe_bltn (v := .ty "str") (by rfl) T.z_str (by decide +kernel) rfl) pa_nil))) (nomark _)) (pe_one (pe_cmpR op_eq (pv 0) (pv 1) (nomark _)))))))))), ?_⟩
  rcases h with ⟨rfl, hsc⟩ | ⟨a, b, xs, ys, rfl, rfl, h1, h2, hlen, hsz, hall⟩ | ⟨a, b, xs, ys, rfl, rfl, h1, h2, hlen, hsz, hall⟩
  · cases v with
    | non => 
      · -- none
        refine ⟨_, rfl, _, _, .type "NoneType", .type "dict", false, rfl, .ty _, .base .non, kit_ty (by decide +kernel), _, rfl, iteF ?_⟩
        refine ⟨_, rfl, (by show 2 ≤ sizeLine; decide), fun p np => ?_⟩
        refine ⟨_, p, _, .type "NoneType", [.type "list", .type "tuple"], false, rfl, upd_same, .cons (.ty _) (.cons (.ty _) .nil), .base .non, kitAny_cons (b := false) (kit_ty (by decide +kernel)) (fun _ => kitAny_cons (b := false) (kit_ty (by decide +kernel)) (fun _ => rfl) (fun z => nomatch z)) (fun z => nomatch z), _, rfl, iteF ?_⟩
        refine ⟨_, rfl, rfl, _, rfl, iteT ?_⟩
        refine iteT ?_
        refine ⟨_, rfl, rfl, _, rfl, iteT ?_⟩
        exact ⟨_, rfl, rfl, q _ (same_new np _)⟩
    | bl x => 
      · -- bool
        refine ⟨_, rfl, _, _, .type "bool", .type "dict", false, rfl, .ty _, .base (.bl _), kit_ty (by decide +kernel), _, rfl, iteF ?_⟩
        refine ⟨_, rfl, (by show 2 ≤ sizeLine; decide), fun p np => ?_⟩
        refine ⟨_, p, _, .type "bool", [.type "list", .type "tuple"], false, rfl, upd_same, .cons (.ty _) (.cons (.ty _) .nil), .base (.bl _), kitAny_cons (b := false) (kit_ty (by decide +kernel)) (fun _ => kitAny_cons (b := false) (kit_ty (by decide +kernel)) (fun _ => rfl) (fun z => nomatch z)) (fun z => nomatch z), _, rfl, iteF ?_⟩
        refine ⟨_, rfl, rfl, _, rfl, iteF ⟨_, rfl, rfl, _, rfl, iteF ?_⟩⟩
        refine ⟨_, rfl, _, _, .type "bool", .type "bool", true, rfl, .ty _, .base (.bl _), kit_ty (by decide +kernel), _, rfl, _, _, .type "bool", .type "bool", true, rfl, .ty _, .base (.bl _), kit_ty (by decide +kernel), rfl, _, rfl, iteF ?_⟩
        refine ⟨_, rfl, _, _, .type "bool", .type "int", true, rfl, .ty _, .base (.bl _), kit_ty (by decide +kernel), _, rfl, _, _, .type "bool", .type "int", true, rfl, .ty _, .base (.bl _), kit_ty (by decide +kernel), rfl, _, rfl, iteF ?_⟩
        refine ⟨_, rfl, _, _, .type "bool", .type "str", false, rfl, .ty _, .base (.bl _), kit_ty (by decide +kernel), _, rfl, _, _, .type "bool", .type "str", false, rfl, .ty _, .base (.bl _), kit_ty (by decide +kernel), rfl, _, rfl, iteT ?_⟩
        refine ⟨_, rfl, _, rfl, rfl, ?_⟩
        rw [decide_eq_true rfl]
        exact q _ (same_new np _)
    | int x => 
      · -- int
        refine ⟨_, rfl, _, _, .type "int", .type "dict", false, rfl, .ty _, .base (.int _), kit_ty (by decide +kernel), _, rfl, iteF ?_⟩
        refine ⟨_, rfl, (by show 2 ≤ sizeLine; decide), fun p np => ?_⟩
        refine ⟨_, p, _, .type "int", [.type "list", .type "tuple"], false, rfl, upd_same, .cons (.ty _) (.cons (.ty _) .nil), .base (.int _), kitAny_cons (b := false) (kit_ty (by decide +kernel)) (fun _ => kitAny_cons (b := false) (kit_ty (by decide +kernel)) (fun _ => rfl) (fun z => nomatch z)) (fun z => nomatch z), _, rfl, iteF ?_⟩
        refine ⟨_, rfl, rfl, _, rfl, iteF ⟨_, rfl, rfl, _, rfl, iteF ?_⟩⟩
        refine ⟨_, rfl, _, _, .type "int", .type "bool", false, rfl, .ty _, .base (.int _), kit_ty (by decide +kernel), _, rfl, _, _, .type "int", .type "bool", false, rfl, .ty _, .base (.int _), kit_ty (by decide +kernel), rfl, _, rfl, iteF ?_⟩
        refine ⟨_, rfl, _, _, .type "int", .type "int", true, rfl, .ty _, .base (.int _), kit_ty (by decide +kernel), _, rfl, _, _, .type "int", .type "int", true, rfl, .ty _, .base (.int _), kit_ty (by decide +kernel), rfl, _, rfl, iteF ?_⟩
        refine ⟨_, rfl, _, _, .type "int", .type "str", false, rfl, .ty _, .base (.int _), kit_ty (by decide +kernel), _, rfl, _, _, .type "int", .type "str", false, rfl, .ty _, .base (.int _), kit_ty (by decide +kernel), rfl, _, rfl, iteT ?_⟩
        refine ⟨_, rfl, _, rfl, rfl, ?_⟩
        rw [decide_eq_true rfl]
        exact q _ (same_new np _)
    | str x => 
      · -- str
        refine ⟨_, rfl, _, _, .type "str", .type "dict", false, rfl, .ty _, .base (.str _), kit_ty (by decide +kernel), _, rfl, iteF ?_⟩
        refine ⟨_, rfl, (by show 2 ≤ sizeLine; decide), fun p np => ?_⟩
        refine ⟨_, p, _, .type "str", [.type "list", .type "tuple"], false, rfl, upd_same, .cons (.ty _) (.cons (.ty _) .nil), .base (.str _), kitAny_cons (b := false) (kit_ty (by decide +kernel)) (fun _ => kitAny_cons (b := false) (kit_ty (by decide +kernel)) (fun _ => rfl) (fun z => nomatch z)) (fun z => nomatch z), _, rfl, iteF ?_⟩
        refine ⟨_, rfl, rfl, _, rfl, iteF ⟨_, rfl, rfl, _, rfl, iteF ?_⟩⟩
        refine ⟨_, rfl, _, _, .type "str", .type "bool", false, rfl, .ty _, .base (.str _), kit_ty (by decide +kernel), _, rfl, _, _, .type "str", .type "bool", false, rfl, .ty _, .base (.str _), kit_ty (by decide +kernel), rfl, _, rfl, iteF ?_⟩
        refine ⟨_, rfl, _, _, .type "str", .type "int", false, rfl, .ty _, .base (.str _), kit_ty (by decide +kernel), _, rfl, _, _, .type "str", .type "int", false, rfl, .ty _, .base (.str _), kit_ty (by decide +kernel), rfl, _, rfl, iteF ?_⟩
        refine ⟨_, rfl, _, _, .type "str", .type "str", true, rfl, .ty _, .base (.str _), kit_ty (by decide +kernel), _, rfl, _, _, .type "str", .type "str", true, rfl, .ty _, .base (.str _), kit_ty (by decide +kernel), rfl, _, rfl, iteT ?_⟩
        refine ⟨_, rfl, _, rfl, rfl, ?_⟩
        rw [decide_eq_true rfl]
        exact q _ (same_new np _)
    | _ => cases hsc
  · -- list
    refine ⟨_, rfl, _, _, .type "list", .type "dict", false, rfl, .ty _, (ty_list h2), kit_ty (by decide +kernel), _, rfl, iteF ?_⟩
    refine ⟨_, rfl, (by show 2 ≤ sizeLine; decide), fun p np => ?_⟩
    have g1 := h1
    have g2 := h2
    have sp := same_new np (.tup [.ty "list", .ty "tuple"])
    replace h1 := sp.seq h1
    replace h2 := sp.seq h2
    refine ⟨_, p, _, .type "list", [.type "list", .type "tuple"], true, rfl, upd_same, .cons (.ty _) (.cons (.ty _) .nil), (ty_list h2), kitAny_cons (b := true) (kit_ty (by decide +kernel)) (fun z => nomatch z) (fun _ => rfl), _, rfl, iteT ?_⟩
    refine ⟨_, rfl, _, _, .type "list", .type "list", true, rfl, .ty _, (ty_list h1), kit_ty (by decide +kernel), _, rfl, _, _, .type "list", .type "list", true, rfl, .ty _, (ty_list h2), kit_ty (by decide +kernel), rfl, _, rfl, iteF ?_⟩
    refine ⟨_, rfl, _, _, .type "list", .type "tuple", false, rfl, .ty _, (ty_list h1), kit_ty (by decide +kernel), _, rfl, _, _, .type "list", .type "tuple", false, rfl, .ty _, (ty_list h2), kit_ty (by decide +kernel), rfl, _, rfl, iteF ?_⟩
    refine ⟨_, rfl, _, _, rfl, .inl h1, _, rfl, _, _, rfl, .inl h2, rfl, ?_⟩
    refine ⟨_, rfl, ?_⟩
    rw [show decide (V.int (xs.length : Int) = V.int (ys.length : Int)) = true by rw [hlen]; exact decide_eq_true rfl]
    refine iteT ?_
    refine ⟨_, rfl, _, rfl, _, _, xs, ys, rfl, .inl ⟨h1, h2, fun D nD => ?_⟩⟩
    have sD := same_new nD (.lst [])
    refine lc_it (walk_zip (K := K) (a := a) (b := b) (xs := xs) (ys := ys) (n := xs.length) (by omega)) (fun i H' => Same H H' ∧ H' D = some (.lst ((List.replicate i true).map V.bl))) ⟨sp.trans sD, upd_same⟩ (fun i H' _ hp => ⟨hp.1.seq g1, hp.1.seq g2⟩) ?_ ?_
    · rintro i v H1 H2 hi ⟨hs1, hd1⟩ ⟨P, x, y, rfl, nP, rfl, hx, hy⟩
      have sP := same_new nP (.tup [x, y])
      refine ⟨P, _, rfl, .inl (.inl upd_same), rfl, _, _, rfl, _, _, rfl, rfl, rfl, ?_⟩

      refine ⟨_, rfl, _, rfl, x, y, rfl, (hall i x y hx hy).same (hs1.trans sP), fun H3 s3 => ?_⟩
      refine ⟨_, s3 _ _ (sP _ _ hd1), ?_, ?_, ?_⟩
      · rw [List.length_map, List.length_replicate]
        omega
      · intro c o e
        have nc : c ≠ D := ne_of_none (sp _ _ e) nD
        rw [upd_ne nc]
        exact s3 _ _ (sP _ _ (hs1 _ _ e))
      · rw [upd_same, List.replicate_succ', List.map_append]
        rfl
    · rintro H1 ⟨hs1, hd1⟩
      refine ⟨D, _, rfl, .inl (.inl hd1), ?_⟩
      rw [show (List.replicate xs.length true).all id = true by simp]
      exact q _ hs1
  · -- tuple
    refine ⟨_, rfl, _, _, .type "tuple", .type "dict", false, rfl, .ty _, (ty_tuple h2), kit_ty (by decide +kernel), _, rfl, iteF ?_⟩
    refine ⟨_, rfl, (by show 2 ≤ sizeLine; decide), fun p np => ?_⟩
    have g1 := h1
    have g2 := h2
    have sp := same_new np (.tup [.ty "list", .ty "tuple"])
    replace h1 := sp.seqT h1
    replace h2 := sp.seqT h2
    refine ⟨_, p, _, .type "tuple", [.type "list", .type "tuple"], true, rfl, upd_same, .cons (.ty _) (.cons (.ty _) .nil), (ty_tuple h2), kitAny_cons (b := false) (kit_ty (by decide +kernel)) (fun _ => kitAny_cons (b := true) (kit_ty (by decide +kernel)) (fun z => nomatch z) (fun _ => rfl)) (fun z => nomatch z), _, rfl, iteT ?_⟩
    refine ⟨_, rfl, _, _, .type "tuple", .type "list", false, rfl, .ty _, (ty_tuple h1), kit_ty (by decide +kernel), _, rfl, _, _, .type "tuple", .type "list", false, rfl, .ty _, (ty_tuple h2), kit_ty (by decide +kernel), rfl, _, rfl, iteF ?_⟩
    refine ⟨_, rfl, _, _, .type "tuple", .type "tuple", true, rfl, .ty _, (ty_tuple h1), kit_ty (by decide +kernel), _, rfl, _, _, .type "tuple", .type "tuple", true, rfl, .ty _, (ty_tuple h2), kit_ty (by decide +kernel), rfl, _, rfl, iteF ?_⟩
    refine ⟨_, rfl, _, _, rfl, .inr h1, _, rfl, _, _, rfl, .inr h2, rfl, ?_⟩
    refine ⟨_, rfl, ?_⟩
    rw [show decide (V.int (xs.length : Int) = V.int (ys.length : Int)) = true by rw [hlen]; exact decide_eq_true rfl]
    refine iteT ?_
    refine ⟨_, rfl, _, rfl, _, _, xs, ys, rfl, .inr ⟨h1, h2, fun D nD => ?_⟩⟩
    have sD := same_new nD (.lst [])
    refine lc_it (walk_zipT (K := K) (a := a) (b := b) (xs := xs) (ys := ys) (n := xs.length) (by omega)) (fun i H' => Same H H' ∧ H' D = some (.lst ((List.replicate i true).map V.bl))) ⟨sp.trans sD, upd_same⟩ (fun i H' _ hp => ⟨hp.1.seqT g1, hp.1.seqT g2⟩) ?_ ?_
    · rintro i v H1 H2 hi ⟨hs1, hd1⟩ ⟨P, x, y, rfl, nP, rfl, hx, hy⟩
      have sP := same_new nP (.tup [x, y])
      refine ⟨P, _, rfl, .inl (.inl upd_same), rfl, _, _, rfl, _, _, rfl, rfl, rfl, ?_⟩

      refine ⟨_, rfl, _, rfl, x, y, rfl, (hall i x y hx hy).same (hs1.trans sP), fun H3 s3 => ?_⟩
      refine ⟨_, s3 _ _ (sP _ _ hd1), ?_, ?_, ?_⟩
      · rw [List.length_map, List.length_replicate]
        omega
      · intro c o e
        have nc : c ≠ D := ne_of_none (sp _ _ e) nD
        rw [upd_ne nc]
        exact s3 _ _ (sP _ _ (hs1 _ _ e))
      · rw [upd_same, List.replicate_succ', List.map_append]
        rfl
    · rintro H1 ⟨hs1, hd1⟩
      refine ⟨D, _, rfl, .inl (.inl hd1), ?_⟩
      rw [show (List.replicate xs.length true).all id = true by simp]
      exact q _ hs1
end
end Kx
/-! part TokM -/
/-! tokens of a line: the mathematics -/
namespace My
open PySem PySem.Spec PyProof.Rows L2
def sgC : List Nat := [61, 43, 45, 42, 60, 40, 41, 44, 123, 125]
def dgC : List Nat := [48, 49, 50, 51, 52, 53, 54, 55, 56, 57]
abbrev sgS : Str := Str.ofString "=+-*<(),{}"
abbrev dgS : Str := Str.ofString "0123456789"
theorem sg_cps : sgS.cps.toList = sgC := by decide +kernel
theorem dg_cps : dgS.cps.toList = dgC := by decide +kernel
theorem not_dg {c : Nat} (h : c ∈ c26) : c ∉ dgC := by
  have q : ∀ c ∈ c26, c ∉ dgC := by decide +kernel
  exact q c h
/-- the run of such signs at the front -/
def runOf (S : List Nat) : List Nat → List Nat
  | [] => []
  | c :: r => if c ∈ S then c :: runOf S r else []
/-- a run of digits that is a numeral -/
def numOk (d : List Nat) : Bool := decide (d.length ≤ 6) && (decide (d = [48]) || !decide (d.head? = some 48))
/-- the token at the front: its kind, its text -/
def tok1 (l : List Nat) : Str × List Nat :=
  match l with
  | [] => (Str.ofString "bad sign", [])
  | c :: r =>
    if c ∈ sgC then (Str.ofString "sign", [c])
    else if c ∈ c26 then (let w := runOf c26 (c :: r); if w.length ≤ 6 then (Str.ofString "word", w) else (Str.ofString "bad word", []))
    else if c ∈ dgC then (let d := runOf dgC (c :: r); if numOk d = true then (Str.ofString "number", d) else (Str.ofString "bad number", []))
    else (Str.ofString "bad sign", [])
abbrev Tk := Nat × Str × List Nat
/-- the tokens of l from the place p on -/
inductive Toks (l : List Nat) : Nat → List Tk → Prop
  | fin : Toks l l.length [(l.length, Str.ofString "end", [])]
  | skip {p : Nat} {r : List Tk} : l[p]? = some 32 → Toks l (p + 1) r → Toks l p r
  | bad {p c : Nat} {k : Str} : l[p]? = some c → c ≠ 32 → tok1 (l.drop p) = (k, []) → Toks l p [(p, k, [])]
  | step {p c : Nat} {k : Str} {t : List Nat} {r : List Tk} : l[p]? = some c → c ≠ 32 → tok1 (l.drop p) = (k, t) → t ≠ [] → Toks l (p + t.length) r → Toks l p ((p, k, t) :: r)
theorem Toks.fun {l : List Nat} {p : Nat} {r r' : List Tk} (h : Toks l p r) : Toks l p r' → r = r' := by
  induction h generalizing r' with
  | fin =>
    intro h'
    cases h' with
    | fin => rfl
    | skip e _ => simp at e
    | bad e _ _ => simp at e
    | step e _ _ _ _ => simp at e
  | skip e _ ih =>
    intro h'
    cases h' with
    | fin => simp at e
    | skip _ h => exact ih h
    | bad e2 n _ => rw [e] at e2; exact absurd (Option.some.inj e2).symm n
    | step e2 n _ _ _ => rw [e] at e2; exact absurd (Option.some.inj e2).symm n
  | bad e n k =>
    intro h'
    cases h' with
    | fin => simp at e
    | skip e2 _ => rw [e] at e2; exact absurd (Option.some.inj e2) n
    | bad _ _ k2 => rw [k] at k2; cases k2; rfl
    | step _ _ k2 n2 _ => rw [k] at k2; cases k2; exact absurd rfl n2
  | step e n k nt _ ih =>
    intro h'
    cases h' with
    | fin => simp at e
    | skip e2 _ => rw [e] at e2; exact absurd (Option.some.inj e2) n
    | bad _ _ k2 => rw [k] at k2; cases k2; exact absurd rfl nt
    | step _ _ k2 _ h =>
      rw [k] at k2
      cases k2
      rw [ih h]
theorem runOf_le (S : List Nat) : ∀ l : List Nat, (runOf S l).length ≤ l.length
  | [] => Nat.le_refl 0
  | c :: r => by
    unfold runOf
    split
    · exact Nat.succ_le_succ (runOf_le S r)
    · exact Nat.zero_le _
theorem runOf_ne {S : List Nat} {c : Nat} {r : List Nat} (h : c ∈ S) : runOf S (c :: r) ≠ [] := by
  unfold runOf
  rw [if_pos h]
  exact fun z => nomatch z
theorem tok1_le (l : List Nat) : (tok1 l).2.length ≤ l.length := by
  unfold tok1
  cases l with
  | nil => exact Nat.le_refl 0
  | cons c r =>
    dsimp only
    split
    · exact Nat.succ_le_succ (Nat.zero_le _)
    split
    · split
      · exact runOf_le _ _
      · exact Nat.zero_le _
    split
    · split
      · exact runOf_le _ _
      · exact Nat.zero_le _
    · exact Nat.zero_le _
/-- the list of these tokens stands in the heap -/
def TokV (H : Hp) (y : V) (t : Tk) : Prop := ∃ a : Addr, y = .ref a ∧ H a = some (.tup [.int (t.1 : Nat), .str t.2.1, .str (toS t.2.2)])
theorem TokV.same {H H' : Hp} (s : Same H H') {y : V} {t : Tk} (h : TokV H y t) : TokV H' y t := by
  obtain ⟨a, e, k⟩ := h
  exact ⟨a, e, s _ _ k⟩
abbrev TokL (H : Hp) : List V → List Tk → Prop := Paired (TokV H)
theorem tokL_same {H H' : Hp} (s : Same H H') {ys : List V} {r : List Tk} (h : TokL H ys r) : TokL H' ys r := Paired.mapP h fun _ _ => TokV.same s
theorem tokL_snoc {H : Hp} {ys : List V} {r : List Tk} {y : V} {t : Tk} (h : TokL H ys r) (k : TokV H y t) : TokL H (ys ++ [y]) (r ++ [t]) := by
  induction h with
  | nil => exact .cons k .nil
  | cons a _ ih => exact .cons a ih
theorem tokL_eqv {K : PySem.W.Frag} {H : Hp} {ys zs : List V} {r : List Tk} (h : TokL H ys r) : TokL H zs r → Paired (Eqv K H 2) ys zs := by
  induction h generalizing zs with
  | nil =>
    intro h'
    cases h'
    exact .nil
  | cons k _ ih =>
    intro h'
    cases h' with
    | cons k2 h2 =>
      obtain ⟨a, rfl, e1⟩ := k
      obtain ⟨b, rfl, e2⟩ := k2
      exact .cons (eqv_tup (.inl (.inl e1)) (.inl (.inl e2)) (by show 3 < sizeLine; decide) (.cons (eqv_scal rfl) (.cons (eqv_scal rfl) (.cons (eqv_scal rfl) .nil)))) (ih h2)
/-- tokens, as a program of its own may promise them -/
def spToks : Sp := fun vs H Q _ => ∃ l : List Nat, vs = [.str (toS l)] ∧ l.length ≤ 100000 ∧ ∀ (H' : Hp) (p : Addr) (ys : List V) (r : List Tk), Same H H' → H p = none → H' p = some (.lst ys) → TokL H' ys r → Toks l 0 r → Q (.ref p) H'
theorem at_toS {l : List Nat} {p : Nat} {c : Nat} (h : l[p]? = some c) : atI (toS l).cps.toList (p : Int) = some c := by
  refine atI_nat ?_
  show l.toArray.toList[p]? = some c
  rw [List.toList_toArray]
  exact h
theorem cut_toS (l : List Nat) (i j : Nat) (h : i ≤ j) (h2 : j ≤ l.length) : cutS (toS l) (some (i : Int)) (some (j : Int)) = toS ((l.drop i).take (j - i)) := by
  unfold cutS
  rw [toS_len, show HT.sIx l.length 0 (some (i : Int)) = min i l.length from HT.sIx_nat l.length 0 i, show HT.sIx l.length l.length (some (j : Int)) = min j l.length from HT.sIx_nat l.length l.length j, Nat.min_eq_left (Nat.le_trans h h2), Nat.min_eq_left h2]
  show (⟨((l.toArray.toList.drop i).take (j - i)).toArray⟩ : Str) = _
  rw [List.toList_toArray]
  rfl
theorem toS_empty (l : List Nat) : decide (V.str (toS l) = V.str (Str.ofString "")) = decide (l = []) := by
  rw [show Str.ofString "" = toS [] by decide +kernel, Bool.eq_iff_iff, decide_eq_true_eq, decide_eq_true_eq]
  exact ⟨fun h => toS_inj (V.str.inj h), fun h => by rw [h]⟩
theorem sign_eq (c k : Nat) (s : String) (h : Str.ofString s = toS [k]) : decide (V.str ⟨#[c]⟩ = V.str (Str.ofString s)) = decide (c = k) := by
  rw [h, Bool.eq_iff_iff, decide_eq_true_eq, decide_eq_true_eq]
  refine ⟨fun e => ?_, fun e => by rw [e]; rfl⟩
  have q : toS [c] = toS [k] := V.str.inj e
  exact (List.cons.inj (toS_inj q)).1
/-- a run ends where it stops -/
theorem run_end {S : List Nat} : ∀ {e : Nat} {l : List Nat}, (∀ i, i < e → ∃ c, l[i]? = some c ∧ c ∈ S) → (∀ c, l[e]? = some c → c ∉ S) → runOf S l = l.take e
  | 0, [], _, _ => rfl
  | 0, c :: r, _, stop => by
    unfold runOf
    rw [if_neg (stop c rfl)]
    rfl
  | e + 1, [], h, _ => by
    obtain ⟨c, h1, _⟩ := h 0 (by omega)
    cases h1
  | e + 1, c :: r, h, stop => by
    obtain ⟨c', h1, h2⟩ := h 0 (by omega)
    cases h1
    unfold runOf
    rw [if_pos h2, run_end (e := e) (fun i hi => h (i + 1) (by omega)) fun c' hc => stop c' hc]
    rfl
end My
/-! part TokN -/
namespace My
open PySem PySem.Spec PyProof.Rows L2
abbrev s0 : Str := Str.ofString "0"
theorem s0_eq : s0 = toS [48] := by decide +kernel
/-- the program's own test of a run of digits -/
def plainB (z : Str) : Bool := Txt.isascii z && (Txt.isdigit z && (decide (V.str z = V.str s0) || !Txt.startswith z s0))
def numV (z : Str) : V := if (z.length : Int) > 6 then .non else if plainB z = true then .int ((NumText.digitsVal z.cps.toList : Nat) : Int) else .non
theorem starts0 (c : Nat) (r : List Nat) : Txt.startswith (toS (c :: r)) s0 = decide (c = 48) := by
  rw [s0_eq]
  unfold Txt.startswith Builtin.Str.subAt
  have h1 : (decide (0 + (toS [48]).length ≤ (toS (c :: r)).length)) = true := by
    rw [toS_len, toS_len]
    exact decide_eq_true (by show 0 + 1 ≤ r.length + 1; omega)
  rw [h1, Bool.true_and]
  have h2 : (toS (c :: r)).cps.extract 0 (0 + (toS [48]).length) = #[c] := by
    rw [toS_len]
    show ((c :: r).toArray).extract 0 1 = #[c]
    simp
  rw [h2]
  show (#[c] == [48].toArray) = decide (c = 48)
  rw [Bool.eq_iff_iff, beq_iff_eq, decide_eq_true_eq]
  simp
theorem digit_ok {c : Nat} (h : c ∈ dgC) : Unicode.isDigit c = true ∧ c < 128 ∧ 48 ≤ c ∧ c ≤ 57 := by
  have q : ∀ c ∈ dgC, Unicode.isDigit c = true ∧ c < 128 ∧ 48 ≤ c ∧ c ≤ 57 := by decide +kernel
  exact q c h
theorem ascii_digit {c : Nat} (h : c < 128) (d : Unicode.isDigit c = true) : 48 ≤ c ∧ c ≤ 57 := by
  have q : ∀ c : Fin 128, Unicode.isDigit c.1 = true → 48 ≤ c.1 ∧ c.1 ≤ 57 := by decide +kernel
  exact q ⟨c, h⟩ d
/-- a run of digits -/
theorem plain_run {d : List Nat} (h : ∀ c ∈ d, c ∈ dgC) (h0 : d ≠ []) : plainB (toS d) = (decide (d = [48]) || !decide (d.head? = some 48)) := by
  have a1 : Txt.isascii (toS d) = true := by
    show d.toArray.all (fun c => decide (c < 128)) = true
    rw [List.all_toArray]
    exact List.all_eq_true.mpr fun c hc => decide_eq_true (digit_ok (h c hc)).2.1
  have a2 : Txt.isdigit (toS d) = true := by
    show (decide ((toS d).length > 0) && d.toArray.all Unicode.isDigit) = true
    rw [List.all_toArray, toS_len, decide_eq_true (List.length_pos_iff.mpr h0)]
    exact List.all_eq_true.mpr fun c hc => (digit_ok (h c hc)).1
  have a3 : decide (V.str (toS d) = V.str s0) = decide (d = [48]) := by
    rw [s0_eq, Bool.eq_iff_iff, decide_eq_true_eq, decide_eq_true_eq]
    exact ⟨fun e => toS_inj (V.str.inj e), fun e => by rw [e]⟩
  unfold plainB
  rw [a1, a2, a3, Bool.true_and, Bool.true_and]
  cases d with
  | nil => exact absurd rfl h0
  | cons c r =>
    rw [starts0]
    congr 2
    rw [Bool.eq_iff_iff, decide_eq_true_eq, decide_eq_true_eq]
    show c = 48 ↔ some c = some 48
    exact ⟨fun e => by rw [e], fun e => Option.some.inj e⟩
theorem numV_run {d : List Nat} (h : ∀ c ∈ d, c ∈ dgC) (h0 : d ≠ []) : (!decide (numV (toS d) = V.non)) = numOk d := by
  unfold numV numOk
  rw [toS_len, plain_run h h0]
  by_cases h6 : d.length ≤ 6
  · rw [if_neg (by omega), decide_eq_true h6, Bool.true_and]
    cases (decide (d = [48]) || !decide (d.head? = some 48))
    · rw [if_neg Bool.false_ne_true]
      rfl
    · rw [if_pos rfl]
      rfl
  · rw [if_pos (by omega), decide_eq_false h6, Bool.false_and]
    rfl
theorem plain_digits {z : Str} (h : plainB z = true) : NumText.AllDigits z.cps.toList ∧ z.cps.toList ≠ [] := by
  unfold plainB at h
  rw [Bool.and_eq_true, Bool.and_eq_true] at h
  obtain ⟨h1, h2, _⟩ := h
  have b1 : z.cps.all (fun c => decide (c < 128)) = true := h1
  have b2 : (decide (z.length > 0) && z.cps.all Unicode.isDigit) = true := h2
  rw [Bool.and_eq_true, decide_eq_true_eq] at b2
  rw [← Array.all_toList, List.all_eq_true] at b1
  have b3 := b2.2
  rw [← Array.all_toList, List.all_eq_true] at b3
  refine ⟨fun c hc => ascii_digit (of_decide_eq_true (b1 c hc)) (b3 c hc), fun e => ?_⟩
  have : z.length = 0 := by
    show z.cps.size = 0
    rw [← Array.length_toList, e]
    rfl
  omega
theorem runOf_mem {S : List Nat} : ∀ {l : List Nat} {c : Nat}, c ∈ runOf S l → c ∈ S
  | [], c, h => by cases h
  | a :: l, c, h => by
    unfold runOf at h
    split at h
    · rename_i ha
      rcases List.mem_cons.mp h with e | e
      · rw [e]; exact ha
      · exact runOf_mem e
    · cases h
def spPlain : Sp := fun vs H Q _ => ∃ z, vs = [.str z] ∧ Q (.bl (plainB z)) H
def spNum (K : PySem.W.Frag) : Sp := fun vs H Q _ => ∃ v, vs = [v] ∧ ((∃ z, v = .str z ∧ z.length ≤ sizeLine ∧ Q (numV z) H) ∨ ∃ t, TyX K H v (.type t) ∧ kitB t "str" = some false ∧ Q .non H)
def spRun : Sp := fun vs H Q _ => ∃ (l : List Nat) (p : Nat) (z : Str), vs = [.str (toS l), .int p, .str z] ∧ l.length ≤ 100000 ∧ p ≤ l.length ∧ Q (.str (toS (runOf z.cps.toList (l.drop p)))) H
def spTok1 : Sp := fun vs H Q _ => ∃ (l : List Nat) (p : Nat), vs = [.str (toS l), .int p] ∧ l.length ≤ 100000 ∧ p < l.length ∧ ∀ (H' : Hp) (a : Addr), Same H H' → H a = none → H' a = some (.tup [.str (tok1 (l.drop p)).1, .str (toS (tok1 (l.drop p)).2)]) → Q (.ref a) H'
def spOfS : Sp := fun vs H Q _ => ∃ (a : Addr) (z : Str), vs = [.ref a, .str z] ∧ IsBag H a ∧ 0 < z.length ∧ z.length ≤ 1000000 ∧ ∀ (i c : Nat), z.cps.toList[i]? = some c → Q (.str ⟨#[c]⟩) H
theorem tok1_cons (c : Nat) (r : List Nat) : tok1 (c :: r) = if c ∈ sgC then (Str.ofString "sign", [c])
    else if c ∈ c26 then (if (runOf c26 (c :: r)).length ≤ 6 then (Str.ofString "word", runOf c26 (c :: r)) else (Str.ofString "bad word", []))
    else if c ∈ dgC then (if numOk (runOf dgC (c :: r)) = true then (Str.ofString "number", runOf dgC (c :: r)) else (Str.ofString "bad number", []))
    else (Str.ofString "bad sign", []) := rfl
theorem tokL_upd {H : Hp} {f : Addr} {zs ws : List V} (e : H f = some (.lst zs)) {ys : List V} {r : List Tk} (h : TokL H ys r) : TokL (upd H f (.lst ws)) ys r :=
  Paired.mapP h fun y t ⟨a, e1, e2⟩ => ⟨a, e1, by rw [upd_ne (ne_of e2 e (by intro z; cases z))]; exact e2⟩
theorem tokL_len {H : Hp} {ys : List V} {r : List Tk} (h : TokL H ys r) : ys.length = r.length := Paired.length h
end My
/-! part KitD -/
namespace My
open PySem PySem.Spec PyProof.Rows L2
theorem toS_tl (z : Str) : toS z.cps.toList = z := by
  show (⟨z.cps.toList.toArray⟩ : Str) = z
  rw [Array.toArray_toList]
theorem tl_len (z : Str) : z.cps.toList.length = z.length := Array.length_toList
theorem joinL_len : ∀ ps : List (List Nat), (∀ p ∈ ps, p.length ≤ 1) → (TL.joinL [] ps).length ≤ ps.length
  | [], _ => Nat.le_refl 0
  | [p], h => h p List.mem_cons_self
  | p :: q :: r, h => by
    have ih := joinL_len (q :: r) fun z hz => h z (List.mem_cons_of_mem _ hz)
    have h1 := h p List.mem_cons_self
    show (p ++ ([] ++ TL.joinL [] (q :: r))).length ≤ (q :: r).length + 1
    rw [List.length_append, List.length_append]
    show p.length + (0 + _) ≤ _
    omega
theorem join_len {ys : List Str} (h : ∀ y ∈ ys, y.length ≤ 1) : (Txt.join (Str.ofString "") ys).length ≤ ys.length := by
  rw [TL.join_eq, ← tl_len]
  have e : (Str.ofString "").cps.toList = [] := by decide +kernel
  have q : (Str.join (Str.ofString "") ys).cps.toList = TL.joinL (Str.ofString "").cps.toList (ys.map fun z => z.cps.toList) := TL.tl_join _ _
  rw [q, e]
  refine Nat.le_trans (joinL_len _ fun p hp => ?_) (by rw [List.length_map]; exact Nat.le_refl _)
  obtain ⟨y, hy, rfl⟩ := List.mem_map.mp hp
  rw [tl_len]
  exact h y hy
theorem sum_len {ys : List Str} (h : ∀ y ∈ ys, y.length ≤ 1) : (ys.map (·.length)).sum ≤ ys.length := by
  induction ys with
  | nil => exact Nat.le_refl 0
  | cons y ys ih =>
    have h1 := h y List.mem_cons_self
    have h2 := ih fun z hz => h z (List.mem_cons_of_mem _ hz)
    rw [List.map_cons, List.sum_cons, List.length_cons]
    omega
theorem app_len (a b : Str) : (a ++ b).length = a.length + b.length := by
  show (a.cps ++ b.cps).size = a.cps.size + b.cps.size
  exact Array.size_append
theorem cutS_len (z : Str) (lo hi : Option Int) : (cutS z lo hi).length ≤ z.length := by
  rw [← tl_len, ← tl_len z]
  show (_ : List Nat).toArray.toList.length ≤ _
  rw [List.toList_toArray, List.length_take, List.length_drop]
  omega
theorem num_len {n : Int} (h0 : 0 ≤ n) (h : n < 1000000) : (Str.ofString (toString n)).length ≤ 6 := PyProof.Rows.toString_length_le h0 (by decide) h
/-- an item of a list of short texts -/
theorem pick_str {n : Nat} {xs : List V} (h : xs.all (fun v => match v with | .str z => decide (z.length ≤ n) | _ => false) = true) {i : Nat} {v : V} (hv : xs[i]? = some v) : ∃ z : Str, v = .str z ∧ z.length ≤ n := by
  have q := List.all_eq_true.mp h v (List.mem_of_getElem? hv)
  cases v with
  | str z => exact ⟨z, rfl, of_decide_eq_true q⟩
  | _ => cases q
theorem log_small {n : Int} (h : n.natAbs < 1000000) : n.natAbs.log2 < 1920 := by
  by_cases h0 : n.natAbs = 0
  · rw [h0]
    decide
  · exact Nat.lt_trans ((Nat.log2_lt h0).mpr (show n.natAbs < 2 ^ 20 by omega)) (by decide)
theorem Toks.len {l : List Nat} {p : Nat} {r : List Tk} (h : Toks l p r) : r.length + p ≤ l.length + 1 := by
  induction h with
  | fin => show 1 + _ ≤ _; omega
  | skip _ _ ih => omega
  | bad e _ _ =>
    have := (List.getElem?_eq_some_iff.mp e).1
    show 1 + _ ≤ _
    omega
  | @step p c k t r e _ _ nt _ ih =>
    have := List.length_pos_iff.mpr nt
    show r.length + 1 + p ≤ _
    omega
/-- the tokens of a written line, reckoned -/
def toksF : Nat → List Nat → Nat → Option (List Tk)
  | 0, _, _ => none
  | n + 1, l, p => match l[p]? with
    | none => if p = l.length then some [(l.length, Str.ofString "end", [])] else none
    | some c => if c = 32 then toksF n l (p + 1) else
      match tok1 (l.drop p) with
      | (k, []) => some [(p, k, [])]
      | (k, x :: t) => (toksF n l (p + (x :: t).length)).map ((p, k, x :: t) :: ·)
theorem toksF_ok : ∀ {n : Nat} {l : List Nat} {p : Nat} {r : List Tk}, toksF n l p = some r → Toks l p r
  | 0, _, _, _, h => by cases h
  | n + 1, l, p, r, h => by
    unfold toksF at h
    split at h
    · split at h
      · rename_i hp
        cases h
        rw [hp]
        exact .fin
      · cases h
    · rename_i c hc
      split at h
      · rename_i h32
        rw [h32] at hc
        exact .skip hc (toksF_ok h)
      · rename_i n32
        split at h
        · rename_i k hk
          cases h
          exact .bad hc n32 hk
        · rename_i k x t hk
          obtain ⟨r', h1, rfl⟩ := Option.map_eq_some_iff.mp h
          exact .step hc n32 hk (fun z => nomatch z) (toksF_ok h1)
theorem tokV_lit {H : Hp} {a : Addr} {i : Nat} {k z : Str} (h : H a = some (.tup [.int (i : Nat), .str k, .str z])) : TokV H (.ref a) (i, k, z.cps.toList) := ⟨a, rfl, by rw [h, toS_tl]⟩
theorem eqv_toks {K : PySem.W.Frag} {H : Hp} {a b : Addr} {ys zs : List V} {r : List Tk} (e1 : H a = some (.lst ys)) (e2 : H b = some (.lst zs)) (t1 : TokL H ys r) (t2 : TokL H zs r) (h : r.length < 1000000) : Eqv K H 3 (.ref a) (.ref b) :=
  eqv_list (.inl (.inl e1)) (.inl (.inl e2)) (by rw [tokL_len t1]; unfold sizeLine; omega) (tokL_eqv t1 t2)
theorem Eqv.up {K : PySem.W.Frag} {H : Hp} : ∀ {n : Nat} {v w : V}, Eqv K H n v w → Eqv K H (n + 1) v w
  | 0, _, _, h => h.elim
  | _ + 1, _, _, .inl h => .inl h
  | _ + 1, _, _, .inr (.inl ⟨a, b, xs, ys, e1, e2, h1, h2, h3, h4, h5⟩) => .inr (.inl ⟨a, b, xs, ys, e1, e2, h1, h2, h3, h4, fun i x y hx hy => Eqv.up (h5 i x y hx hy)⟩)
  | _ + 1, _, _, .inr (.inr ⟨a, b, xs, ys, e1, e2, h1, h2, h3, h4, h5⟩) => .inr (.inr ⟨a, b, xs, ys, e1, e2, h1, h2, h3, h4, fun i x y hx hy => Eqv.up (h5 i x y hx hy)⟩)
end My
/-! part KitE -/
namespace My
open PySem PySem.Spec PyProof.Rows L2
/-! ### any data: what isinstance says of them -/
def tyD : PyData → String
  | .none => "NoneType"
  | .bool _ => "bool"
  | .int _ => "int"
  | .str _ => "str"
  | .list _ => "list"
  | .tuple _ => "tuple"
  | .dict _ => "dict"
theorem ty_dp {K : PySem.W.Frag} {H : Hp} {v : V} {d : PyData} (h : Dp K H v d) : TyX K H v (.type (tyD d)) := by
  cases h with
  | non => exact .base .non
  | bl b => exact .base (.bl b)
  | int i => exact .base (.int i)
  | str x => exact .base (.str x)
  | lst h _ => exact ty_list h
  | tup h _ => exact ty_tuple h
mutual
theorem dp_same {K : PySem.W.Frag} {H H' : Hp} (s : Same H H') : ∀ {v : V} {d : PyData}, Dp K H v d → Dp K H' v d
  | _, _, .non => .non
  | _, _, .bl b => .bl b
  | _, _, .int i => .int i
  | _, _, .str x => .str x
  | _, _, .lst h k => .lst (s.seq h) (dpAll_same s k)
  | _, _, .tup h k => .tup (Same.seqT s h) (dpAll_same s k)
theorem dpAll_same {K : PySem.W.Frag} {H H' : Hp} (s : Same H H') : ∀ {vs : List V} {ds : List PyData}, DpAll K H vs ds → DpAll K H' vs ds
  | _, _, .nil => .nil
  | _, _, .cons h k => .cons (dp_same s h) (dpAll_same s k)
end
def isStrD : PyData → Bool
  | .str _ => true
  | _ => false
theorem kit_str (d : PyData) (h : ∀ k, d ≠ .dict k) : kitB (tyD d) "str" = some (isStrD d) := by
  cases d with
  | none => exact (show kitB "NoneType" "str" = some false by decide +kernel)
  | bool _ => exact (show kitB "bool" "str" = some false by decide +kernel)
  | int _ => exact (show kitB "int" "str" = some false by decide +kernel)
  | str _ => exact (show kitB "str" "str" = some true by decide +kernel)
  | list _ => exact (show kitB "list" "str" = some false by decide +kernel)
  | tuple _ => exact (show kitB "tuple" "str" = some false by decide +kernel)
  | dict k => exact absurd rfl (h k)
def isIntD : PyData → Bool
  | .int _ => true
  | .bool _ => true
  | _ => false
theorem kit_int (d : PyData) (h : ∀ k, d ≠ .dict k) : kitB (tyD d) "int" = some (isIntD d) := by
  cases d with
  | none => exact (show kitB "NoneType" "int" = some false by decide +kernel)
  | bool _ => exact (show kitB "bool" "int" = some true by decide +kernel)
  | int _ => exact (show kitB "int" "int" = some true by decide +kernel)
  | str _ => exact (show kitB "str" "int" = some false by decide +kernel)
  | list _ => exact (show kitB "list" "int" = some false by decide +kernel)
  | tuple _ => exact (show kitB "tuple" "int" = some false by decide +kernel)
  | dict k => exact absurd rfl (h k)
def isBoolD : PyData → Bool
  | .bool _ => true
  | _ => false
theorem kit_bool (d : PyData) (h : ∀ k, d ≠ .dict k) : kitB (tyD d) "bool" = some (isBoolD d) := by
  cases d with
  | none => exact (show kitB "NoneType" "bool" = some false by decide +kernel)
  | bool _ => exact (show kitB "bool" "bool" = some true by decide +kernel)
  | int _ => exact (show kitB "int" "bool" = some false by decide +kernel)
  | str _ => exact (show kitB "str" "bool" = some false by decide +kernel)
  | list _ => exact (show kitB "list" "bool" = some false by decide +kernel)
  | tuple _ => exact (show kitB "tuple" "bool" = some false by decide +kernel)
  | dict k => exact absurd rfl (h k)
def isTupD : PyData → Bool
  | .tuple _ => true
  | _ => false
theorem kit_tup (d : PyData) (h : ∀ k, d ≠ .dict k) : kitB (tyD d) "tuple" = some (isTupD d) := by
  cases d with
  | none => exact (show kitB "NoneType" "tuple" = some false by decide +kernel)
  | bool _ => exact (show kitB "bool" "tuple" = some false by decide +kernel)
  | int _ => exact (show kitB "int" "tuple" = some false by decide +kernel)
  | str _ => exact (show kitB "str" "tuple" = some false by decide +kernel)
  | list _ => exact (show kitB "list" "tuple" = some false by decide +kernel)
  | tuple _ => exact (show kitB "tuple" "tuple" = some true by decide +kernel)
  | dict k => exact absurd rfl (h k)
theorem dp_nodict {K : PySem.W.Frag} {H : Hp} {v : V} {d : PyData} (h : Dp K H v d) (k) : d ≠ .dict k := by
  cases h <;> exact fun z => nomatch z
/-! ### words -/
/-- the law's own test of a word -/
def wordB (z : Str) : Bool := decide (1 ≤ z.length) && (decide (z.length ≤ 6) && (!kwL.contains z && z.cps.toList.all fun c => decide (c ∈ c26)))
theorem ascii_letter {c : Nat} (h : c < 128) (a : Unicode.isAlpha c = true) (u : (Unicode.isUpper c || Unicode.isTitle c) = false) : c ∈ c26 := by
  have q : ∀ c : Fin 128, Unicode.isAlpha c.1 = true → (Unicode.isUpper c.1 || Unicode.isTitle c.1) = false → c.1 ∈ c26 := by decide +kernel
  exact q ⟨c, h⟩ a u
theorem c26_range {c : Nat} (h : c ∈ c26) : 97 ≤ c ∧ c < 123 := by
  have q : ∀ c ∈ c26, 97 ≤ c ∧ c < 123 := by decide +kernel
  exact q c h
theorem name_word (z : Str) : nameB z = wordB z := by
  rw [← toS_tl z]
  generalize z.cps.toList = l
  unfold wordB
  rw [toS_len, show (toS l).cps.toList = l from List.toList_toArray ..]
  by_cases hl : l.all (fun c => decide (c ∈ c26)) = true
  · have hm : ∀ c ∈ l, 97 ≤ c ∧ c < 123 := fun c hc => c26_range (of_decide_eq_true (List.all_eq_true.mp hl c hc))
    by_cases h0 : 1 ≤ l.length
    · by_cases h6 : l.length ≤ 6
      · rw [nameB_word h0 h6 hm, decide_eq_true h0, decide_eq_true h6, hl, Bool.and_true, Bool.true_and, Bool.true_and]
      · rw [decide_eq_false h6]
        unfold nameB
        rw [if_pos (by rw [toS_len]; omega)]
        simp
    · have : l = [] := List.length_eq_zero_iff.mp (by omega)
      subst this
      decide +kernel
  · rw [Bool.not_eq_true] at hl
    rw [hl, Bool.and_false, Bool.and_false, Bool.and_false]
    unfold nameB
    split
    · rfl
    · refine Bool.eq_false_iff.mpr fun q => ?_
      rw [Bool.and_eq_true, Bool.and_eq_true, Bool.and_eq_true] at q
      obtain ⟨q1, q2, q3, _⟩ := q
      have b1 : l.toArray.all (fun c => decide (c < 128)) = true := q1
      have b2 : (decide ((toS l).length > 0) && l.toArray.all Unicode.isAlpha) = true := q2
      have b3 : (l.toArray.any Unicode.isLower && !l.toArray.any fun c => Unicode.isUpper c || Unicode.isTitle c) = true := q3
      rw [List.all_toArray, List.all_eq_true] at b1
      rw [Bool.and_eq_true, List.all_toArray, List.all_eq_true] at b2
      rw [Bool.and_eq_true, List.any_toArray, List.any_toArray, Bool.not_eq_true', List.any_eq_false] at b3
      have : l.all (fun c => decide (c ∈ c26)) = true := List.all_eq_true.mpr fun c hc => decide_eq_true (ascii_letter (of_decide_eq_true (b1 c hc)) (b2.2 c hc) (Bool.not_eq_true _ ▸ b3.2 c hc))
      rw [hl] at this
      cases this
/-! ### numerals -/
/-- a run of digits without a 0 ahead -/
def numB (l : List Nat) : Bool := decide (1 ≤ l.length) && (l.all (fun c => decide (c ∈ dgC)) && !(decide (1 < l.length) && decide (l[0]? = some 48)))
theorem ascii_dg {c : Nat} (h : c < 128) (a : Unicode.isDigit c = true) : c ∈ dgC := by
  have q : ∀ c : Fin 128, Unicode.isDigit c.1 = true → c.1 ∈ dgC := by decide +kernel
  exact q ⟨c, h⟩ a
theorem plain_num (l : List Nat) : plainB (toS l) = numB l := by
  unfold numB
  by_cases hl : l.all (fun c => decide (c ∈ dgC)) = true
  · by_cases h0 : l = []
    · subst h0
      decide +kernel
    · have hm : ∀ c ∈ l, c ∈ dgC := fun c hc => of_decide_eq_true (List.all_eq_true.mp hl c hc)
      have hp : 1 ≤ l.length := List.length_pos_iff.mpr h0
      rw [plain_run hm h0, hl, decide_eq_true hp, Bool.true_and, Bool.true_and]
      cases l with
      | nil => exact absurd rfl h0
      | cons c r =>
        show (decide (c :: r = [48]) || !decide (some c = some 48)) = !(decide (1 < r.length + 1) && decide (some c = some 48))
        by_cases h48 : c = 48
        · subst h48
          cases r with
          | nil => decide
          | cons x r =>
            rw [decide_eq_false (show ¬ (48 :: x :: r) = [48] from fun z => by cases z), decide_eq_true (show 1 < (x :: r).length + 1 by rw [List.length_cons]; omega)]
            rfl
        · rw [decide_eq_false (show ¬ some c = some 48 from fun z => h48 (Option.some.inj z)), Bool.and_false]
          cases (decide (c :: r = [48])) <;> rfl
  · rw [Bool.not_eq_true] at hl
    rw [hl, Bool.false_and, Bool.and_false]
    refine Bool.eq_false_iff.mpr fun q => ?_
    unfold plainB at q
    rw [Bool.and_eq_true, Bool.and_eq_true] at q
    have b1 : l.toArray.all (fun c => decide (c < 128)) = true := q.1
    have b2 : (decide ((toS l).length > 0) && l.toArray.all Unicode.isDigit) = true := q.2.1
    rw [List.all_toArray, List.all_eq_true] at b1
    rw [Bool.and_eq_true, List.all_toArray, List.all_eq_true] at b2
    have : l.all (fun c => decide (c ∈ dgC)) = true := List.all_eq_true.mpr fun c hc => decide_eq_true (ascii_dg (of_decide_eq_true (b1 c hc)) (b2.2 c hc))
    rw [hl] at this
    cases this
end My
/-! part KitF -/
namespace My
open PySem PySem.Spec PyProof.Rows L2
def nameD : PyData → Bool
  | .str z => nameB z
  | _ => false
def trueInt : PyData → Bool
  | .int _ => true
  | _ => false
def mtS : Str := Str.ofString ""
def dotS : Str := Str.ofString "."
def ownB (z : Str) : Bool := decide (V.str z = V.str mtS) || nameB z
def ownD : PyData → Bool
  | .str z => ownB z
  | _ => false
def natD : PyData → Bool
  | .int i => decide (i ≥ 0)
  | _ => false
def idD : PyData → Bool
  | .tuple [a, b] => ownD a && natD b
  | _ => false
def inD (lo hi : Int) : PyData → Bool
  | .int i => decide (lo ≤ i) && decide (i ≤ hi)
  | _ => false
/-- texts are short -/
def fine1 : PyData → Prop
  | .str z => z.length ≤ 30
  | _ => True
def fineD : PyData → Prop
  | .str z => z.length ≤ 30
  | .tuple (a :: _) => fine1 a
  | _ => True
theorem fine_one {d : PyData} (h : fineD d) : fine1 d := by
  cases d <;> first | exact h | trivial
/-- what a text names: the owner and the number -/
def idOf : PyData → Option (Str × Nat)
  | .str z => if (ownB (Txt.partition z dotS).1 && plainB (Txt.partition z dotS).2.2) = true then some ((Txt.partition z dotS).1, NumText.digitsVal (Txt.partition z dotS).2.2.cps.toList) else none
  | _ => none
def numD (mo : Nat) : PyData → V
  | .str z => if (decide (z.length ≤ mo) && plainB z) = true then .int ((NumText.digitsVal z.cps.toList : Nat) : Int) else .non
  | _ => .non
def spBoolD (K : PySem.W.Frag) (f : PyData → Bool) : Sp := fun vs H Q _ => ∃ v d, vs = [v] ∧ Dp K H v d ∧ fineD d ∧ Q (.bl (f d)) H
def spBool1 (K : PySem.W.Frag) (f : PyData → Bool) : Sp := fun vs H Q _ => ∃ v d, vs = [v] ∧ Dp K H v d ∧ fine1 d ∧ Q (.bl (f d)) H
def spBool1N (K : PySem.W.Frag) (f : PyData → Bool) : Sp := fun vs H Q _ => ∃ v d, vs = [v] ∧ Dp K H v d ∧ fine1 d ∧ ∀ H', Same H H' → Q (.bl (f d)) H'
def spBoolDN (K : PySem.W.Frag) (f : PyData → Bool) : Sp := fun vs H Q _ => ∃ v d, vs = [v] ∧ Dp K H v d ∧ fineD d ∧ ∀ H', Same H H' → Q (.bl (f d)) H'
def spInD (K : PySem.W.Frag) : Sp := fun vs H Q _ => ∃ v d lo hi, vs = [v, .int lo, .int hi] ∧ Dp K H v d ∧ Q (.bl (inD lo hi d)) H
def spIdText (K : PySem.W.Frag) : Sp := fun vs H Q _ => ∃ a o n, vs = [.ref a] ∧ SqT K H a [.str o, .int n] ∧ o.length ≤ 30 ∧ 0 ≤ n ∧ n ≤ 1000000000000000000 ∧ Q (.str (o ++ dotS ++ Str.ofString (toString n))) H
/-- what read_id hands back -/
def RdV (K : PySem.W.Frag) (H : Hp) (d : PyData) (v : V) : Prop := match idOf d with
  | none => v = .non
  | some (o, n) => ∃ p, v = .ref p ∧ H p = some (.tup [.str o, .int ((n : Nat) : Int)])
theorem rd_of {K : PySem.W.Frag} {H : Hp} {d : PyData} {Q : V → Hp → Prop} (h : ∀ H' v, Same H H' → RdV K H' d v → Q v H') :
    (idOf d = none → ∀ H', Same H H' → Q .non H') ∧ (∀ o n, idOf d = some (o, n) → ∀ H' p, Same H H' → H' p = some (.tup [.str o, .int ((n : Nat) : Int)]) → Q (.ref p) H') :=
  ⟨fun e H' s => h H' _ s (by unfold RdV; rw [e]), fun o n e H' p s k => h H' _ s (by unfold RdV; rw [e]; exact ⟨p, rfl, k⟩)⟩
def spReadId (K : PySem.W.Frag) : Sp := fun vs H Q _ => ∃ v d, vs = [v] ∧ Dp K H v d ∧ fine1 d ∧ ∀ H' u, Same H H' → RdV K H' d u → Q u H'
def spNumD (K : PySem.W.Frag) : Sp := fun vs H Q _ => ∃ v d, vs = [v] ∧ Dp K H v d ∧ fine1 d ∧ Q (numD 6 d) H
def spNumIn (K : PySem.W.Frag) : Sp := fun vs H Q _ => ∃ (v : V) (d : PyData) (mo : Nat), vs = [v, .int mo] ∧ Dp K H v d ∧ fine1 d ∧ ∀ H', Same H H' → Q (numD mo d) H'
end My
/-! part K01d -/
namespace Kx
open PySem PySem.Spec PyProof.Rows L2 My
section
variable {P : Program} {w : World} {K : PySem.W.Frag} {mg : Str → Option Value} {base : Heap} (T : Tx K mg)
theorem ok_is_name : FnOk P w K mg base CX0 1 T.f_is_name T.d_is_name ["value"] (spBool1 K nameD) := by
  refine T.F_is_name.ok sc_is_name (fun vs H Q E h => ?_) (fun cdv A outer s H vs Q E hr h => ?_)
  · obtain ⟨v, d, rfl, _⟩ := h
    rfl
  obtain ⟨v, d, rfl, hd, hf, q⟩ := h
  refine ⟨_, (pss_cons (ps_if (PW.pt (pw_or (pt_not (pt_val (pe_callB call_isi (by rfl) T.z_isinstance (by decide +kernel) (pa_cons (pv 0) (pa_cons (pe_bltn (v := .ty "str") (by rfl) T.z_str (by decide +kernel) rfl) pa_nil))))) (pw_or1 (pt_cmpR op_gt (pe_callB call_len_str (by rfl) T.z_len (by decide +kernel) (pa_cons (pv 0) pa_nil)) (pe_glob (v := .int 6) (by rfl) T.g_LONGEST_NAME ⟨_, rfl⟩) (nomark _)))))
    (pss_one (ps_ret pe_bl))
    pss_nil)
  (pss_one (ps_ret (pe_and (pe_m0 PySem.F.slot_str_isascii PySem.F.type_str_isascii mt_isascii (pv 0)) (pe_and (pe_m0 PySem.F.slot_str_isalpha PySem.F.type_str_isalpha mt_isalpha (pv 0)) (pe_and (pe_m0 PySem.F.slot_str_islower PySem.F.type_str_islower mt_islower (pv 0)) (pe_one (pe_cmpR op_notIn_seq (pv 0) (pe_glob (v := .ref T.a_KEYWORDS) (by rfl) T.g_KEYWORDS rfl) (by rfl))))))))), ?_⟩
  refine ⟨_, rfl, _, _, .type (tyD d), .type "str", isStrD d, rfl, .ty _, ty_dp hd, kit_ty (kit_str d (dp_nodict hd)), _, rfl, ?_⟩
  cases hd with
  | str z =>
    refine iteF ?_
    have hz : z.length ≤ 30 := hf
    refine ⟨_, rfl, z, rfl, (by unfold sizeLine; omega), _, _, rfl, rfl, _, rfl, ?_⟩
    have q : Q (.bl (nameB z)) H := q
    unfold nameB at q
    refine ite2 (fun c => ?_) (fun c => ?_)
    · rw [if_pos (of_decide_eq_true c)] at q
      exact q
    · rw [if_neg (fun z => c (decide_eq_true z))] at q
      refine ⟨_, rfl, ⟨_, rfl⟩, z, rfl, rfl, trivial, Txt.isascii z, rfl, ?_⟩
      cases h1 : Txt.isascii z
      · rw [h1] at q
        exact iteF q
      rw [h1] at q
      refine iteT ⟨_, rfl, ⟨_, rfl⟩, z, rfl, rfl, trivial, Txt.isalpha z, rfl, ?_⟩
      cases h2 : Txt.isalpha z
      · rw [h2] at q
        exact iteF q
      rw [h2] at q
      refine iteT ⟨_, rfl, ⟨_, rfl⟩, z, rfl, rfl, trivial, Txt.islower z, rfl, ?_⟩
      cases h3 : Txt.islower z
      · rw [h3] at q
        exact iteF q
      rw [h3] at q
      refine iteT ⟨_, rfl, _, kwL.map V.str, rfl, .inr (T.q_KEYWORDS H), rfl, My.flat_strs kwL, ?_⟩
      rw [inV_strs]
      exact q
  | non => exact iteT q
  | bl b => exact iteT q
  | int i => exact iteT q
  | lst _ _ => exact iteT q
  | tup _ _ => exact iteT q
theorem ok_is_integer : FnOk P w K mg base CX0 1 T.f_is_integer T.d_is_integer ["value"] (fun vs H Q _ => ∃ v d, vs = [v] ∧ Dp K H v d ∧ Q (.bl (trueInt d)) H) := by
  refine T.F_is_integer.ok sc_is_integer (fun vs H Q E h => ?_) (fun cdv A outer s H vs Q E hr h => ?_)
  · obtain ⟨v, d, rfl, _⟩ := h
    rfl
  obtain ⟨v, d, rfl, hd, q⟩ := h
  refine ⟨_, (pss_one (ps_ret (pe_and (pe_callB call_isi (by rfl) T.z_isinstance (by decide +kernel) (pa_cons (pv 0) (pa_cons (pe_bltn (v := .ty "int") (by rfl) T.z_int (by decide +kernel) rfl) pa_nil))) (pe_one (pe_not (pe_callB call_isi (by rfl) T.z_isinstance (by decide +kernel) (pa_cons (pv 0) (pa_cons (pe_bltn (v := .ty "bool") (by rfl) T.z_bool (by decide +kernel) rfl) pa_nil)))))))), ?_⟩
  refine ⟨_, rfl, _, _, .type (tyD d), .type "int", isIntD d, rfl, .ty _, ty_dp hd, kit_ty (kit_int d (dp_nodict hd)), _, rfl, ?_⟩
  have more : isIntD d = true → (!isBoolD d) = trueInt d := by
    cases d <;> intro h <;> first | rfl | cases h
  have less : isIntD d = false → trueInt d = false := by
    cases d <;> intro h <;> first | rfl | cases h
  refine ite2 (fun c => ?_) (fun c => ?_)
  · refine ⟨_, rfl, _, _, .type (tyD d), .type "bool", isBoolD d, rfl, .ty _, ty_dp hd, kit_ty (kit_bool d (dp_nodict hd)), _, rfl, ?_⟩
    rw [more c]
    exact q
  · rw [Bool.not_eq_true] at c
    rw [less c] at q
    exact q
theorem ok_is_number : FnOk P w K mg base CX0 2 T.f_is_number T.d_is_number ["value", "least", "most"] (spInD K) := by
  have G_is_integer := ok_is_integer (P := P) (w := w) (base := base) T
  refine T.F_is_number.ok sc_is_number (fun vs H Q E h => ?_) (fun cdv A outer s H vs Q E hr h => ?_)
  · obtain ⟨v, d, lo, hi, rfl, _⟩ := h
    rfl
  obtain ⟨v, d, lo, hi, rfl, hd, q⟩ := h
  refine ⟨_, (pss_one (ps_ret (pe_and (pe_call G_is_integer (hr.mono (by decide)) (by rfl) T.g_is_integer T.F_is_integer.kp T.b_is_integer .nil pass0 (pa_cons (pv 0) pa_nil)) (pe_one (pe_chain op_le op_le (pv 1) (pv 0) (pv 2)))))), ?_⟩
  refine ⟨_, rfl, v, d, rfl, hd, _, rfl, ?_⟩
  cases hd with
  | int i =>
    refine iteT ?_
    refine ⟨_, rfl, _, rfl, _, _, rfl, rfl, _, rfl, ?_⟩
    have q : Q (.bl (decide (lo ≤ i) && decide (i ≤ hi))) H := q
    refine ite2 (fun c => ?_) (fun c => ?_)
    · rw [c, Bool.true_and] at q
      exact ⟨_, rfl, _, _, rfl, rfl, q⟩
    · rw [Bool.not_eq_true] at c
      rw [c, Bool.false_and] at q
      exact q
  | str z => exact iteF q
  | non => exact iteF q
  | bl b => exact iteF q
  | lst _ _ => exact iteF q
  | tup _ _ => exact iteF q
theorem ok_is_owner : FnOk P w K mg base CX0 2 T.f_is_owner T.d_is_owner ["value"] (spBool1 K ownD) := by
  have G_is_name := ok_is_name (P := P) (w := w) (base := base) T
  refine T.F_is_owner.ok sc_is_owner (fun vs H Q E h => ?_) (fun cdv A outer s H vs Q E hr h => ?_)
  · obtain ⟨v, d, rfl, _⟩ := h
    rfl
  obtain ⟨v, d, rfl, hd, hf, q⟩ := h
  refine ⟨_, (pss_one (ps_ret (pe_and (pe_callB call_isi (by rfl) T.z_isinstance (by decide +kernel) (pa_cons (pv 0) (pa_cons (pe_bltn (v := .ty "str") (by rfl) T.z_str (by decide +kernel) rfl) pa_nil))) (pe_one (pe_or (pe_cmpR op_eq (pv 0) pe_str (nomark _)) (pe_one (pe_call G_is_name (hr.mono (by decide)) (by rfl) T.g_is_name T.F_is_name.kp T.b_is_name .nil pass0 (pa_cons (pv 0) pa_nil)))))))), ?_⟩
  refine ⟨_, rfl, _, _, .type (tyD d), .type "str", isStrD d, rfl, .ty _, ty_dp hd, kit_ty (kit_str d (dp_nodict hd)), _, rfl, ?_⟩
  cases hd with
  | str z =>
    refine iteT ⟨_, rfl, rfl, decide (V.str z = V.str mtS), rfl, ?_⟩
    have q : Q (.bl (decide (V.str z = V.str mtS) || nameB z)) H := q
    cases h3 : decide (V.str z = V.str mtS)
    · rw [h3, Bool.false_or] at q
      exact iteF ⟨_, rfl, .str z, .str z, rfl, .str z, hf, q⟩
    · rw [h3, Bool.true_or] at q
      exact iteT q
  | non => exact iteF q
  | bl b => exact iteF q
  | int i => exact iteF q
  | lst _ _ => exact iteF q
  | tup _ _ => exact iteF q
theorem ok_is_id : FnOk P w K mg base CX0 3 T.f_is_id T.d_is_id ["value"] (spBoolD K idD) := by
  have G_is_owner := ok_is_owner (P := P) (w := w) (base := base) T
  have G_is_integer := ok_is_integer (P := P) (w := w) (base := base) T
  refine T.F_is_id.ok sc_is_id (fun vs H Q E h => ?_) (fun cdv A outer s H vs Q E hr h => ?_)
  · obtain ⟨v, d, rfl, _⟩ := h
    rfl
  obtain ⟨v, d, rfl, hd, hf, q⟩ := h
  refine ⟨_, (pss_cons (ps_if (PW.pt (pw_or (pt_not (pt_val (pe_callB call_isi (by rfl) T.z_isinstance (by decide +kernel) (pa_cons (pv 0) (pa_cons (pe_bltn (v := .ty "tuple") (by rfl) T.z_tuple (by decide +kernel) rfl) pa_nil))))) (pw_or1 (pt_cmpR op_ne (pe_callB (k_call_len_seq K) (by rfl) T.z_len (by decide +kernel) (pa_cons (pv 0) pa_nil)) pe_int (nomark _)))))
    (pss_one (ps_ret pe_bl))
    pss_nil)
  (pss_cons (ps_asg (pv 0) (pg_tup (by rfl) (pgs_cons (pg_name (i := 1) sc_is_id.nd rfl (Or.inl rfl)) (pgs_cons (pg_name (i := 2) sc_is_id.nd rfl (Or.inl rfl)) pgs_nil))))
  (pss_one (ps_ret (pe_and (pe_call G_is_owner (hr.mono (by decide)) (by rfl) T.g_is_owner T.F_is_owner.kp T.b_is_owner .nil pass0 (pa_cons (pv 1) pa_nil)) (pe_and (pe_call G_is_integer (hr.mono (by decide)) (by rfl) T.g_is_integer T.F_is_integer.kp T.b_is_integer .nil pass0 (pa_cons (pv 2) pa_nil)) (pe_one (pe_cmpR op_ge (pv 2) pe_int (nomark _))))))))), ?_⟩
  refine ⟨_, rfl, _, _, .type (tyD d), .type "tuple", isTupD d, rfl, .ty _, ty_dp hd, kit_ty (kit_tup d (dp_nodict hd)), _, rfl, ?_⟩
  cases hd with
  | tup h k =>
    rename_i a xs ds
    refine iteF ?_
    refine ⟨_, rfl, _, xs, rfl, .inr h, rfl, _, rfl, ?_⟩
    cases k with
    | nil => exact iteT q
    | cons k1 k =>
      rename_i x xs dx ds
      cases k with
      | nil => exact iteT q
      | cons k2 k =>
        rename_i y xs dy ds
        cases k with
        | cons k3 k =>
          rename_i z xs dz ds
          have n : (!decide (V.int ((x :: y :: z :: xs).length : Int) = V.int 2)) = true := by
            rw [decide_eq_false (fun e => by injection e with e; simp only [List.length_cons] at e; omega)]
            rfl
          exact ite2 (fun c => q) (fun c => absurd n c)
        | nil =>
          refine iteF ⟨_, rfl, a, _, rfl, h, rfl, _, _, rfl, ⟨_, _, rfl, ⟨rfl, ?_⟩⟩⟩
          refine ⟨_, rfl, x, dx, rfl, k1, hf, _, rfl, ?_⟩
          have q : Q (.bl (ownD dx && natD dy)) H := q
          cases ho : ownD dx
          · rw [ho, Bool.false_and] at q
            exact iteF q
          rw [ho, Bool.true_and] at q
          refine iteT ⟨_, rfl, y, dy, rfl, k2, _, rfl, ?_⟩
          cases k2 with
          | int i => exact iteT ⟨_, rfl, _, _, rfl, rfl, q⟩
          | str z => exact iteF q
          | non => exact iteF q
          | bl b => exact iteF q
          | lst _ _ => exact iteF q
          | tup _ _ => exact iteF q
  | non => exact iteT q
  | bl b => exact iteT q
  | int i => exact iteT q
  | lst _ _ => exact iteT q
  | str _ => exact iteT q
end
end Kx
/-! part KitG -/
namespace My
open PySem PySem.Spec PyProof.Rows L2
theorem empty_app (o : Str) : Str.empty ++ o = o := by
  show (⟨#[] ++ o.cps⟩ : Str) = o
  rw [Array.empty_append]
theorem dot_eq : dotS = ⟨#[46]⟩ := by decide +kernel
theorem dot_tl : dotS.cps.toList = 46 :: [] := by decide +kernel
theorem mt_eq : Str.empty = mtS := by decide +kernel
/-- a text cut at its first dot -/
theorem part_cases (z : Str) : (46 ∉ z.cps.toList ∧ Txt.partition z dotS = (z, mtS, mtS)) ∨ ∃ a b : List Nat, z = toS (a ++ 46 :: b) ∧ 46 ∉ a ∧ Txt.partition z dotS = (toS a, dotS, toS b) := by
  by_cases h : 46 ∈ z.cps.toList
  · obtain ⟨a, b, e, n⟩ := List.eq_append_cons_of_mem h
    refine .inr ⟨a, b, by rw [← e, toS_tl], n, ?_⟩
    have e2 : z = toS a ++ dotS ++ toS b := by
      rw [← toS_tl z, e]
      show (⟨(a ++ 46 :: b).toArray⟩ : Str) = ⟨a.toArray ++ dotS.cps ++ b.toArray⟩
      rw [dot_eq]
      congr 1
      apply Array.toList_inj.mp
      simp
    rw [e2]
    exact TL.partition_app dot_tl (by show 46 ∉ a.toArray.toList; rw [List.toList_toArray]; exact n)
  · refine .inl ⟨h, ?_⟩
    rw [TL.partition_none dot_tl h, mt_eq]
theorem index_dot {a b : List Nat} (n : 46 ∉ a) : Txt.index0 (toS (a ++ 46 :: b)) dotS = some a.length := by
  unfold Txt.index0
  rw [dot_eq]
  have at_ : ∀ i, StrLaws.At (toS (a ++ 46 :: b)) ⟨#[46]⟩ (toS (a ++ 46 :: b)).length i ↔ (a ++ 46 :: b)[i]? = some 46 := fun i => by
    have q := StrLaws.subAt_one (toS (a ++ 46 :: b)) 46 i
    rw [show (toS (a ++ 46 :: b)).cps.toList = a ++ 46 :: b from List.toList_toArray ..] at q
    exact q
  have here : (a ++ 46 :: b)[a.length]? = some 46 := by
    rw [List.getElem?_append_right (Nat.le_refl _), Nat.sub_self]
    rfl
  rcases StrLaws.occ_head (toS (a ++ 46 :: b)) ⟨#[46]⟩ 1 (Nat.le_refl 1) with ⟨_, h⟩ | ⟨i, r, e, h1, h2⟩
  · exact absurd ((at_ _).mpr here) (h _)
  · rw [e]
    have h1 := (at_ i).mp h1
    have : ¬ i < a.length := fun lt => by
      rw [List.getElem?_append_left lt] at h1
      exact n (List.mem_of_getElem? h1)
    have : ¬ a.length < i := fun lt => h2 _ lt ((at_ _).mpr here)
    show some i = some a.length
    congr 1
    omega
theorem part_len (z : Str) : (Txt.partition z dotS).1.length ≤ z.length ∧ (Txt.partition z dotS).2.2.length ≤ z.length := by
  rcases part_cases z with ⟨_, e⟩ | ⟨a, b, e1, _, e⟩
  · rw [e]
    exact ⟨Nat.le_refl _, Nat.zero_le _⟩
  · rw [e, e1, toS_len, toS_len, toS_len, List.length_append, List.length_cons]
    omega
theorem cut_head (a b : List Nat) : cutS (toS (a ++ 46 :: b)) none (some (a.length : Int)) = toS a := by
  unfold cutS
  rw [toS_len, HT.sIx_none, show HT.sIx (a ++ 46 :: b).length (a ++ 46 :: b).length (some (a.length : Int)) = min a.length (a ++ 46 :: b).length from HT.sIx_nat .., List.length_append, List.length_cons, Nat.min_eq_left (by omega)]
  show (⟨(((a ++ 46 :: b).toArray.toList.drop 0).take (a.length - 0)).toArray⟩ : Str) = ⟨a.toArray⟩
  rw [List.toList_toArray, List.drop_zero, Nat.sub_zero, List.take_left']
  rfl
theorem cut_tail (a b : List Nat) : cutS (toS (a ++ 46 :: b)) (some ((a.length : Int) + 1)) none = toS b := by
  unfold cutS
  rw [toS_len, HT.sIx_none, show ((a.length : Int) + 1) = ((a.length + 1 : Nat) : Int) by omega, show HT.sIx (a ++ 46 :: b).length 0 (some ((a.length + 1 : Nat) : Int)) = min (a.length + 1) (a ++ 46 :: b).length from HT.sIx_nat .., List.length_append, List.length_cons, Nat.min_eq_left (by omega)]
  show (⟨(((a ++ 46 :: b).toArray.toList.drop (a.length + 1)).take (a.length + (b.length + 1) - (a.length + 1))).toArray⟩ : Str) = ⟨b.toArray⟩
  rw [List.toList_toArray, show a ++ 46 :: b = (a ++ [46]) ++ b by simp, List.drop_left' (by simp), List.take_of_length_le (by omega)]
end My
namespace My
theorem log_19 {n : Int} (h0 : 0 ≤ n) (h : n ≤ 1000000000000000000) : n.natAbs.log2 < 1920 := by
  by_cases z : n.natAbs = 0
  · rw [z]
    decide
  · have q := (Nat.log2_lt (k := 64) z).mpr (by omega)
    omega
end My
/-! part K01e -/
namespace Kx
open PySem PySem.Spec PyProof.Rows L2 My
section
variable {P : Program} {w : World} {K : PySem.W.Frag} {mg : Str → Option Value} {base : Heap} (T : Tx K mg)
theorem ok_id_text : FnOk P w K mg base CX0 1 T.f_id_text T.d_id_text ["thing"] (spIdText K) := by
  refine T.F_id_text.ok sc_id_text (fun vs H Q E h => ?_) (fun cdv A outer s H vs Q E hr h => ?_)
  · obtain ⟨a, o, n, rfl, _⟩ := h
    rfl
  obtain ⟨a, o, n, rfl, h, ho, h0, h1, q⟩ := h
  refine ⟨_, (pss_cons (ps_asg (pv 0) (pg_tup (by rfl) (pgs_cons (pg_name (i := 1) sc_id_text.nd rfl (Or.inl rfl)) (pgs_cons (pg_name (i := 2) sc_id_text.nd rfl (Or.inl rfl)) pgs_nil))))
  (pss_one (ps_ret (pe_joined (.cons (pe_fmt (pv 1)) (.cons pe_str (.cons (pe_fmt (pv 2)) .nil))))))), ?_⟩
  have hn : (Str.ofString (toString n)).length ≤ 19 := PyProof.Rows.toString_length_le h0 (by decide) (show n < 10 ^ 19 by omega)
  have hd : dotS.length = 1 := by decide +kernel
  have l1 : (Str.empty ++ o).length = o.length := by rw [empty_app]
  refine ⟨_, rfl, a, _, rfl, h, rfl, _, _, rfl, ⟨_, _, rfl, ⟨rfl, ?_⟩⟩⟩
  refine ⟨_, rfl, .inl ⟨o, rfl, (by unfold sizeLine; omega), o, rfl, (by rw [l1]; unfold sizeLine; omega), dotS, rfl, ?_, ?_⟩⟩
  · rw [app_len, l1, hd]
    unfold sizeLine
    omega
  refine ⟨_, rfl, .inr ⟨n, rfl, ?_, _, rfl, ?_, ?_⟩⟩
  · exact log_19 h0 h1
  · rw [app_len, app_len, l1, hd]
    show o.length + 1 + (Str.ofString (toString n)).length ≤ sizeLine
    unfold sizeLine
    omega
  · show Q (.str (Str.empty ++ o ++ dotS ++ Str.ofString (toString n))) H
    rw [empty_app]
    exact q
theorem ok_is_plain_number : FnOk P w K mg base CX0 1 T.f_is_plain_number T.d_is_plain_number ["text"] spPlain := by
  refine T.F_is_plain_number.ok sc_is_plain_number (fun vs H Q E h => ?_) (fun cdv A outer s H vs Q E hr h => ?_)
  · obtain ⟨z, rfl, _⟩ := h
    rfl
  obtain ⟨z, rfl, q⟩ := h
  refine ⟨_, (pss_one (ps_ret (pe_and (pe_m0 PySem.F.slot_str_isascii PySem.F.type_str_isascii mt_isascii (pv 0)) (pe_and (pe_m0 PySem.F.slot_str_isdigit PySem.F.type_str_isdigit mt_isdigit (pv 0)) (pe_one (pe_or (pe_cmpR op_eq (pv 0) pe_str (nomark _)) (pe_one (pe_not (pe_m1 PySem.F.slot_str_startswith PySem.F.type_str_startswith mt_startswith (pv 0) pe_str))))))))), ?_⟩
  unfold plainB at q
  refine ⟨_, rfl, ⟨_, rfl⟩, z, rfl, rfl, trivial, Txt.isascii z, rfl, ?_⟩
  cases h1 : Txt.isascii z
  · rw [h1] at q
    exact iteF q
  rw [h1] at q
  refine iteT ⟨_, rfl, ⟨_, rfl⟩, z, rfl, rfl, trivial, Txt.isdigit z, rfl, ?_⟩
  cases h2 : Txt.isdigit z
  · rw [h2] at q
    exact iteF q
  rw [h2] at q
  refine iteT ⟨_, rfl, rfl, decide (V.str z = V.str s0), rfl, ?_⟩
  cases h3 : decide (V.str z = V.str s0)
  · rw [h3] at q
    exact iteF ⟨_, rfl, ⟨_, rfl⟩, z, s0, rfl, rfl, _, rfl, q⟩
  · rw [h3] at q
    exact iteT q
theorem ok_read_numeral : FnOk P w K mg base CX0 2 T.f_read_numeral T.d_read_numeral ["text"] (spNumD K) := by
  have G_is_plain_number := ok_is_plain_number (P := P) (w := w) (base := base) T
  refine T.F_read_numeral.ok sc_read_numeral (fun vs H Q E h => ?_) (fun cdv A outer s H vs Q E hr h => ?_)
  · obtain ⟨z, d, rfl, _⟩ := h
    rfl
  obtain ⟨v, d, rfl, hd, hf, q⟩ := h
  refine ⟨_, (pss_cons (ps_if (PW.pt (pw_or (pt_not (pt_val (pe_callB call_isi (by rfl) T.z_isinstance (by decide +kernel) (pa_cons (pv 0) (pa_cons (pe_bltn (v := .ty "str") (by rfl) T.z_str (by decide +kernel) rfl) pa_nil))))) (pw_or (pt_cmpR op_gt (pe_callB call_len_str (by rfl) T.z_len (by decide +kernel) (pa_cons (pv 0) pa_nil)) (pe_glob (v := .int 6) (by rfl) T.g_LONGEST_NUMERAL ⟨_, rfl⟩) (nomark _)) (pw_or1 (pt_not (pt_val (pe_call G_is_plain_number (hr.mono (by decide)) (by rfl) T.g_is_plain_number T.F_is_plain_number.kp T.b_is_plain_number .nil pass0 (pa_cons (pv 0) pa_nil))))))))
    (pss_one (ps_ret pe_non))
    pss_nil)
  (pss_one (ps_ret (pe_callTy call_int_str (by rfl) T.z_int (by decide +kernel) (pa_cons (pv 0) pa_nil))))), ?_⟩
  refine ⟨_, rfl, _, _, .type (tyD d), .type "str", isStrD d, rfl, .ty _, ty_dp hd, kit_ty (kit_str d (dp_nodict hd)), _, rfl, ?_⟩
  cases hd with
  | str z =>
    have hz : z.length ≤ 30 := hf
    have q : Q (if (decide (z.length ≤ 6) && plainB z) = true then .int ((NumText.digitsVal z.cps.toList : Nat) : Int) else .non) H := q
    refine iteF ?_
    refine ⟨_, rfl, z, rfl, (by unfold sizeLine; omega), _, _, rfl, rfl, _, rfl, ?_⟩
    refine ite2 (fun c => ?_) (fun c => ?_)
    · rw [decide_eq_false (show ¬ z.length ≤ 6 from fun h => by have := of_decide_eq_true c; omega), Bool.false_and] at q
      exact q
    · have le : z.length ≤ 6 := by
        have : ¬ (z.length : Int) > 6 := fun z => c (decide_eq_true z)
        omega
      rw [decide_eq_true le, Bool.true_and] at q
      refine ⟨_, rfl, z, rfl, plainB z, rfl, ?_⟩
      cases hp : plainB z
      · rw [hp] at q
        exact iteT q
      · rw [hp] at q
        exact iteF ⟨_, rfl, z, _, rfl, intText_digits (plain_digits hp).1 (plain_digits hp).2 (by omega), (by omega), q⟩
  | non => exact iteT q
  | bl b => exact iteT q
  | int i => exact iteT q
  | lst _ _ => exact iteT q
  | tup _ _ => exact iteT q
theorem ok_read_id : FnOk P w K mg base CX0 3 T.f_read_id T.d_read_id ["text"] (spReadId K) := by
  have G_is_plain_number := ok_is_plain_number (P := P) (w := w) (base := base) T
  have G_is_owner := ok_is_owner (P := P) (w := w) (base := base) T
  refine T.F_read_id.ok sc_read_id (fun vs H Q E h => ?_) (fun cdv A outer s H vs Q E hr h => ?_)
  · obtain ⟨z, d, rfl, _⟩ := h
    rfl
  obtain ⟨v, d, rfl, hd, hf, qq⟩ := h
  obtain ⟨q1, q2⟩ := rd_of (Q := Q) qq
  clear qq
  refine ⟨_, (pss_cons (ps_if (pt_not (pt_val (pe_callB call_isi (by rfl) T.z_isinstance (by decide +kernel) (pa_cons (pv 0) (pa_cons (pe_bltn (v := .ty "str") (by rfl) T.z_str (by decide +kernel) rfl) pa_nil)))))
    (pss_one (ps_ret pe_non))
    pss_nil)
  (pss_cons (ps_asg (pe_m1 PySem.F.slot_str_partition PySem.F.type_str_partition mt_partition (pv 0) pe_str) (pg_tup (by rfl) (pgs_cons (pg_name (i := 1) sc_read_id.nd rfl (Or.inl rfl)) (pgs_cons (pg_name (i := 2) sc_read_id.nd rfl (Or.inl rfl)) (pgs_cons (pg_name (i := 3) sc_read_id.nd rfl (Or.inl rfl)) pgs_nil)))))
  (pss_cons (ps_if (PW.pt (pw_or (pt_not (pt_val (pe_call G_is_owner (hr.mono (by decide)) (by rfl) T.g_is_owner T.F_is_owner.kp T.b_is_owner .nil pass0 (pa_cons (pv 1) pa_nil)))) (pw_or1 (pt_not (pt_val (pe_call G_is_plain_number (hr.mono (by decide)) (by rfl) T.g_is_plain_number T.F_is_plain_number.kp T.b_is_plain_number .nil pass0 (pa_cons (pv 3) pa_nil)))))))
    (pss_one (ps_ret pe_non))
    pss_nil)
  (pss_one (ps_ret (pe_tup (pa_cons (pv 1) (pa_cons (pe_callTy call_int_str (by rfl) T.z_int (by decide +kernel) (pa_cons (pv 3) pa_nil)) pa_nil)))))))), ?_⟩
  refine ⟨_, rfl, _, _, .type (tyD d), .type "str", isStrD d, rfl, .ty _, ty_dp hd, kit_ty (kit_str d (dp_nodict hd)), _, rfl, ?_⟩
  cases hd with
  | str z =>
    have hz : z.length ≤ 30 := hf
    refine iteF ?_
    obtain ⟨l1, l2⟩ := part_len z
    refine ⟨_, rfl, ⟨_, rfl⟩, z, dotS, rfl, rfl, (by decide +kernel), (by unfold sizeLine; omega), fun p np => ?_⟩
    have sp := same_new np (.tup [.str (Txt.partition z dotS).1, .str (Txt.partition z dotS).2.1, .str (Txt.partition z dotS).2.2])
    have idz : idOf (.str z) = if (ownB (Txt.partition z dotS).1 && plainB (Txt.partition z dotS).2.2) = true then some ((Txt.partition z dotS).1, NumText.digitsVal (Txt.partition z dotS).2.2.cps.toList) else none := rfl
    generalize Txt.partition z dotS = PT at *
    obtain ⟨o, y, g⟩ := PT
    refine ⟨p, _, rfl, .inl (.inl upd_same), rfl, _, _, rfl, _, _, rfl, _, _, rfl, rfl, ?_⟩
    refine ⟨_, rfl, .str o, .str o, rfl, .str o, (show o.length ≤ 30 by have : o.length ≤ z.length := l1; omega), ownB o, rfl, ?_⟩
    have idz : idOf (.str z) = if (ownB o && plainB g) = true then some (o, NumText.digitsVal g.cps.toList) else none := idz
    have gl : g.length ≤ 30 := by have : g.length ≤ z.length := l2; omega
    cases ho : ownB o
    · rw [ho, Bool.false_and] at idz
      exact iteT (q1 idz _ sp)
    rw [ho, Bool.true_and] at idz
    refine iteF ⟨_, rfl, g, rfl, plainB g, rfl, ?_⟩
    cases hp : plainB g
    · rw [hp] at idz
      exact iteT (q1 idz _ sp)
    rw [hp] at idz
    refine iteF ⟨_, rfl, _, rfl, g, _, rfl, intText_digits (plain_digits hp).1 (plain_digits hp).2 (by omega), (by omega), (by show 2 ≤ sizeLine; decide), fun p2 np2 => ?_⟩
    exact q2 _ _ idz _ _ (sp.trans (same_new np2 _)) upd_same
  | non => exact iteT (q1 rfl _ (Same.refl _))
  | bl b => exact iteT (q1 rfl _ (Same.refl _))
  | int i => exact iteT (q1 rfl _ (Same.refl _))
  | lst _ _ => exact iteT (q1 rfl _ (Same.refl _))
  | tup _ _ => exact iteT (q1 rfl _ (Same.refl _))
end
end Kx
/-! part K01f -/
namespace Kx
open PySem PySem.Spec PyProof.Rows L2 My
section
variable {P : Program} {w : World} {K : PySem.W.Frag} {mg : Str → Option Value} {base : Heap} (T : Tx K mg)
theorem ok_keywords : FnOk P w K mg base CX0 1 T.f__law_keywords T.d__law_keywords [] spKw := by
  refine T.F__law_keywords.ok sc__law_keywords (fun vs H Q E h => ?_) (fun cdv A outer s H vs Q E hr h => ?_)
  · obtain ⟨rfl, _⟩ := h
    rfl
  obtain ⟨rfl, q⟩ := h
  refine ⟨_, (pss_one (ps_ret (pe_lst (pa_cons pe_str (pa_cons pe_str (pa_cons pe_str (pa_cons pe_str (pa_cons pe_str (pa_cons pe_str (pa_cons pe_str (pa_cons pe_str (pa_cons pe_str (pa_cons pe_str pa_nil))))))))))))), ?_⟩
  exact ⟨(by show 10 ≤ sizeLine; decide), fun p np => q _ p (same_new np _) np upd_same⟩
theorem ok_letters : FnOk P w K mg base CX0 1 T.f__law_letters T.d__law_letters [] spAz := by
  refine T.F__law_letters.ok sc__law_letters (fun vs H Q E h => ?_) (fun cdv A outer s H vs Q E hr h => ?_)
  · obtain ⟨rfl, _⟩ := h
    rfl
  obtain ⟨rfl, q⟩ := h
  exact ⟨_, (pss_one (ps_ret pe_str)), q⟩
theorem az_tl : az.cps.toList = c26 := by decide +kernel
theorem all_map {l : List Nat} (f : Nat → Bool) : (l.map f).all id = l.all f := by
  rw [List.all_map]
  rfl
theorem ok_is_word : FnOk P w K mg base CX0 2 T.f__law_is_word T.d__law_is_word ["_law_val_z"] (spBool1N K nameD) := by
  have G__law_letters := ok_letters (P := P) (w := w) (base := base) T
  have G__law_keywords := ok_keywords (P := P) (w := w) (base := base) T
  refine T.F__law_is_word.ok sc__law_is_word (fun vs H Q E h => ?_) (fun cdv A outer s H vs Q E hr h => ?_)
  · obtain ⟨z, d, rfl, _⟩ := h
    rfl
  obtain ⟨v, d, rfl, hd, hf, q⟩ := h
  refine ⟨_, (pss_cons (ps_if (PW.pt (pw_or (pt_not (pt_val (pe_callB call_isi (by rfl) T.z_isinstance (by decide +kernel) (pa_cons (pv 0) (pa_cons (pe_bltn (v := .ty "str") (by rfl) T.z_str (by decide +kernel) rfl) pa_nil))))) (pw_or (pt_not (pt_chain op_le op_le pe_int (pe_callB call_len_str (by rfl) T.z_len (by decide +kernel) (pa_cons (pv 0) pa_nil)) pe_int)) (pw_or1 (pt_cmpR (k_op_in_seq K) (pv 0) (pe_call0 G__law_keywords (hr.mono (by decide)) (by rfl) T.g__law_keywords T.F__law_keywords.kp T.b__law_keywords .nil pass0) (by rfl))))))
    (pss_one (ps_ret pe_bl))
    pss_nil)
  (pss_one (ps_ret (pe_callB (k_cr_all K rfl) (by rfl) T.z_all (by decide +kernel) (pa_cons (pe_lc (own := [("_law_sign", 1)]) (g := gName 1) (by rfl) sc__law_is_word.nd (pi_str (pv 0)) (blkOk_by (own := [("_law_sign", 1)]) (N := N__law_is_word) (sc := defScope s__law_is_word) (by decide +kernel)) (fun _ _ _ _ _ => (pg_name (i := 1) sc__law_is_word.nd rfl (Or.inl rfl))) (fun _ _ _ _ _ => pts_nil) (fun _ _ _ _ _ => (pe_cmpR op_in_sign (pv 1) (pe_call0 G__law_letters (hr.mono (by decide)) (by rfl) T.g__law_letters T.F__law_letters.kp T.b__law_letters .nil pass0) (by rfl)))) pa_nil))))), ?_⟩
  refine ⟨_, rfl, _, _, .type (tyD d), .type "str", isStrD d, rfl, .ty _, ty_dp hd, kit_ty (kit_str d (dp_nodict hd)), _, rfl, ?_⟩
  cases hd with
  | str z =>
    have hz : z.length ≤ 30 := hf
    have q : ∀ H', Same H H' → Q (.bl (nameB z)) H' := q
    rw [name_word] at q
    unfold wordB at q
    refine iteF ?_
    refine ⟨_, rfl, z, rfl, (by unfold sizeLine; omega), _, _, rfl, rfl, _, rfl, ?_⟩
    refine ite2 (fun c => ?_) (fun c => ?_)
    · have c1 : 1 ≤ z.length := by have := of_decide_eq_true c; omega
      refine ⟨_, _, rfl, rfl, _, rfl, ?_⟩
      refine ite2 (fun c => ?_) (fun c => ?_)
      · have c2 : ¬ z.length ≤ 6 := fun h => by
          have c : (!decide ((z.length : Int) ≤ 6)) = true := c
          rw [decide_eq_true (show (z.length : Int) ≤ 6 by omega)] at c
          cases c
        rw [decide_eq_false c2, Bool.false_and, Bool.and_false] at q
        exact q _ (Same.refl _)
      · have c2 : z.length ≤ 6 := Classical.byContradiction fun h => c (by
          show (!decide ((z.length : Int) ≤ 6)) = true
          rw [decide_eq_false (show ¬ (z.length : Int) ≤ 6 by omega)]
          rfl)
        rw [decide_eq_true c1, decide_eq_true c2, Bool.true_and, Bool.true_and] at q
        refine ⟨_, rfl, rfl, fun Hk pk sk nk ek => ⟨pk, _, rfl, .inl (.inl (.inl ek)), rfl, My.flat_strs kwL, _, rfl, ?_⟩⟩
        rw [inV_strs]
        cases hkw : kwL.contains z
        · rw [hkw, Bool.not_false, Bool.true_and] at q
          refine iteF ⟨_, rfl, z, rfl, fun D nD => ?_⟩
          refine lc_gen walk_str (fun i => (z.cps.toList[i]?).bind fun c => some (.bl (decide (c ∈ c26)))) (show z.cps.size < sizeLine by have : z.cps.size = z.length := rfl; unfold sizeLine; omega) nD (fun _ _ => trivial) ?_ ?_
          · rintro i x H1 H2 R Rn hi sm ⟨rfl, c, hc, rfl⟩ hy hn
            rw [← Array.getElem?_toList] at hc
            refine ⟨rfl, ?_⟩
            refine ⟨_, rfl, rfl, c, az, rfl, rfl, ?_⟩
            rw [az_tl]
            exact hy _ (by rw [hc] <;> rfl) _ (Same.refl _)
          intro H1 s1 d1
          rw [← Array.length_toList, range_all, filterMap_some] at d1
          refine ⟨D, z.cps.toList.map fun c => decide (c ∈ c26), rfl, .inl (.inl ?_), ?_⟩
          · rw [d1, List.map_map]
            rfl
          · rw [all_map]
            exact q _ (sk.trans s1)
        · rw [hkw, Bool.not_true, Bool.false_and] at q
          exact iteT (q _ sk)
    · have c1 : ¬ 1 ≤ z.length := fun h => c (decide_eq_true (by omega))
      rw [decide_eq_false c1, Bool.false_and] at q
      exact ⟨_, rfl, iteT (q _ (Same.refl _))⟩
  | non => exact iteT (q _ (Same.refl _))
  | bl b => exact iteT (q _ (Same.refl _))
  | int i => exact iteT (q _ (Same.refl _))
  | lst _ _ => exact iteT (q _ (Same.refl _))
  | tup _ _ => exact iteT (q _ (Same.refl _))
end
end Kx
/-! part K01g -/
namespace Kx
open PySem PySem.Spec PyProof.Rows L2 My
section
variable {P : Program} {w : World} {K : PySem.W.Frag} {mg : Str → Option Value} {base : Heap} (T : Tx K mg)
theorem ok_is_spot : FnOk P w K mg base CX0 3 T.f__law_is_spot T.d__law_is_spot ["_law_val_z"] (spBoolDN K idD) := by
  have G__law_is_word := ok_is_word (P := P) (w := w) (base := base) T
  refine T.F__law_is_spot.ok sc__law_is_spot (fun vs H Q E h => ?_) (fun cdv A outer s H vs Q E hr h => ?_)
  · obtain ⟨z, d, rfl, _⟩ := h
    rfl
  obtain ⟨v, d, rfl, hd, hf, q⟩ := h
  refine ⟨_, (pss_cons (ps_if (PW.pt (pw_or (pt_not (pt_val (pe_callB call_isi (by rfl) T.z_isinstance (by decide +kernel) (pa_cons (pv 0) (pa_cons (pe_bltn (v := .ty "tuple") (by rfl) T.z_tuple (by decide +kernel) rfl) pa_nil))))) (pw_or1 (pt_cmpR op_ne (pe_callB (k_call_len_seq K) (by rfl) T.z_len (by decide +kernel) (pa_cons (pv 0) pa_nil)) pe_int (nomark _)))))
    (pss_one (ps_ret pe_bl))
    pss_nil)
  (pss_cons (ps_if (PW.pt (pw_or (pt_val (pe_callB call_isi (by rfl) T.z_isinstance (by decide +kernel) (pa_cons (pe_ix (k_ix_tup K) (pv 0) pe_int (fun _ _ => rfl)) (pa_cons (pe_bltn (v := .ty "bool") (by rfl) T.z_bool (by decide +kernel) rfl) pa_nil)))) (pw_or (pt_not (pt_val (pe_callB call_isi (by rfl) T.z_isinstance (by decide +kernel) (pa_cons (pe_ix (k_ix_tup K) (pv 0) pe_int (fun _ _ => rfl)) (pa_cons (pe_bltn (v := .ty "int") (by rfl) T.z_int (by decide +kernel) rfl) pa_nil))))) (pw_or1 (pt_cmpR op_lt (pe_ix (k_ix_tup K) (pv 0) pe_int (fun _ _ => rfl)) pe_int (nomark _))))))
    (pss_one (ps_ret pe_bl))
    pss_nil)
  (pss_one (ps_ret (pe_and (pe_callB call_isi (by rfl) T.z_isinstance (by decide +kernel) (pa_cons (pe_ix (k_ix_tup K) (pv 0) pe_int (fun _ _ => rfl)) (pa_cons (pe_bltn (v := .ty "str") (by rfl) T.z_str (by decide +kernel) rfl) pa_nil))) (pe_one (pe_or (pe_cmpR op_eq (pe_ix (k_ix_tup K) (pv 0) pe_int (fun _ _ => rfl)) pe_str (nomark _)) (pe_one (pe_call G__law_is_word (hr.mono (by decide)) (by rfl) T.g__law_is_word T.F__law_is_word.kp T.b__law_is_word .nil pass0 (pa_cons (pe_ix (k_ix_tup K) (pv 0) pe_int (fun _ _ => rfl)) pa_nil)))))))))), ?_⟩
  refine ⟨_, rfl, _, _, .type (tyD d), .type "tuple", isTupD d, rfl, .ty _, ty_dp hd, kit_ty (kit_tup d (dp_nodict hd)), _, rfl, ?_⟩
  cases hd with
  | tup h k =>
    rename_i a xs ds
    refine iteF ?_
    refine ⟨_, rfl, _, xs, rfl, .inr h, rfl, _, rfl, ?_⟩
    cases k with
    | nil => exact iteT (q _ (Same.refl _))
    | cons k1 k =>
      rename_i x xs dx ds
      cases k with
      | nil => exact iteT (q _ (Same.refl _))
      | cons k2 k =>
        rename_i y xs dy ds
        cases k with
        | cons k3 k =>
          rename_i z xs dz ds
          have n : (!decide (V.int ((x :: y :: z :: xs).length : Int) = V.int 2)) = true := by
            rw [decide_eq_false (fun e => by injection e with e; simp only [List.length_cons] at e; omega)]
            rfl
          exact ite2 (fun c => q _ (Same.refl _)) (fun c => absurd n c)
        | nil =>
          have q : ∀ H', Same H H' → Q (.bl (ownD dx && natD dy)) H' := q
          refine iteF ?_
          refine ⟨_, rfl, a, _, 1, y, rfl, rfl, h, rfl, _, _, .type (tyD dy), .type "bool", isBoolD dy, rfl, .ty _, ty_dp k2, kit_ty (kit_bool dy (dp_nodict k2)), _, rfl, ?_⟩
          have no : natD dy = false → Q (.bl false) H := fun e => by
            have := q _ (Same.refl _)
            rw [e, Bool.and_false] at this
            exact this
          have part2 : isBoolD dy = false → isIntD dy = false → natD dy = false := fun _ _ => by
            cases dy <;> first | rfl | contradiction
          refine ite2 (fun c => no (by cases dy <;> first | rfl | contradiction)) (fun c1 => ?_)
          refine ⟨_, rfl, a, _, 1, y, rfl, rfl, h, rfl, _, _, .type (tyD dy), .type "int", isIntD dy, rfl, .ty _, ty_dp k2, kit_ty (kit_int dy (dp_nodict k2)), _, rfl, ?_⟩
          refine ite2 (fun c => no (part2 (Bool.eq_false_iff.mpr c1) (by rw [Bool.not_eq_true'] at c; exact c))) (fun c2 => ?_)
          cases k2 with
          | int i =>
            refine ⟨_, rfl, a, _, 1, .int i, rfl, rfl, h, rfl, _, _, rfl, rfl, _, rfl, ?_⟩
            refine ite2 (fun c => no (decide_eq_false (by have := of_decide_eq_true c; omega))) (fun c3 => ?_)
            have c3 : natD (.int i) = true := decide_eq_true (by have : ¬ i < 0 := fun z => c3 (decide_eq_true z); omega)
            rw [c3, Bool.and_true] at q
            refine ⟨_, rfl, a, _, 0, x, rfl, rfl, h, rfl, _, _, .type (tyD dx), .type "str", isStrD dx, rfl, .ty _, ty_dp k1, kit_ty (kit_str dx (dp_nodict k1)), _, rfl, ?_⟩
            cases k1 with
            | str z =>
              refine iteT ⟨_, rfl, a, _, 0, .str z, rfl, rfl, h, rfl, rfl, decide (V.str z = V.str mtS), rfl, ?_⟩
              have q : ∀ H', Same H H' → Q (.bl (decide (V.str z = V.str mtS) || nameB z)) H' := q
              cases h3 : decide (V.str z = V.str mtS)
              · rw [h3, Bool.false_or] at q
                exact iteF ⟨_, rfl, a, _, 0, .str z, rfl, rfl, h, rfl, .str z, .str z, rfl, .str z, hf, q⟩
              · rw [h3, Bool.true_or] at q
                exact iteT (q _ (Same.refl _))
            | non => exact iteF (q _ (Same.refl _))
            | bl b => exact iteF (q _ (Same.refl _))
            | int i => exact iteF (q _ (Same.refl _))
            | lst _ _ => exact iteF (q _ (Same.refl _))
            | tup _ _ => exact iteF (q _ (Same.refl _))
          | str z => exact absurd rfl c2
          | non => exact absurd rfl c2
          | bl b => exact absurd rfl c1
          | lst _ _ => exact absurd rfl c2
          | tup _ _ => exact absurd rfl c2
  | non => exact iteT (q _ (Same.refl _))
  | bl b => exact iteT (q _ (Same.refl _))
  | int i => exact iteT (q _ (Same.refl _))
  | lst _ _ => exact iteT (q _ (Same.refl _))
  | str _ => exact iteT (q _ (Same.refl _))
theorem dg_tl : (Str.ofString "0123456789").cps.toList = dgC := by decide +kernel
theorem ok_number_in : FnOk P w K mg base CX0 1 T.f__law_number_in T.d__law_number_in ["_law_te_z", "_law_mo_z"] (spNumIn K) := by
  refine T.F__law_number_in.ok sc__law_number_in (fun vs H Q E h => ?_) (fun cdv A outer s H vs Q E hr h => ?_)
  · obtain ⟨z, d, mo, rfl, _⟩ := h
    rfl
  obtain ⟨v, d, mo, rfl, hd, hf, q⟩ := h
  refine ⟨_, (pss_cons (ps_if (PW.pt (pw_or (pt_not (pt_val (pe_callB call_isi (by rfl) T.z_isinstance (by decide +kernel) (pa_cons (pv 0) (pa_cons (pe_bltn (v := .ty "str") (by rfl) T.z_str (by decide +kernel) rfl) pa_nil))))) (pw_or (pt_not (pt_chain op_le op_le pe_int (pe_callB call_len_str (by rfl) T.z_len (by decide +kernel) (pa_cons (pv 0) pa_nil)) (pv 1))) (pw_or1 (pt_not (pt_val (pe_callB (k_cr_all K rfl) (by rfl) T.z_all (by decide +kernel) (pa_cons (pe_lc (own := [("_law_sign", 2)]) (g := gName 2) (by rfl) sc__law_number_in.nd (pi_str (pv 0)) (blkOk_by (own := [("_law_sign", 2)]) (N := N__law_number_in) (sc := defScope s__law_number_in) (by decide +kernel)) (fun _ _ _ _ _ => (pg_name (i := 2) sc__law_number_in.nd rfl (Or.inl rfl))) (fun _ _ _ _ _ => pts_nil) (fun _ _ _ _ _ => (pe_cmpR op_in_sign (pv 2) pe_str (by rfl)))) pa_nil))))))))
    (pss_one (ps_ret pe_non))
    pss_nil)
  (pss_one (ps_ret (pe_ifExp (PW.pt (pw_and (pt_cmpR op_gt (pe_callB call_len_str (by rfl) T.z_len (by decide +kernel) (pa_cons (pv 0) pa_nil)) pe_int (nomark _)) (pw_and1 (pt_cmpR op_eq (pe_ix ix_str (pv 0) pe_int (fun _ _ => rfl)) pe_str (nomark _))))) pe_non (pe_callTy call_int_str (by rfl) T.z_int (by decide +kernel) (pa_cons (pv 0) pa_nil)))))), ?_⟩
  refine ⟨_, rfl, _, _, .type (tyD d), .type "str", isStrD d, rfl, .ty _, ty_dp hd, kit_ty (kit_str d (dp_nodict hd)), _, rfl, ?_⟩
  cases hd with
  | str z =>
    have hz : z.length ≤ 30 := hf
    have q : ∀ H', Same H H' → Q (if (decide (z.length ≤ mo) && plainB z) = true then .int ((NumText.digitsVal z.cps.toList : Nat) : Int) else .non) H' := q
    have pn : plainB z = numB z.cps.toList := by rw [← plain_num, toS_tl]
    have pn2 := pn
    unfold numB at pn2
    rw [tl_len] at pn2
    refine iteF ?_
    refine ⟨_, rfl, z, rfl, (by unfold sizeLine; omega), _, _, rfl, rfl, _, rfl, ?_⟩
    refine ite2 (fun c => ?_) (fun c => ?_)
    · have c1 : 1 ≤ z.length := by have := of_decide_eq_true c; omega
      refine ⟨_, rfl, _, _, rfl, rfl, _, rfl, ?_⟩
      refine ite2 (fun c => ?_) (fun c => ?_)
      · have c2 : ¬ z.length ≤ mo := fun h => by
          have c : (!decide ((z.length : Int) ≤ (mo : Int))) = true := c
          rw [decide_eq_true (show (z.length : Int) ≤ (mo : Int) by omega)] at c
          cases c
        rw [decide_eq_false c2, Bool.false_and] at q
        exact q _ (Same.refl _)
      · have c2 : z.length ≤ mo := Classical.byContradiction fun h => c (by
          show (!decide ((z.length : Int) ≤ (mo : Int))) = true
          rw [decide_eq_false (show ¬ (z.length : Int) ≤ (mo : Int) by omega)]
          rfl)
        rw [decide_eq_true c2, Bool.true_and] at q
        rw [decide_eq_true c1, Bool.true_and] at pn2
        refine ⟨_, rfl, z, rfl, fun D nD => ?_⟩
        refine lc_gen walk_str (fun i => (z.cps.toList[i]?).bind fun c => some (.bl (decide (c ∈ dgC)))) (show z.cps.size < sizeLine by have : z.cps.size = z.length := rfl; unfold sizeLine; omega) nD (fun _ _ => trivial) ?_ ?_
        · rintro i x H1 H2 R Rn hi sm ⟨rfl, c, hc, rfl⟩ hy hn
          rw [← Array.getElem?_toList] at hc
          refine ⟨rfl, ?_⟩
          refine ⟨_, rfl, c, (Str.ofString "0123456789"), rfl, rfl, ?_⟩
          rw [dg_tl]
          exact hy _ (by rw [hc] <;> rfl) _ (Same.refl _)
        intro H1 s1 d1
        rw [← Array.length_toList, range_all, filterMap_some] at d1
        refine ⟨D, z.cps.toList.map fun c => decide (c ∈ dgC), rfl, .inl (.inl ?_), _, rfl, ?_⟩
        · rw [d1, List.map_map]
          rfl
        rw [all_map]
        cases hall : z.cps.toList.all fun c => decide (c ∈ dgC)
        · rw [pn2, hall, Bool.false_and] at q
          exact iteT (q _ s1)
        rw [hall, Bool.true_and] at pn2
        have h0 : ∃ c, z.cps.toList[0]? = some c := ⟨_, List.getElem?_eq_getElem (by rw [tl_len]; omega)⟩
        obtain ⟨c, hc⟩ := h0
        rw [hc] at pn2
        refine iteF ⟨_, rfl, z, rfl, (by unfold sizeLine; omega), _, _, rfl, rfl, _, rfl, ?_⟩
        have int : plainB z = true → Q (.int ((NumText.digitsVal z.cps.toList : Nat) : Int)) H1 := fun hp => by
          have := q _ s1
          rw [hp] at this
          exact this
        refine ite2 (fun c3 => ?_) (fun c3 => ?_)
        · have c3' : 1 < z.length := by have := of_decide_eq_true c3; omega
          rw [decide_eq_true c3', Bool.true_and] at pn2
          refine ⟨_, rfl, z, 0, c, rfl, rfl, (by unfold sizeLine; omega), atI_nat (j := 0) hc, rfl, decide (V.str ⟨#[c]⟩ = V.str s0), rfl, ?_⟩
          by_cases h48 : c = 48
          · subst h48
            rw [decide_eq_true rfl, Bool.not_true] at pn2
            rw [pn2] at q
            rw [decide_eq_true (show V.str ⟨#[48]⟩ = V.str s0 by decide +kernel)]
            exact iteT (q _ s1)
          · rw [decide_eq_false (fun e => h48 (Option.some.inj e)), Bool.not_false] at pn2
            rw [decide_eq_false (show ¬ V.str ⟨#[c]⟩ = V.str s0 from fun e => h48 (by
              injection e with e
              have e2 := congrArg (fun z : Str => z.cps.toList) e
              rw [show s0.cps.toList = [48] by decide +kernel] at e2
              have e3 : [c] = [48] := e2
              injection e3))]
            exact iteF ⟨_, rfl, z, _, rfl, intText_digits (plain_digits pn2).1 (plain_digits pn2).2 (by omega), (by omega), int pn2⟩
        · have c3' : ¬ 1 < z.length := fun h => c3 (decide_eq_true (by omega))
          rw [decide_eq_false c3', Bool.false_and, Bool.not_false] at pn2
          exact iteF ⟨_, rfl, z, _, rfl, intText_digits (plain_digits pn2).1 (plain_digits pn2).2 (by omega), (by omega), int pn2⟩
    · have c1 : ¬ 1 ≤ z.length := fun h => c (decide_eq_true (by omega))
      rw [decide_eq_false c1, Bool.false_and] at pn2
      rw [pn2, Bool.and_false] at q
      exact ⟨_, rfl, iteT (q _ (Same.refl _))⟩
  | non => exact iteT (q _ (Same.refl _))
  | bl b => exact iteT (q _ (Same.refl _))
  | int i => exact iteT (q _ (Same.refl _))
  | lst _ _ => exact iteT (q _ (Same.refl _))
  | tup _ _ => exact iteT (q _ (Same.refl _))
end
end Kx
/-! part K01h -/
namespace Kx
open PySem PySem.Spec PyProof.Rows L2 My
section
variable {P : Program} {w : World} {K : PySem.W.Frag} {mg : Str → Option Value} {base : Heap} (T : Tx K mg)
theorem ok_spot_in : FnOk P w K mg base CX0 3 T.f__law_spot_in T.d__law_spot_in ["_law_te_z"] (spReadId K) := by
  have G__law_is_word := ok_is_word (P := P) (w := w) (base := base) T
  have G__law_number_in := ok_number_in (P := P) (w := w) (base := base) T
  refine T.F__law_spot_in.ok sc__law_spot_in (fun vs H Q E h => ?_) (fun cdv A outer s H vs Q E hr h => ?_)
  · obtain ⟨z, d, rfl, _⟩ := h
    rfl
  obtain ⟨v, d, rfl, hd, hf, qq⟩ := h
  obtain ⟨q1, q2⟩ := rd_of (Q := Q) qq
  clear qq
  refine ⟨_, (pss_cons (ps_if (PW.pt (pw_or (pt_not (pt_val (pe_callB call_isi (by rfl) T.z_isinstance (by decide +kernel) (pa_cons (pv 0) (pa_cons (pe_bltn (v := .ty "str") (by rfl) T.z_str (by decide +kernel) rfl) pa_nil))))) (pw_or1 (pt_cmpR op_notIn_sign pe_str (pv 0) (by rfl)))))
    (pss_one (ps_ret pe_non))
    pss_nil)
  (pss_cons (ps_set (i := 1) sc__law_spot_in.nd rfl (Or.inl rfl) (pe_bmS PySem.F.plainAttrs_str PySem.F.slot_str_index PySem.F.type_str_index (mt_indexX rfl takes0) (pv 0) (pa_cons pe_str pa_nil)))
  (pss_cons (ps_par (i := 2) (j := 3) (by rfl) sc__law_spot_in.nd rfl rfl (by decide) rfl rfl (pa_cons (pe_slice sl_str (pv 0) po_none (po_some (pv 1))) (pa_cons (pe_call G__law_number_in (hr.mono (by decide)) (by rfl) T.g__law_number_in T.F__law_number_in.kp T.b__law_number_in .nil pass0 (pa_cons (pe_slice sl_str (pv 0) (po_some (pe_op op_add (pv 1) pe_int)) po_none) (pa_cons pe_int pa_nil))) pa_nil)) (by rfl))
  (pss_one (ps_ret (pe_ifExp (PW.pt (pw_and (pt_cmpR op_notN (pv 3) pe_non (nomark _)) (pw_and1 (PW.pt (pw_or (pt_cmpR op_eq (pv 2) pe_str (nomark _)) (pw_or1 (pt_val (pe_call G__law_is_word (hr.mono (by decide)) (by rfl) T.g__law_is_word T.F__law_is_word.kp T.b__law_is_word .nil pass0 (pa_cons (pv 2) pa_nil))))))))) (pe_tup (pa_cons (pv 2) (pa_cons (pv 3) pa_nil))) pe_non)))))), ?_⟩
  refine ⟨_, rfl, _, _, .type (tyD d), .type "str", isStrD d, rfl, .ty _, ty_dp hd, kit_ty (kit_str d (dp_nodict hd)), _, rfl, ?_⟩
  cases hd with
  | str z =>
    have hz : z.length ≤ 30 := hf
    refine iteF ?_
    have idz : idOf (.str z) = if (ownB (Txt.partition z dotS).1 && plainB (Txt.partition z dotS).2.2) = true then some ((Txt.partition z dotS).1, NumText.digitsVal (Txt.partition z dotS).2.2.cps.toList) else none := rfl
    refine ⟨_, rfl, 46, z, congrArg V.str dot_eq, rfl, _, rfl, ?_⟩
    rcases part_cases z with ⟨n, e⟩ | ⟨a, b, e1, n, e⟩
    · rw [e] at idz
      rw [decide_eq_false n]
      refine iteT (q1 (idz.trans ?_) _ (Same.refl _))
      rw [show plainB mtS = false by decide +kernel, Bool.and_false]
      rfl
    rw [e] at idz
    have m : 46 ∈ z.cps.toList := by
      rw [e1]
      show 46 ∈ (a ++ 46 :: b).toArray.toList
      rw [List.toList_toArray]
      simp
    rw [decide_eq_true m]
    refine iteF ?_
    subst e1
    rw [toS_len, List.length_append, List.length_cons] at hz
    have zl : (toS (a ++ 46 :: b)).length ≤ sizeLine := by
      rw [toS_len, List.length_append, List.length_cons]
      unfold sizeLine
      omega
    refine ⟨_, rfl, rfl, _, dotS, rfl, rfl, fun k hk => ?_, fun hk => ?_⟩
    rotate_left
    · rw [index_dot n] at hk
      cases hk
    rw [index_dot n] at hk
    cases hk
    refine ⟨_, rfl, _, rfl, (a.length : Int), rfl, _, rfl, zl, ?_⟩
    refine ⟨_, rfl, _, rfl, _, _, rfl, rfl, ((a.length : Int) + 1), rfl, _, rfl, zl, .str (toS b), .str (toS b), 30, ?_⟩
    rw [cut_head, cut_tail]
    have bl : (toS b).length ≤ 30 := by rw [toS_len]; omega
    have al : (toS a).length ≤ 30 := by rw [toS_len]; omega
    refine ⟨rfl, .str _, bl, fun H1 s1 => ?_⟩
    have nv : numD 30 (.str (toS b)) = if plainB (toS b) = true then .int ((NumText.digitsVal (toS b).cps.toList : Nat) : Int) else .non := by
      show (if (decide ((toS b).length ≤ 30) && plainB (toS b)) = true then _ else _) = _
      rw [decide_eq_true bl, Bool.true_and]
    rw [nv]
    have idz : idOf (.str (toS (a ++ 46 :: b))) = if (ownB (toS a) && plainB (toS b)) = true then some (toS a, NumText.digitsVal (toS b).cps.toList) else none := idz
    refine ⟨_, _, rfl, _, rfl, ?_⟩
    cases hp : plainB (toS b)
    · rw [hp, Bool.and_false] at idz
      exact ⟨rfl, _, rfl, iteF (q1 idz _ s1)⟩
    rw [hp, Bool.and_true] at idz
    refine ⟨rfl, _, rfl, iteT ?_⟩
    have fin : ownB (toS a) = true → ∀ H2 p, Same H H2 → H2 p = none → Q (.ref p) (upd H2 p (.tup [.str (toS a), .int ((NumText.digitsVal (toS b).cps.toList : Nat) : Int)])) := fun ho H2 p s2 np => by
      rw [ho] at idz
      exact q2 _ _ idz _ _ (s2.trans (same_new np _)) upd_same
    refine ⟨_, rfl, rfl, decide (V.str (toS a) = V.str mtS), rfl, ?_⟩
    cases h3 : decide (V.str (toS a) = V.str mtS)
    · refine iteF ⟨_, rfl, .str _, .str _, rfl, .str _, al, fun H2 s2 => ⟨_, rfl, ?_⟩⟩
      have ow : ownB (toS a) = nameB (toS a) := by
        unfold ownB
        rw [h3, Bool.false_or]
      show if nameB (toS a) = true then _ else _
      cases hn : nameB (toS a)
      · rw [ow, hn] at idz
        exact iteF (q1 idz _ (s1.trans s2))
      · exact iteT ⟨_, rfl, _, rfl, (by show 2 ≤ sizeLine; decide), fun p np => fin (ow.trans hn) _ _ (s1.trans s2) np⟩
    · have ow : ownB (toS a) = true := by
        unfold ownB
        rw [h3, Bool.true_or]
      exact iteT ⟨_, rfl, _, rfl, (by show 2 ≤ sizeLine; decide), fun p np => fin ow _ _ s1 np⟩
  | non => exact iteT (q1 rfl _ (Same.refl _))
  | bl b => exact iteT (q1 rfl _ (Same.refl _))
  | int i => exact iteT (q1 rfl _ (Same.refl _))
  | lst _ _ => exact iteT (q1 rfl _ (Same.refl _))
  | tup _ _ => exact iteT (q1 rfl _ (Same.refl _))
end
end Kx
/-! part KitH -/
namespace My
open PySem PySem.Spec PyProof.Rows L2
def okD (d : PyData) : Prop := fineD d ∧ ∀ o n, d = .tuple [.str o, .int n] → n ≤ 1000000000000000000
theorem okD.t {o : Str} {n : Int} (h : o.length ≤ 30) (k : n ≤ 1000000000000000000) : okD (.tuple [.str o, .int n]) := ⟨h, fun o2 n2 e => by cases e; exact k⟩
theorem okD.s {o : Str} (h : o.length ≤ 30) : okD (.str o) := ⟨h, fun o2 n2 e => nomatch e⟩
theorem okD.n {d : PyData} (h : fineD d) (k : ∀ o n, d ≠ .tuple [.str o, .int n]) : okD d := ⟨h, fun o2 n2 e => absurd e (k _ _)⟩
def nestD : PyData := .tuple [.tuple [.tuple [.tuple [.str (Str.ofString "a")]]]]
def spNest (K : PySem.W.Frag) : Sp := fun vs H Q _ => vs = [] ∧ ∀ H' v, Same H H' → Dp K H' v nestD → Q v H'
def spOdd (K : PySem.W.Frag) : Sp := fun vs H Q _ => ∃ b, vs = [.ref b] ∧ IsBag H b ∧ ∀ H' v d, Same H H' → Dp K H' v d → okD d → Q v H'
/-- values that are data -/
def Items (K : PySem.W.Frag) (H : Hp) (xs : List V) : Prop := ∀ (i : Nat) (v : V), xs[i]? = some v → ∃ d, Dp K H v d ∧ okD d
theorem Items.nil {K : PySem.W.Frag} {H : Hp} : Items K H [] := fun i v h => by simp at h
theorem Items.cons {K : PySem.W.Frag} {H : Hp} {x : V} {xs : List V} {d : PyData} (h : Dp K H x d) (o : okD d) (r : Items K H xs) : Items K H (x :: xs) := fun i v e => by
  cases i with
  | zero => cases e; exact ⟨d, h, o⟩
  | succ i => exact r i v e
theorem Items.same {K : PySem.W.Frag} {H H' : Hp} {xs : List V} (s : Same H H') (h : Items K H xs) : Items K H' xs := fun i v e =>
  let ⟨d, h1, h2⟩ := h i v e
  ⟨d, dp_same s h1, h2⟩
end My
/-! part K01i -/
namespace Kx
open PySem PySem.Spec PyProof.Rows L2 My
section
variable {P : Program} {w : World} {K : PySem.W.Frag} {mg : Str → Option Value} {base : Heap} (T : Tx K mg)
theorem ok_nest : FnOk P w K mg base CX0 1 T.f__law_nest T.d__law_nest [] (spNest K) := by
  refine T.F__law_nest.ok sc__law_nest (fun vs H Q E h => ?_) (fun cdv A outer s H vs Q E hr h => ?_)
  · obtain ⟨rfl, _⟩ := h
    rfl
  obtain ⟨rfl, q⟩ := h
  refine ⟨_, (pss_one (ps_ret (pe_tup (pa_cons (pe_tup (pa_cons (pe_tup (pa_cons (pe_tup (pa_cons pe_str pa_nil)) pa_nil)) pa_nil)) pa_nil)))), ?_⟩
  refine ⟨(by show 1 ≤ sizeLine; decide), fun p1 np1 => ?_⟩
  generalize hX : upd _ p1 _ = H1
  obtain ⟨s1, e1⟩ := new_at hX np1
  clear hX
  refine ⟨(by show 1 ≤ sizeLine; decide), fun p2 np2 => ?_⟩
  generalize hX : upd _ p2 _ = H2
  obtain ⟨s2, e2⟩ := new_at hX np2
  clear hX
  refine ⟨(by show 1 ≤ sizeLine; decide), fun p3 np3 => ?_⟩
  generalize hX : upd _ p3 _ = H3
  obtain ⟨s3, e3⟩ := new_at hX np3
  clear hX
  refine ⟨(by show 1 ≤ sizeLine; decide), fun p4 np4 => ?_⟩
  generalize hX : upd _ p4 _ = H4
  obtain ⟨s4, e4⟩ := new_at hX np4
  clear hX
  exact q H4 _ (s1.trans (s2.trans (s3.trans s4))) (.tup (.inl (.inl e4)) (.cons (.tup (.inl (.inl (s4 _ _ e3))) (.cons (.tup (.inl (.inl (s4 _ _ (s3 _ _ e2)))) (.cons (.tup (.inl (.inl (s4 _ _ (s3 _ _ (s2 _ _ e1))))) (.cons (.str _) .nil)) .nil)) .nil)) .nil))
theorem ok_odd : FnOk P w K mg base CX0 3 T.f__law_odd T.d__law_odd ["_law_bag_here"] (spOdd K) := by
  have G__law_of := ok_of (P := P) (w := w) (base := base) T
  have G__law_nest := ok_nest (P := P) (w := w) (base := base) T
  refine T.F__law_odd.ok sc__law_odd (fun vs H Q E h => ?_) (fun cdv A outer s H vs Q E hr h => ?_)
  · obtain ⟨b, rfl, _⟩ := h
    rfl
  obtain ⟨b, rfl, hb, q⟩ := h
  refine ⟨_, (pss_one (ps_ret (pe_call G__law_of (hr.mono (by decide)) (by rfl) T.g__law_of T.F__law_of.kp T.b__law_of .nil pass0 (pa_cons (pv 0) (pa_cons (pe_lst (pa_cons pe_non (pa_cons pe_bl (pa_cons pe_bl (pa_cons pe_int (pa_cons (pe_un un_neg pe_int) (pa_cons pe_str (pa_cons pe_str (pa_cons pe_str (pa_cons pe_str (pa_cons (pe_tup pa_nil) (pa_cons (pe_tup (pa_cons pe_str (pa_cons (pe_un un_neg pe_int) pa_nil))) (pa_cons (pe_tup (pa_cons pe_str (pa_cons pe_int pa_nil))) (pa_cons (pe_lst (pa_cons pe_str (pa_cons pe_int pa_nil))) (pa_cons (pe_tup (pa_cons pe_str (pa_cons pe_bl pa_nil))) (pa_cons (pe_tup (pa_cons pe_str (pa_cons pe_int (pa_cons pe_int pa_nil)))) (pa_cons (pe_call0 G__law_nest (hr.mono (by decide)) (by rfl) T.g__law_nest T.F__law_nest.kp T.b__law_nest .nil pass0) pa_nil))))))))))))))))) pa_nil))))), ?_⟩
  refine ⟨_, rfl, _, rfl, (by show 0 ≤ sizeLine; decide), fun p1 np1 => ?_⟩
  generalize hX : upd _ p1 _ = H1
  obtain ⟨s1, e1⟩ := new_at hX np1
  clear hX
  refine ⟨_, rfl, (by show 2 ≤ sizeLine; decide), fun p2 np2 => ?_⟩
  generalize hX : upd _ p2 _ = H2
  obtain ⟨s2, e2⟩ := new_at hX np2
  clear hX
  refine ⟨(by show 2 ≤ sizeLine; decide), fun p3 np3 => ?_⟩
  generalize hX : upd _ p3 _ = H3
  obtain ⟨s3, e3⟩ := new_at hX np3
  clear hX
  refine ⟨(by show 2 ≤ sizeLine; decide), fun p4 np4 => ?_⟩
  generalize hX : upd _ p4 _ = H4
  obtain ⟨s4, e4⟩ := new_at hX np4
  clear hX
  refine ⟨(by show 2 ≤ sizeLine; decide), fun p5 np5 => ?_⟩
  generalize hX : upd _ p5 _ = H5
  obtain ⟨s5, e5⟩ := new_at hX np5
  clear hX
  refine ⟨(by show 3 ≤ sizeLine; decide), fun p6 np6 => ?_⟩
  generalize hX : upd _ p6 _ = H6
  obtain ⟨s6, e6⟩ := new_at hX np6
  clear hX
  refine ⟨rfl, fun H7 nv s7 dn => ?_⟩
  refine ⟨(by show 16 ≤ sizeLine; decide), fun p8 np8 => ?_⟩
  generalize hX : upd _ p8 _ = H8
  obtain ⟨s8, e8⟩ := new_at hX np8
  clear hX
  have u7 := s7.trans s8
  have u6 := s6.trans u7
  have u5 := s5.trans u6
  have u4 := s4.trans u5
  have u3 := s3.trans u4
  have u2 := s2.trans u3
  have u1 := s1.trans u2
  have l1 : ∀ x : Str, x.length ≤ 1 → x.length ≤ 30 := fun x h => by omega
  refine ⟨b, p8, _, rfl, hb.same u1, .inl (.inl e8), (by show 0 < 16; decide), (by show 16 ≤ 1000000; decide), fun i v hv => ?_⟩
  have it : Items K H8 [.non, .bl true, .bl false, .int 7, .int (-1), .str (Str.ofString ""), .str (Str.ofString "A"), .str (Str.ofString "let"), .str (Str.ofString "sevenab"), .ref p1, .ref p2, .ref p3, .ref p4, .ref p5, .ref p6, nv] :=
    .cons .non (.n trivial (fun o n e => nomatch e)) (.cons (.bl _) (.n trivial (fun o n e => nomatch e)) (.cons (.bl _) (.n trivial (fun o n e => nomatch e)) (.cons (.int _) (.n trivial (fun o n e => nomatch e)) (.cons (.int _) (.n trivial (fun o n e => nomatch e))
    (.cons (.str _) (.s (by decide +kernel)) (.cons (.str _) (.s (by decide +kernel)) (.cons (.str _) (.s (by decide +kernel)) (.cons (.str _) (.s (by decide +kernel))
    (.cons (.tup (.inl (.inl (u2 _ _ e1))) .nil) (.n trivial (fun o n e => nomatch e))
    (.cons (.tup (.inl (.inl (u3 _ _ e2))) (.cons (.str _) (.cons (.int _) .nil))) (.t (by decide +kernel) (by decide))
    (.cons (.tup (.inl (.inl (u4 _ _ e3))) (.cons (.str _) (.cons (.int _) .nil))) (.t (by decide +kernel) (by decide))
    (.cons (.lst (.inl (.inl (u5 _ _ e4))) (.cons (.str _) (.cons (.int _) .nil))) (.n trivial (fun o n e => nomatch e))
    (.cons (.tup (.inl (.inl (u6 _ _ e5))) (.cons (.str _) (.cons (.bl _) .nil))) (.n (show (Str.ofString "a").length ≤ 30 by decide +kernel) (fun o n e => by cases e))
    (.cons (.tup (.inl (.inl (u7 _ _ e6))) (.cons (.str _) (.cons (.int _) (.cons (.int _) .nil)))) (.n (show (Str.ofString "a").length ≤ 30 by decide +kernel) (fun o n e => by cases e))
    (.cons (dp_same s8 dn) (.n trivial (fun o n e => by cases e)) .nil)))))))))))))))
  obtain ⟨d, h1, h2⟩ := it i v hv
  exact q _ v d u1 h1 h2
end
end Kx
/-! part KitI -/
namespace My
open PySem PySem.Spec PyProof.Rows L2
theorem dg_of {c : Nat} (h : 48 ≤ c ∧ c ≤ 57) : c ∈ dgC := by
  have q : ∀ k : Fin 10, 48 + k.1 ∈ dgC := by decide +kernel
  have := q ⟨c - 48, by omega⟩
  rwa [show 48 + (c - 48) = c by omega] at this
theorem numL_head : ∀ n : Nat, 1 ≤ n → (TL.numL n)[0]? ≠ some 48 := by
  intro n
  induction n using Nat.strongRecOn with
  | _ n ih =>
    intro h e
    by_cases l : n < 10
    · rw [TL.numL_lt l] at e
      have := Option.some.inj e
      omega
    · rw [TL.numL_step (by omega), List.getElem?_append_left (List.length_pos_iff.mpr (TL.numL_ne _))] at e
      exact ih (n / 10) (by omega) (by omega) e
theorem numB_num (n : Nat) : numB (TL.numL n) = true := by
  unfold numB
  have a : (TL.numL n).all (fun c => decide (c ∈ dgC)) = true := List.all_eq_true.mpr fun c hc => decide_eq_true (dg_of (TL.numL_digits n c hc))
  rw [a, decide_eq_true (show 1 ≤ (TL.numL n).length from List.length_pos_iff.mpr (TL.numL_ne n)), Bool.true_and, Bool.true_and]
  by_cases h : 1 ≤ n
  · rw [decide_eq_false (numL_head n h), Bool.and_false]
    rfl
  · obtain rfl : n = 0 := by omega
    rw [TL.numL_lt (by decide)]
    rfl
theorem num_str (n : Nat) : Str.ofString (toString ((n : Nat) : Int)) = toS (TL.numL n) := by
  rw [← TL.tl_num n, toS_tl]
theorem own_len {o : Str} (h : ownB o = true) : o.length ≤ 6 := by
  unfold ownB at h
  by_cases e : V.str o = V.str mtS
  · injection e with e
    rw [e]
    decide +kernel
  · rw [decide_eq_false e, Bool.false_or] at h
    unfold nameB at h
    split at h
    · cases h
    · omega
theorem own_dot {o : Str} (h : ownB o = true) : 46 ∉ o.cps.toList := by
  unfold ownB at h
  by_cases e : V.str o = V.str mtS
  · injection e with e
    rw [e]
    decide +kernel
  · rw [decide_eq_false e, Bool.false_or, name_word] at h
    unfold wordB at h
    rw [Bool.and_eq_true, Bool.and_eq_true, Bool.and_eq_true] at h
    intro m
    have := of_decide_eq_true (List.all_eq_true.mp h.2.2.2 46 m)
    revert this
    decide +kernel
theorem idOf_text {o : Str} {n : Nat} (h : ownB o = true) : idOf (.str (o ++ dotS ++ Str.ofString (toString ((n : Nat) : Int)))) = some (o, n) := by
  show (if (ownB (Txt.partition (o ++ dotS ++ Str.ofString (toString ((n : Nat) : Int))) dotS).1 && plainB (Txt.partition (o ++ dotS ++ Str.ofString (toString ((n : Nat) : Int))) dotS).2.2) = true then _ else _) = _
  rw [TL.partition_app dot_tl (own_dot h), num_str]
  show (if (ownB o && plainB (toS (TL.numL n))) = true then some (o, NumText.digitsVal (toS (TL.numL n)).cps.toList) else none) = _
  rw [h, plain_num, numB_num, show (toS (TL.numL n)).cps.toList = TL.numL n from List.toList_toArray .., TL.numL_val]
  rfl
theorem idD_tup {K : PySem.W.Frag} {H : Hp} {v : V} {d : PyData} (h : Dp K H v d) (e : idD d = true) : ∃ (p : Addr) (o : Str) (n : Nat), v = .ref p ∧ SqT K H p [.str o, .int ((n : Nat) : Int)] ∧ ownB o = true ∧ d = .tuple [.str o, .int ((n : Nat) : Int)] := by
  cases h with
  | tup h k =>
    rename_i a xs ds
    cases k with
    | nil => exact nomatch e
    | cons k1 k =>
      rename_i x xs dx ds
      cases k with
      | nil => exact nomatch e
      | cons k2 k =>
        rename_i y xs dy ds
        cases k with
        | cons k3 k => exact nomatch e
        | nil =>
          have e : (ownD dx && natD dy) = true := e
          rw [Bool.and_eq_true] at e
          cases k1 with
          | str o =>
            cases k2 with
            | int n =>
              have hn : 0 ≤ n := of_decide_eq_true e.2
              obtain ⟨m, rfl⟩ := Int.eq_ofNat_of_zero_le hn
              exact ⟨a, o, m, rfl, h, e.1, rfl⟩
            | str _ => exact nomatch e.2
            | non => exact nomatch e.2
            | bl _ => exact nomatch e.2
            | lst _ _ => exact nomatch e.2
            | tup _ _ => exact nomatch e.2
          | int _ => exact nomatch e.1
          | non => exact nomatch e.1
          | bl _ => exact nomatch e.1
          | lst _ _ => exact nomatch e.1
          | tup _ _ => exact nomatch e.1
  | str _ => exact nomatch e
  | int _ => exact nomatch e
  | non => exact nomatch e
  | bl _ => exact nomatch e
  | lst _ _ => exact nomatch e
theorem RdV.same {K : PySem.W.Frag} {H H' : Hp} {d : PyData} {v : V} (s : Same H H') (h : RdV K H d v) : RdV K H' d v := by
  revert h
  unfold RdV
  cases idOf d with
  | none => exact id
  | some x =>
    obtain ⟨o, n⟩ := x
    rintro ⟨p, e, h⟩
    exact ⟨p, e, s _ _ h⟩
theorem rd_eqv {K : PySem.W.Frag} {H : Hp} {d : PyData} {v w : V} (h : RdV K H d v) (k : RdV K H d w) : Eqv K H 2 v w := by
  revert h k
  unfold RdV
  cases idOf d with
  | none =>
    rintro rfl rfl
    exact eqv_scal rfl
  | some x =>
    obtain ⟨o, n⟩ := x
    rintro ⟨p, rfl, h⟩ ⟨r, rfl, k⟩
    exact eqv_tup (.inl (.inl h)) (.inl (.inl k)) (by show 2 < sizeLine; decide) (.cons (eqv_scal rfl) (.cons (eqv_scal rfl) .nil))
theorem num_scal (m : Nat) (d : PyData) : scalV (numD m d) = true := by
  unfold numD
  split
  · split <;> rfl
  · rfl
end My
/-! part K01j -/
namespace Kx
open PySem PySem.Spec PyProof.Rows L2 My
section
variable {P : Program} {w : World} {K : PySem.W.Frag} {mg : Str → Option Value} {base : Heap} (T : Tx K mg)
theorem ok_ofS : FnOk P w K mg base CX0 2 T.f__law_of T.d__law_of ["_law_bag_here", "_law_some"] spOfS := by
  have G__law_draw := ok_draw (P := P) (w := w) (base := base) T
  refine T.F__law_of.ok sc__law_of (fun vs H Q E h => ?_) (fun cdv A outer s H vs Q E hr h => ?_)
  · obtain ⟨a, z, rfl, _⟩ := h
    rfl
  obtain ⟨a, z, rfl, hb, h0, h1, q⟩ := h
  refine ⟨_, (pss_one (ps_ret (pe_ix ix_str (pv 1) (pe_call G__law_draw (hr.mono (by decide)) (by rfl) T.g__law_draw T.F__law_draw.kp T.b__law_draw .nil pass0 (pa_cons (pv 0) (pa_cons (pe_callB call_len_str (by rfl) T.z_len (by decide +kernel) (pa_cons (pv 1) pa_nil)) pa_nil))) (fun _ _ => rfl)))), ?_⟩
  have hz : z.length ≤ sizeLine := by
    unfold sizeLine
    omega
  have hzl : z.cps.toList.length = z.length := Array.length_toList
  refine ⟨_, rfl, _, rfl, _, rfl, z, rfl, hz, a, _, rfl, hb, by omega, by omega, fun d d0 d1 => ?_⟩
  have hd : d.toNat < z.cps.toList.length := by omega
  have ed : d = ((d.toNat : Nat) : Int) := by omega
  have y : atI z.cps.toList ((d.toNat : Nat) : Int) = some z.cps.toList[d.toNat] := atI_nat (List.getElem?_eq_getElem hd)
  rw [← ed] at y
  exact ⟨_, _, _, rfl, rfl, hz, y, q d.toNat _ (List.getElem?_eq_getElem hd)⟩
theorem ok_same : ∀ n : Nat, FnOk P w K mg base CX0 n T.f__law_same T.d__law_same ["_law_found", "_law_due"] (spSame K n)
  | 0 => same_none
  | n + 1 => ok_same1 T (ok_same n)
set_option maxHeartbeats 4000000 in
theorem ok_law : FnOk P w K mg base CX0 4 T.f_law T.d_law ["_law_script"] (spLaw K) := by
  have G__law_bag := ok_bag (P := P) (w := w) (base := base) T
  have G__law_draw := ok_draw (P := P) (w := w) (base := base) T
  have G__law_of := ok_of (P := P) (w := w) (base := base) T
  have G_ofS := ok_ofS (P := P) (w := w) (K := K) (base := base) T
  have G__law_letters := ok_letters (P := P) (w := w) (base := base) T
  have G__law_keywords := ok_keywords (P := P) (w := w) (base := base) T
  have G__law_odd := ok_odd (P := P) (w := w) (base := base) T
  have G_is_name := ok_is_name (P := P) (w := w) (base := base) T
  have G_is_number := ok_is_number (P := P) (w := w) (base := base) T
  have G_is_id := ok_is_id (P := P) (w := w) (base := base) T
  have G_id_text := ok_id_text (P := P) (w := w) (base := base) T
  have G_read_id := ok_read_id (P := P) (w := w) (base := base) T
  have G_read_numeral := ok_read_numeral (P := P) (w := w) (base := base) T
  have G__law_is_word := ok_is_word (P := P) (w := w) (base := base) T
  have G__law_is_spot := ok_is_spot (P := P) (w := w) (base := base) T
  have G__law_number_in := ok_number_in (P := P) (w := w) (base := base) T
  have G__law_spot_in := ok_spot_in (P := P) (w := w) (base := base) T
  have G__law_same := ok_same (P := P) (w := w) (base := base) T 3
  have B_is_name : KBn K T.d_is_name ["value"] 0 ["value"] _ _ := kbn_of T.F_is_name 0 [0] fun _ _ _ _ _ _ us ws h1 h2 => match us, ws, h1, h2 with | [], [_], _, _ => rfl
  have B_is_id : KBn K T.d_is_id ["value"] 0 ["value"] _ _ := kbn_of T.F_is_id 0 [0] fun _ _ _ _ _ _ us ws h1 h2 => match us, ws, h1, h2 with | [], [_], _, _ => rfl
  have B_id_text : KBn K T.d_id_text ["thing"] 0 ["thing"] _ _ := kbn_of T.F_id_text 0 [0] fun _ _ _ _ _ _ us ws h1 h2 => match us, ws, h1, h2 with | [], [_], _, _ => rfl
  have B_read_id : KBn K T.d_read_id ["text"] 0 ["text"] _ _ := kbn_of T.F_read_id 0 [0] fun _ _ _ _ _ _ us ws h1 h2 => match us, ws, h1, h2 with | [], [_], _, _ => rfl
  have B_read_numeral : KBn K T.d_read_numeral ["text"] 0 ["text"] _ _ := kbn_of T.F_read_numeral 0 [0] fun _ _ _ _ _ _ us ws h1 h2 => match us, ws, h1, h2 with | [], [_], _, _ => rfl
  have B_is_number : KBn K T.d_is_number ["value", "least", "most"] 0 ["most", "value", "least"] _ _ := kbn_of T.F_is_number 0 [1, 2, 0] fun _ _ _ _ _ _ us ws h1 h2 => match us, ws, h1, h2 with | [], [_, _, _], _, _ => rfl
  refine T.F_law.ok sc_law (fun vs H Q E h => ?_) (fun cdv A outer s H vs Q E hr h => ?_)
  · obtain ⟨a, ns, rfl, _⟩ := h
    rfl
  obtain ⟨a, ns, rfl, hS, h63, q⟩ := h
  refine ⟨_, (pss_cons (ps_set (i := 1) sc_law.nd rfl (Or.inr rfl) (pe_call G__law_bag (hr.mono (by decide)) (by rfl) T.g__law_bag T.F__law_bag.kp T.b__law_bag .nil pass0 (pa_cons (pv 0) pa_nil)))
  (pss_cons (ps_if (pt_not (pt_val (pe_call G__law_same (hr.mono (by decide)) (by rfl) T.g__law_same T.F__law_same.kp T.b__law_same .nil pass0 (pa_cons (pe_lst (pa_cons (pe_callTy (k_call_list_of K) (by rfl) T.z_list (by decide +kernel) (pa_cons (pe_glob (v := .ref T.a_KEYWORDS) (by rfl) T.g_KEYWORDS rfl) pa_nil)) (pa_cons (pe_callB call_isi (by rfl) T.z_isinstance (by decide +kernel) (pa_cons (pe_glob (v := .ref T.a_KEYWORDS) (by rfl) T.g_KEYWORDS rfl) (pa_cons (pe_bltn (v := .ty "tuple") (by rfl) T.z_tuple (by decide +kernel) rfl) pa_nil))) (pa_cons (pe_glob (v := .int 1000000) (by rfl) T.g_LIMIT ⟨_, rfl⟩) pa_nil)))) (pa_cons (pe_lst (pa_cons (pe_call0 G__law_keywords (hr.mono (by decide)) (by rfl) T.g__law_keywords T.F__law_keywords.kp T.b__law_keywords .nil pass0) (pa_cons pe_bl (pa_cons pe_int pa_nil)))) pa_nil)))))
    (pss_one (ps_ret pe_bl))
    pss_nil)
  (pss_cons (ps_for PassesOwn.never rfl (pi_range1 (by rfl) T.z_range (pa_cons pe_int pa_nil)) (pg_name (i := 2) sc_law.nd rfl (Or.inl rfl))
    (pss_cons (ps_set (i := 3) sc_law.nd rfl (Or.inl rfl) (pe_join pe_str (pe_lc (own := [("_law_k", 4)]) (g := gName 4) (by rfl) sc_law.nd (pi_range1 (by rfl) T.z_range (pa_cons (pe_call G__law_draw (hr.mono (by decide)) (by rfl) T.g__law_draw T.F__law_draw.kp T.b__law_draw .nil pass0 (pa_cons (pv 1) (pa_cons pe_int pa_nil))) pa_nil)) (blkOk_by (own := [("_law_k", 4)]) (N := N_law) (sc := defScope s_law) (by decide +kernel)) (fun _ _ _ _ _ => (pg_name (i := 4) sc_law.nd rfl (Or.inl rfl))) (fun _ _ _ _ _ => pts_nil) (fun _ _ _ _ _ => (pe_call G_ofS (hr.mono (by decide)) (by rfl) T.g__law_of T.F__law_of.kp T.b__law_of .nil pass0 (pa_cons (pv 1) (pa_cons (pe_call0 G__law_letters (hr.mono (by decide)) (by rfl) T.g__law_letters T.F__law_letters.kp T.b__law_letters .nil pass0) pa_nil)))))))
    (pss_cons (ps_set (i := 5) sc_law.nd rfl (Or.inl rfl) (pe_call G__law_draw (hr.mono (by decide)) (by rfl) T.g__law_draw T.F__law_draw.kp T.b__law_draw .nil pass0 (pa_cons (pv 1) (pa_cons (pe_op op_add (pe_callB call_len_str (by rfl) T.z_len (by decide +kernel) (pa_cons (pv 3) pa_nil)) pe_int) pa_nil))))
    (pss_cons (ps_set (i := 6) sc_law.nd rfl (Or.inl rfl) (pe_op op_add_str (pe_op op_add_str (pe_slice sl_str (pv 3) po_none (po_some (pv 5))) (pe_call G__law_of (hr.mono (by decide)) (by rfl) T.g__law_of T.F__law_of.kp T.b__law_of .nil pass0 (pa_cons (pv 1) (pa_cons (pe_lst (pa_cons pe_str (pa_cons pe_str (pa_cons pe_str (pa_cons pe_str (pa_cons pe_str (pa_cons pe_str pa_nil))))))) pa_nil)))) (pe_slice sl_str (pv 3) (po_some (pv 5)) po_none)))
    (pss_cons (ps_set (i := 7) sc_law.nd rfl (Or.inl rfl) (pe_call G__law_odd (hr.mono (by decide)) (by rfl) T.g__law_odd T.F__law_odd.kp T.b__law_odd .nil pass0 (pa_cons (pv 1) pa_nil)))
    (pss_cons (ps_for PassesOwn.never rfl (pi_list (pe_lst (pa_cons (pv 3) (pa_cons (pv 6) (pa_cons (pv 7) (pa_cons (pe_call G__law_of (hr.mono (by decide)) (by rfl) T.g__law_of T.F__law_of.kp T.b__law_of .nil pass0 (pa_cons (pv 1) (pa_cons (pe_call0 G__law_keywords (hr.mono (by decide)) (by rfl) T.g__law_keywords T.F__law_keywords.kp T.b__law_keywords .nil pass0) pa_nil))) (pa_cons (pe_op op_add_str (pe_call G__law_of (hr.mono (by decide)) (by rfl) T.g__law_of T.F__law_of.kp T.b__law_of .nil pass0 (pa_cons (pv 1) (pa_cons (pe_call0 G__law_keywords (hr.mono (by decide)) (by rfl) T.g__law_keywords T.F__law_keywords.kp T.b__law_keywords .nil pass0) pa_nil))) pe_str) (pa_cons (pe_tup (pa_cons (pv 3) pa_nil)) (pa_cons (pe_lst (pa_cons (pv 3) pa_nil)) pa_nil))))))))) (pg_name (i := 8) sc_law.nd rfl (Or.inl rfl))
      (pss_one (ps_if (pt_not (pt_val (pe_call G__law_same (hr.mono (by decide)) (by rfl) T.g__law_same T.F__law_same.kp T.b__law_same .nil pass0 (pa_cons (pe_lst (pa_cons (pe_call G_is_name (hr.mono (by decide)) (by rfl) T.g_is_name T.F_is_name.kp T.b_is_name .nil pass0 (pa_cons (pv 8) pa_nil)) (pa_cons (pe_callK0 G_is_name (hr.mono (by decide)) (by rfl) T.g_is_name T.F_is_name.kp B_is_name pass0 (pk_cons (pv 8) pk_nil)) pa_nil))) (pa_cons (pe_op op_rep (pe_lst (pa_cons (pe_call G__law_is_word (hr.mono (by decide)) (by rfl) T.g__law_is_word T.F__law_is_word.kp T.b__law_is_word .nil pass0 (pa_cons (pv 8) pa_nil)) pa_nil)) pe_int) pa_nil)))))
        (pss_one (ps_ret pe_bl))
        pss_nil)))
    (pss_cons (ps_set (i := 9) sc_law.nd rfl (Or.inl rfl) (pe_call G__law_of (hr.mono (by decide)) (by rfl) T.g__law_of T.F__law_of.kp T.b__law_of .nil pass0 (pa_cons (pv 1) (pa_cons (pe_lst (pa_cons pe_int (pa_cons pe_int (pa_cons pe_int (pa_cons pe_int (pa_cons pe_int (pa_cons pe_int (pa_cons (pe_call G__law_draw (hr.mono (by decide)) (by rfl) T.g__law_draw T.F__law_draw.kp T.b__law_draw .nil pass0 (pa_cons (pv 1) (pa_cons (pe_op op_pow pe_int pe_int) pa_nil))) (pa_cons (pe_op op_pow pe_int pe_int) pa_nil))))))))) pa_nil))))
    (pss_cons (ps_set (i := 10) sc_law.nd rfl (Or.inl rfl) (pe_lst (pa_cons (pe_tup (pa_cons (pv 3) (pa_cons (pv 9) pa_nil))) (pa_cons (pe_tup (pa_cons pe_str (pa_cons (pv 9) pa_nil))) (pa_cons (pe_tup (pa_cons (pv 3) (pa_cons (pv 9) (pa_cons pe_int pa_nil)))) (pa_cons (pe_lst (pa_cons (pv 3) (pa_cons (pv 9) pa_nil))) (pa_cons (pe_tup (pa_cons (pv 6) (pa_cons (pv 9) pa_nil))) (pa_cons (pe_tup (pa_cons (pv 3) (pa_cons pe_bl pa_nil))) (pa_cons (pe_tup (pa_cons (pv 3) (pa_cons (pe_op op_sub (pe_op op_sub pe_int pe_int) (pv 9)) pa_nil))) (pa_cons (pe_tup (pa_cons (pv 9) (pa_cons (pv 3) pa_nil))) (pa_cons (pv 7) (pa_cons (pv 3) pa_nil))))))))))))
    (pss_cons (ps_for PassesOwn.never rfl (pi_list (pv 10)) (pg_name (i := 8) sc_law.nd rfl (Or.inl rfl))
      (pss_cons (ps_if (pt_not (pt_val (pe_call G__law_same (hr.mono (by decide)) (by rfl) T.g__law_same T.F__law_same.kp T.b__law_same .nil pass0 (pa_cons (pe_lst (pa_cons (pe_call G_is_id (hr.mono (by decide)) (by rfl) T.g_is_id T.F_is_id.kp T.b_is_id .nil pass0 (pa_cons (pv 8) pa_nil)) (pa_cons (pe_callK0 G_is_id (hr.mono (by decide)) (by rfl) T.g_is_id T.F_is_id.kp B_is_id pass0 (pk_cons (pv 8) pk_nil)) pa_nil))) (pa_cons (pe_op op_rep (pe_lst (pa_cons (pe_call G__law_is_spot (hr.mono (by decide)) (by rfl) T.g__law_is_spot T.F__law_is_spot.kp T.b__law_is_spot .nil pass0 (pa_cons (pv 8) pa_nil)) pa_nil)) pe_int) pa_nil)))))
        (pss_one (ps_ret pe_bl))
        pss_nil)
      (pss_one (ps_if (PW.pt (pw_and (pt_val (pe_call G__law_is_spot (hr.mono (by decide)) (by rfl) T.g__law_is_spot T.F__law_is_spot.kp T.b__law_is_spot .nil pass0 (pa_cons (pv 8) pa_nil))) (pw_and1 (pt_not (pt_val (pe_call G__law_same (hr.mono (by decide)) (by rfl) T.g__law_same T.F__law_same.kp T.b__law_same .nil pass0 (pa_cons (pe_lst (pa_cons (pe_call G_id_text (hr.mono (by decide)) (by rfl) T.g_id_text T.F_id_text.kp T.b_id_text .nil pass0 (pa_cons (pv 8) pa_nil)) (pa_cons (pe_call G_read_id (hr.mono (by decide)) (by rfl) T.g_read_id T.F_read_id.kp T.b_read_id .nil pass0 (pa_cons (pe_callK0 G_id_text (hr.mono (by decide)) (by rfl) T.g_id_text T.F_id_text.kp B_id_text pass0 (pk_cons (pv 8) pk_nil)) pa_nil)) pa_nil))) (pa_cons (pe_lst (pa_cons (pe_op op_add_str (pe_op op_add_str (pe_ix (k_ix_tup K) (pv 8) pe_int (fun _ _ => rfl)) pe_str) (pe_callTy call_str_int (by rfl) T.z_str (by decide +kernel) (pa_cons (pe_ix (k_ix_tup K) (pv 8) pe_int (fun _ _ => rfl)) pa_nil))) (pa_cons (pv 8) pa_nil))) pa_nil))))))))
        (pss_one (ps_ret pe_bl))
        pss_nil))))
    (pss_cons (ps_set (i := 11) sc_law.nd rfl (Or.inl rfl) (pe_call G__law_of (hr.mono (by decide)) (by rfl) T.g__law_of T.F__law_of.kp T.b__law_of .nil pass0 (pa_cons (pv 1) (pa_cons (pe_lst (pa_cons (pe_callTy call_str_int (by rfl) T.z_str (by decide +kernel) (pa_cons (pv 9) pa_nil)) (pa_cons (pe_op op_add_str pe_str (pe_callTy call_str_int (by rfl) T.z_str (by decide +kernel) (pa_cons (pv 9) pa_nil))) (pa_cons pe_str (pa_cons pe_str (pa_cons pe_str (pa_cons pe_str (pa_cons pe_str (pa_cons pe_str (pa_cons (pe_callTy call_str_int (by rfl) T.z_str (by decide +kernel) (pa_cons (pe_call G__law_draw (hr.mono (by decide)) (by rfl) T.g__law_draw T.F__law_draw.kp T.b__law_draw .nil pass0 (pa_cons (pv 1) (pa_cons (pe_op op_pow pe_int pe_int) pa_nil))) pa_nil)) (pa_cons pe_str (pa_cons pe_str (pa_cons pe_str (pa_cons pe_str pa_nil)))))))))))))) pa_nil))))
    (pss_cons (ps_for PassesOwn.never rfl (pi_list (pe_lst (pa_cons (pv 11) (pa_cons (pe_op op_add_str (pe_op op_add_str (pv 3) pe_str) (pv 11)) (pa_cons (pe_op op_add_str pe_str (pv 11)) (pa_cons (pe_op op_add_str (pv 11) pe_str) (pa_cons (pe_op op_add_str (pv 3) (pv 11)) (pa_cons (pv 6) (pa_cons (pv 7) (pa_cons pe_non (pa_cons pe_int (pa_cons (pe_op op_add_str (pe_op op_add_str (pv 3) pe_str) (pv 11)) pa_nil)))))))))))) (pg_name (i := 8) sc_law.nd rfl (Or.inl rfl))
      (pss_one (ps_if (pt_not (pt_val (pe_call G__law_same (hr.mono (by decide)) (by rfl) T.g__law_same T.F__law_same.kp T.b__law_same .nil pass0 (pa_cons (pe_lst (pa_cons (pe_call G_read_numeral (hr.mono (by decide)) (by rfl) T.g_read_numeral T.F_read_numeral.kp T.b_read_numeral .nil pass0 (pa_cons (pv 8) pa_nil)) (pa_cons (pe_call G_read_id (hr.mono (by decide)) (by rfl) T.g_read_id T.F_read_id.kp T.b_read_id .nil pass0 (pa_cons (pv 8) pa_nil)) (pa_cons (pe_callK0 G_read_id (hr.mono (by decide)) (by rfl) T.g_read_id T.F_read_id.kp B_read_id pass0 (pk_cons (pv 8) pk_nil)) pa_nil)))) (pa_cons (pe_lst (pa_cons (pe_call G__law_number_in (hr.mono (by decide)) (by rfl) T.g__law_number_in T.F__law_number_in.kp T.b__law_number_in .nil pass0 (pa_cons (pv 8) (pa_cons pe_int pa_nil))) (pa_cons (pe_call G__law_spot_in (hr.mono (by decide)) (by rfl) T.g__law_spot_in T.F__law_spot_in.kp T.b__law_spot_in .nil pass0 (pa_cons (pv 8) pa_nil)) (pa_cons (pe_call G__law_spot_in (hr.mono (by decide)) (by rfl) T.g__law_spot_in T.F__law_spot_in.kp T.b__law_spot_in .nil pass0 (pa_cons (pv 8) pa_nil)) pa_nil)))) pa_nil)))))
        (pss_one (ps_ret pe_bl))
        pss_nil)))
    (pss_cons (ps_par (i := 12) (j := 13) (by rfl) sc_law.nd rfl rfl (by decide) rfl rfl (pa_cons (pe_op op_sub (pe_call G__law_draw (hr.mono (by decide)) (by rfl) T.g__law_draw T.F__law_draw.kp T.b__law_draw .nil pass0 (pa_cons (pv 1) (pa_cons pe_int pa_nil))) pe_int) (pa_cons (pe_op op_sub (pe_call G__law_draw (hr.mono (by decide)) (by rfl) T.g__law_draw T.F__law_draw.kp T.b__law_draw .nil pass0 (pa_cons (pv 1) (pa_cons pe_int pa_nil))) pe_int) pa_nil)) (by rfl))
    (pss_one (ps_for PassesOwn.never rfl (pi_list (pe_lst (pa_cons (pv 12) (pa_cons (pv 13) (pa_cons (pe_op op_sub (pv 12) pe_int) (pa_cons (pe_op op_add (pv 13) pe_int) (pa_cons (pe_op op_sub (pe_call G__law_draw (hr.mono (by decide)) (by rfl) T.g__law_draw T.F__law_draw.kp T.b__law_draw .nil pass0 (pa_cons (pv 1) (pa_cons pe_int pa_nil))) pe_int) (pa_cons pe_bl (pa_cons pe_bl (pa_cons pe_non (pa_cons (pe_callTy call_str_int (by rfl) T.z_str (by decide +kernel) (pa_cons (pv 12) pa_nil)) (pa_cons (pe_tup (pa_cons (pv 12) pa_nil)) (pa_cons (pv 7) pa_nil))))))))))))) (pg_name (i := 8) sc_law.nd rfl (Or.inl rfl))
      (C8.pss_cut (ps_set (i := 14) sc_law.nd rfl (Or.inl rfl) (pe_and (pe_callB call_isi (by rfl) T.z_isinstance (by decide +kernel) (pa_cons (pv 8) (pa_cons (pe_bltn (v := .ty "int") (by rfl) T.z_int (by decide +kernel) rfl) pa_nil))) (pe_and (pe_not (pe_callB call_isi (by rfl) T.z_isinstance (by decide +kernel) (pa_cons (pv 8) (pa_cons (pe_bltn (v := .ty "bool") (by rfl) T.z_bool (by decide +kernel) rfl) pa_nil)))) (pe_and (pe_cmpR op_le (pv 12) (pv 8) (nomark _)) (pe_one (pe_cmpR op_le (pv 8) (pv 13) (nomark _)))))))
      (pss_one (ps_if (pt_not (pt_val (pe_call G__law_same (hr.mono (by decide)) (by rfl) T.g__law_same T.F__law_same.kp T.b__law_same .nil pass0 (pa_cons (pe_lst (pa_cons (pe_call G_is_number (hr.mono (by decide)) (by rfl) T.g_is_number T.F_is_number.kp T.b_is_number .nil pass0 (pa_cons (pv 8) (pa_cons (pv 12) (pa_cons (pv 13) pa_nil)))) (pa_cons (pe_callK0 G_is_number (hr.mono (by decide)) (by rfl) T.g_is_number T.F_is_number.kp B_is_number pass0 (pk_cons (pv 13) (pk_cons (pv 8) (pk_cons (pv 12) pk_nil)))) pa_nil))) (pa_cons (pe_lst (pa_cons (pv 14) (pa_cons (pv 14) pa_nil))) pa_nil)))))
        (pss_one (ps_ret pe_bl))
        pss_nil)))))))))))))))))
  (pss_one (ps_ret (pe_call G__law_same (hr.mono (by decide)) (by rfl) T.g__law_same T.F__law_same.kp T.b__law_same .nil pass0 (pa_cons (pe_lst (pa_cons (pe_callK0 G_read_numeral (hr.mono (by decide)) (by rfl) T.g_read_numeral T.F_read_numeral.kp B_read_numeral pass0 (pk_cons pe_str pk_nil)) (pa_cons (pe_call G_read_id (hr.mono (by decide)) (by rfl) T.g_read_id T.F_read_id.kp T.b_read_id .nil pass0 (pa_cons pe_str pa_nil)) (pa_cons (pe_call G_read_id (hr.mono (by decide)) (by rfl) T.g_read_id T.F_read_id.kp T.b_read_id .nil pass0 (pa_cons pe_str pa_nil)) (pa_cons (pe_call G_read_id (hr.mono (by decide)) (by rfl) T.g_read_id T.F_read_id.kp T.b_read_id .nil pass0 (pa_cons pe_str pa_nil)) pa_nil))))) (pa_cons (pe_lst (pa_cons pe_int (pa_cons (pe_tup (pa_cons pe_str (pa_cons pe_int pa_nil))) (pa_cons (pe_tup (pa_cons pe_str (pa_cons pe_int pa_nil))) (pa_cons pe_non pa_nil))))) pa_nil)))))))), ?_⟩
  refine ⟨_, rfl, a, ns, rfl, hS, h63, fun H1 b s1 nb hb => ?_⟩
  refine ⟨_, kwL.map V.str, rfl, .inr (T.q_KEYWORDS _), fun k1 nk1 => ?_⟩
  generalize hX : upd _ k1 _ = H2
  obtain ⟨s2, ek1⟩ := new_at hX nk1
  clear hX
  refine ⟨_, _, .type "tuple", .type "tuple", true, rfl, .ty _, ty_tuple (T.q_KEYWORDS _), kit_ty (by decide +kernel), (by show 3 ≤ sizeLine; decide), fun l1 nl1 => ?_⟩
  generalize hX : upd _ l1 _ = H3
  obtain ⟨s3, el1⟩ := new_at hX nl1
  clear hX
  refine ⟨rfl, fun H4 k2 s4 nk2 ek2 => ⟨(by show 3 ≤ sizeLine; decide), fun l2 nl2 => ?_⟩⟩
  generalize hX : upd _ l2 _ = H5
  obtain ⟨s5, el2⟩ := new_at hX nl2
  clear hX
  refine ⟨_, _, rfl, eqv_list (.inl (.inl (s5 _ _ (s4 _ _ el1)))) (.inl (.inl el2)) (by show 3 < sizeLine; decide) (.cons (eqv_strs (.inl (.inl (s5 _ _ (s4 _ _ (s3 _ _ ek1))))) (.inl (.inl (s5 _ _ ek2))) (by decide +kernel) 0) (.cons (eqv_scal rfl) (.cons (eqv_scal rfl) .nil))), fun H6 s6 => ⟨true, rfl, iteF ?_⟩⟩
  have hb := hb.same (s2.trans (s3.trans (s4.trans (s5.trans s6))))
  clear ek1 el1 ek2 el2
  refine ⟨8, rfl, by decide, by decide, ?_⟩
  refine for_range (lo := 0) (n := 8) (fun i σ H' => ∃ x2 x3 x4 x5 x6 x7 x8 x9 x10 x11 x12 x13 x14, σ = [some (.ref a), some (.ref b), x2, x3, x4, x5, x6, x7, x8, x9, x10, x11, x12, x13, x14] ∧ IsBag H' b) ⟨_, _, _, _, _, _, _, _, _, _, _, _, _, rfl, hb⟩ ?_ ?_
  · clear hb
    rintro i σ H2 hi ⟨x2, x3, x4, x5, x6, x7, x8, x9, x10, x11, x12, x13, x14, rfl, hb⟩
    -- word
    refine ⟨⟨_, rfl⟩, ?_⟩
    refine ⟨_, rfl, b, 9, rfl, hb, by decide, by decide, fun d d0 d1 => ⟨d, rfl, by omega, by omega, fun D nD => ?_⟩⟩
    refine lc_rel walk_range (fun _ y _ => ∃ c : Nat, y = .str ⟨#[c]⟩) (by unfold sizeLine; omega) nD (fun _ _ => trivial) (fun _ _ _ _ _ h => h) ?_ ?_
    · rintro j y H4 H5 R Rn hj s4 nDn ⟨rfl, rfl⟩ hy
      refine ⟨rfl, ?_⟩
      exact ⟨_, rfl, rfl, b, az, rfl, hb.same s4, by rw [az_len]; decide, by rw [az_len]; decide, fun i c hc => hy _ _ (Same.refl _) ⟨c, rfl⟩⟩
    rintro H4 ys s4 ly oks e4
    obtain ⟨ss, rfl, lss⟩ := strs_of (fun i y h => let ⟨c, e⟩ := oks i y h; ⟨_, e⟩)
    have one : ∀ y ∈ ss, y.length ≤ 1 := fun y hy => by
      obtain ⟨i, hi⟩ := List.getElem?_of_mem hy
      obtain ⟨c, e⟩ := oks i (.str y) (by rw [List.getElem?_map, hi] <;> rfl)
      rw [V.str.inj e]
      exact Nat.le_refl 1
    have l8 : ss.length ≤ 8 := by
      rw [lss, ly]
      omega
    refine ⟨Str.ofString "", D, ss, rfl, rfl, .inl (.inl (.inl e4)), ?_, ?_⟩
    · have := sum_len one
      rw [show (Str.ofString "").length = 0 by decide +kernel]
      omega
    have lw : (Txt.join (Str.ofString "") ss).length ≤ 8 := Nat.le_trans (join_len one) l8
    generalize Txt.join (Str.ofString "") ss = word at lw
    clear e4 oks nD one lss ly l8
    have hb := hb.same s4
    have small : ∀ (x : Str), x.length ≤ 1000 → x.length ≤ sizeLine := fun x h => Nat.le_trans h (by decide)
    have hw := small word (by omega)
    have sm2 : ∀ n : Nat, n ≤ 1000 → n ≤ sizeLine := fun n h => Nat.le_trans h (by decide)
    -- bent
    refine ⟨_, rfl, _, rfl, word, rfl, hw, _, _, rfl, rfl, b, _, rfl, hb, by omega, by omega, fun at_ a0 a1 => ?_⟩
    refine ⟨_, rfl, _, rfl, at_, rfl, word, rfl, hw, _, rfl, (by show 6 ≤ sizeLine; decide), fun p np => ?_⟩
    generalize hX : upd _ p _ = H5
    obtain ⟨s5, e5⟩ := new_at hX np
    clear hX
    refine ⟨b, p, _, rfl, hb.same s5, .inl (.inl e5), (by show 0 < 6; decide), (by show 6 ≤ 1000000; decide), fun j v hv => ?_⟩
    obtain ⟨sg, rfl, lsg⟩ := pick_str (n := 1) (by decide +kernel) hv
    have c1 := cutS_len word none (some at_)
    have c2 := cutS_len word (some at_) none
    refine ⟨_, _, rfl, rfl, sm2 _ (by omega), _, rfl, _, rfl, at_, rfl, word, rfl, hw, _, _, rfl, rfl, sm2 _ (by rw [app_len]; omega), ?_⟩
    have lb : (cutS word none (some at_) ++ sg ++ cutS word (some at_) none).length ≤ 30 := by rw [app_len, app_len]; omega
    generalize cutS word none (some at_) ++ sg ++ cutS word (some at_) none = bent at lb ⊢
    have hb := hb.same s5
    clear e5 c1 c2 hv lsg
    -- odd
    refine ⟨_, rfl, b, rfl, hb, fun H6 odd dodd s6 hodd kodd => ?_⟩
    have hb := hb.same s6
    -- names
    refine ⟨_, rfl, _, rfl, _, rfl, ?_⟩
    refine ⟨_, rfl, rfl, fun H7 q1 s7 nq1 eq1 => ⟨b, q1, _, rfl, hb.same s7, .inl (.inl eq1), (by show 0 < 10; decide), (by show 10 ≤ 1000000; decide), fun i1 v1 hv1 => ?_⟩⟩
    obtain ⟨kw1, rfl, lk1⟩ := pick_str (n := 6) (by decide +kernel) hv1
    refine ⟨_, rfl, rfl, fun H8 q2 s8 nq2 eq2 => ⟨b, q2, _, rfl, hb.same (s7.trans s8), .inl (.inl eq2), (by show 0 < 10; decide), (by show 10 ≤ 1000000; decide), fun i2 v2 hv2 => ?_⟩⟩
    obtain ⟨kw2, rfl, lk2⟩ := pick_str (n := 6) (by decide +kernel) hv2
    have ks : (Str.ofString "s").length = 1 := by decide +kernel
    refine ⟨_, _, rfl, rfl, sm2 _ (by omega), ?_⟩
    refine ⟨_, rfl, (by show 1 ≤ sizeLine; decide), fun p1 np1 => ?_⟩
    generalize hX : upd _ p1 _ = H9
    obtain ⟨s9, e9⟩ := new_at hX np1
    clear hX
    refine ⟨_, rfl, (by show 1 ≤ sizeLine; decide), fun p2 np2 => ?_⟩
    generalize hX : upd _ p2 _ = H10
    obtain ⟨s10, e10⟩ := new_at hX np2
    clear hX
    refine ⟨(by show 7 ≤ sizeLine; decide), fun pl npl => ?_⟩
    generalize hX : upd _ pl _ = H11
    obtain ⟨s11, epl⟩ := new_at hX npl
    clear hX
    have u6 := s7.trans (s8.trans (s9.trans (s10.trans s11)))
    have hb := hb.same u6
    have hodd := dp_same u6 hodd
    have it : Items K H11 [.str word, .str bent, odd, .str kw1, .str (kw2 ++ Str.ofString "s"), .ref p1, .ref p2] :=
      .cons (.str _) (.s (by omega)) (.cons (.str _) (.s (by omega)) (.cons hodd kodd (.cons (.str _) (.s (by omega)) (.cons (.str _) (.s (by rw [app_len, ks]; omega))
        (.cons (.tup (.inl (.inl (s11 _ _ (s10 _ _ e9)))) (.cons (.str _) .nil)) (.n (show word.length ≤ 30 by omega) (fun o n e => by cases e))
        (.cons (.lst (.inl (.inl (s11 _ _ e10))) (.cons (.str _) .nil)) (.n trivial (fun o n e => nomatch e)) .nil))))))
    clear eq1 eq2 e9 e10 hv1 hv2
    refine ⟨pl, rfl, ⟨_, .inl (.inl epl)⟩, ?_⟩
    refine for_list (K := K) (a := pl) (xs := [.str word, .str bent, odd, .str kw1, .str (kw2 ++ Str.ofString "s"), .ref p1, .ref p2]) (fun j σ H' => ∃ y2 y4 y5 y8 y9 y10 y11 y12 y13 y14, σ = [some (.ref a), some (.ref b), y2, some (.str word), y4, y5, some (.str bent), some odd, y8, y9, y10, y11, y12, y13, y14] ∧ Same H11 H') ⟨_, _, _, _, _, _, _, _, _, _, rfl, Same.refl _⟩ (fun j σ H' _ ⟨_, _, _, _, _, _, _, _, _, _, _, p⟩ => .inl (.inl (p _ _ epl))) ?_ ?_
    · rintro j v σ H12 hv ⟨y2, y4, y5, y8, y9, y10, y11, y12, y13, y14, rfl, s12⟩
      obtain ⟨dv, hd, kd⟩ := it j v hv
      have hd := dp_same s12 hd
      have kf := fine_one kd.1
      refine ⟨_, rfl, v, dv, rfl, hd, kf, _, rfl, rfl, rfl, v, dv, rfl, hd, kf, (by show 2 ≤ sizeLine; decide), fun l1 nl1 => ?_⟩
      generalize hX : upd _ l1 _ = H13
      obtain ⟨s13, e13⟩ := new_at hX nl1
      clear hX
      refine ⟨_, rfl, v, dv, rfl, dp_same s13 hd, kf, fun H14 s14 => ⟨(by show 1 ≤ sizeLine; decide), fun l2 nl2 => ?_⟩⟩
      generalize hX : upd _ l2 _ = H15
      obtain ⟨s15, e15⟩ := new_at hX nl2
      clear hX
      refine ⟨l2, 2, _, rfl, rfl, e15, by decide, by decide, (by show 2 ≤ sizeLine; decide), fun l3 nl3 => ?_⟩
      generalize hX : upd _ l3 _ = H16
      obtain ⟨s16, e16⟩ := new_at hX nl3
      clear hX
      have u13 := s14.trans (s15.trans s16)
      refine ⟨_, _, rfl, eqv_list (.inl (.inl (u13 _ _ e13))) (ys := [.bl (nameD dv), .bl (nameD dv)]) (.inl (.inl e16)) (by show 2 < sizeLine; decide) (.cons (eqv_scal rfl) (.cons (eqv_scal rfl) .nil)), fun H17 s17 => ⟨true, rfl, iteF ?_⟩⟩
      exact ⟨_, _, _, _, _, _, _, _, _, _, rfl, s12.trans (s13.trans (u13.trans s17))⟩
    rintro σ H12 ⟨y2, y4, y5, y8, y9, y10, y11, y12, y13, y14, rfl, s12⟩
    have hb := hb.same s12
    have hodd := dp_same s12 hodd
    clear it epl
    -- a number
    refine ⟨_, rfl, _, rfl, _, _, rfl, rfl, ⟨by decide, by decide, by decide⟩, b, _, rfl, hb, by decide, by decide, fun dn n0 n1 => ⟨_, _, rfl, rfl, ⟨by decide, by decide, by decide⟩, (by show 8 ≤ sizeLine; decide), fun p np => ?_⟩⟩
    generalize hX : upd _ p _ = H13
    obtain ⟨s13, e13⟩ := new_at hX np
    clear hX
    refine ⟨b, p, _, rfl, hb.same s13, .inl (.inl e13), (by show 0 < 8; decide), (by show 8 ≤ 1000000; decide), fun i3 v3 hv3 => ?_⟩
    have hm : ∃ m : Nat, v3 = .int ((m : Nat) : Int) ∧ m ≤ 1000000000000000000 := by
      have mem := List.mem_of_getElem? hv3
      simp only [List.mem_cons, List.not_mem_nil, or_false] at mem
      have n1' : dn < 1000000000 := n1
      rcases mem with e | e | e | e | e | e | e | e
      · exact ⟨0, e, by decide⟩
      · exact ⟨1, e, by decide⟩
      · exact ⟨9, e, by decide⟩
      · exact ⟨10, e, by decide⟩
      · exact ⟨999999, e, by decide⟩
      · exact ⟨1000000, e, by decide⟩
      · exact ⟨dn.toNat, by rw [e, Int.toNat_of_nonneg n0], by omega⟩
      · exact ⟨1000000000000000000, e, by decide⟩
    obtain ⟨m, rfl, m1⟩ := hm
    have hb := hb.same s13
    have hodd := dp_same s13 hodd
    clear e13 hv3 n0 n1
    -- some ids and others
    refine ⟨_, rfl, _, rfl, (by show 2 ≤ sizeLine; decide), fun a1 na1 => ?_⟩
    generalize hX : upd _ a1 _ = H14
    obtain ⟨s14, ea1⟩ := new_at hX na1
    clear hX
    refine ⟨_, rfl, (by show 2 ≤ sizeLine; decide), fun a2 na2 => ?_⟩
    generalize hX : upd _ a2 _ = H15
    obtain ⟨s15, ea2⟩ := new_at hX na2
    clear hX
    refine ⟨_, rfl, _, rfl, (by show 3 ≤ sizeLine; decide), fun a3 na3 => ?_⟩
    generalize hX : upd _ a3 _ = H16
    obtain ⟨s16, ea3⟩ := new_at hX na3
    clear hX
    refine ⟨_, rfl, _, rfl, (by show 2 ≤ sizeLine; decide), fun a4 na4 => ?_⟩
    generalize hX : upd _ a4 _ = H17
    obtain ⟨s17, ea4⟩ := new_at hX na4
    clear hX
    refine ⟨_, rfl, _, rfl, (by show 2 ≤ sizeLine; decide), fun a5 na5 => ?_⟩
    generalize hX : upd _ a5 _ = H18
    obtain ⟨s18, ea5⟩ := new_at hX na5
    clear hX
    refine ⟨_, rfl, (by show 2 ≤ sizeLine; decide), fun a6 na6 => ?_⟩
    generalize hX : upd _ a6 _ = H19
    obtain ⟨s19, ea6⟩ := new_at hX na6
    clear hX
    refine ⟨_, rfl, _, _, rfl, rfl, _, rfl, _, _, rfl, rfl, (by show 2 ≤ sizeLine; decide), fun a7 na7 => ?_⟩
    generalize hX : upd _ a7 _ = H20
    obtain ⟨s20, ea7⟩ := new_at hX na7
    clear hX
    refine ⟨_, rfl, _, rfl, (by show 2 ≤ sizeLine; decide), fun a8 na8 => ?_⟩
    generalize hX : upd _ a8 _ = H21
    obtain ⟨s21, ea8⟩ := new_at hX na8
    clear hX
    refine ⟨_, rfl, _, rfl, (by show 10 ≤ sizeLine; decide), fun pl npl => ?_⟩
    generalize hX : upd _ pl _ = H22
    obtain ⟨s22, epl⟩ := new_at hX npl
    clear hX
    have v8 := s22
    have v7 := s21.trans v8
    have v6 := s20.trans v7
    have v5 := s19.trans v6
    have v4 := s18.trans v5
    have v3 := s17.trans v4
    have v2 := s16.trans v3
    have v1 := s15.trans v2
    have v0 := s14.trans v1
    have hb := hb.same v0
    have hodd := dp_same v0 hodd
    have wl : word.length ≤ 30 := by omega
    have it : Items K H22 [.ref a1, .ref a2, .ref a3, .ref a4, .ref a5, .ref a6, .ref a7, .ref a8, odd, .str word] :=
      .cons (.tup (.inl (.inl (v1 _ _ ea1))) (.cons (.str _) (.cons (.int _) .nil))) (.t wl (by omega))
      (.cons (.tup (.inl (.inl (v2 _ _ ea2))) (.cons (.str _) (.cons (.int _) .nil))) (.t (by decide +kernel) (by omega))
      (.cons (.tup (.inl (.inl (v3 _ _ ea3))) (.cons (.str _) (.cons (.int _) (.cons (.int _) .nil)))) (.n wl (fun o n e => by cases e))
      (.cons (.lst (.inl (.inl (v4 _ _ ea4))) (.cons (.str _) (.cons (.int _) .nil))) (.n trivial (fun o n e => nomatch e))
      (.cons (.tup (.inl (.inl (v5 _ _ ea5))) (.cons (.str _) (.cons (.int _) .nil))) (.t lb (by omega))
      (.cons (.tup (.inl (.inl (v6 _ _ ea6))) (.cons (.str _) (.cons (.bl _) .nil))) (.n wl (fun o n e => by cases e))
      (.cons (.tup (.inl (.inl (v7 _ _ ea7))) (.cons (.str _) (.cons (.int _) .nil))) (.t wl (by omega))
      (.cons (.tup (.inl (.inl (v8 _ _ ea8))) (.cons (.int _) (.cons (.str _) .nil))) (.n trivial (fun o n e => by cases e))
      (.cons hodd kodd (.cons (.str _) (.s wl) .nil)))))))))
    clear ea1 ea2 ea3 ea4 ea5 ea6 ea7 ea8
    refine ⟨_, rfl, pl, rfl, ⟨_, .inl (.inl epl)⟩, ?_⟩
    refine for_list (K := K) (a := pl) (xs := [.ref a1, .ref a2, .ref a3, .ref a4, .ref a5, .ref a6, .ref a7, .ref a8, odd, .str word]) (fun j σ H' => ∃ y2 y4 y5 y8 y10 y11 y12 y13 y14, σ = [some (.ref a), some (.ref b), y2, some (.str word), y4, y5, some (.str bent), some odd, y8, some (.int ((m : Nat) : Int)), y10, y11, y12, y13, y14] ∧ Same H22 H') ⟨_, _, _, _, _, _, _, _, _, rfl, Same.refl _⟩ (fun j σ H' _ ⟨_, _, _, _, _, _, _, _, _, _, p⟩ => .inl (.inl (p _ _ epl))) ?_ ?_
    · rintro j v σ H23 hv ⟨y2, y4, y5, y8, y10, y11, y12, y13, y14, rfl, s23⟩
      obtain ⟨dv, hd, kd⟩ := it j v hv
      have hd := dp_same s23 hd
      refine ⟨_, rfl, v, dv, rfl, hd, kd.1, _, rfl, rfl, rfl, v, dv, rfl, hd, kd.1, (by show 2 ≤ sizeLine; decide), fun l1 nl1 => ?_⟩
      generalize hX : upd _ l1 _ = H24
      obtain ⟨s24, e24⟩ := new_at hX nl1
      clear hX
      refine ⟨_, rfl, v, dv, rfl, dp_same s24 hd, kd.1, fun H25 s25 => ⟨(by show 1 ≤ sizeLine; decide), fun l2 nl2 => ?_⟩⟩
      generalize hX : upd _ l2 _ = H26
      obtain ⟨s26, e26⟩ := new_at hX nl2
      clear hX
      refine ⟨l2, 2, _, rfl, rfl, e26, by decide, by decide, (by show 2 ≤ sizeLine; decide), fun l3 nl3 => ?_⟩
      generalize hX : upd _ l3 _ = H27
      obtain ⟨s27, e27⟩ := new_at hX nl3
      clear hX
      have u24 := s25.trans (s26.trans s27)
      refine ⟨_, _, rfl, eqv_list (.inl (.inl (u24 _ _ e24))) (ys := [.bl (idD dv), .bl (idD dv)]) (.inl (.inl e27)) (by show 2 < sizeLine; decide) (.cons (eqv_scal rfl) (.cons (eqv_scal rfl) .nil)), fun H28 s28 => ⟨true, rfl, iteF ?_⟩⟩
      have u23 := s24.trans (u24.trans s28)
      have hd := dp_same u23 hd
      refine ⟨_, rfl, v, dv, rfl, hd, kd.1, fun H29 s29 => ⟨_, rfl, ?_⟩⟩
      have fin : ∀ H', Same H29 H' → Same H22 H' := fun H' s => s23.trans (u23.trans (s29.trans s))
      have hd := dp_same s29 hd
      cases hid : idD dv
      · exact iteF (iteF ⟨_, _, _, _, _, _, _, _, _, rfl, fin _ (Same.refl _)⟩)
      obtain ⟨pv, o, n, rfl, sq, ow, rfl⟩ := idD_tup hd hid
      have o6 := own_len ow
      have nb : ((n : Nat) : Int) ≤ 1000000000000000000 := kd.2 _ _ rfl
      have tl : (Str.ofString (toString ((n : Nat) : Int))).length ≤ 19 := PyProof.Rows.toString_length_le (by omega) (by decide) (show ((n : Nat) : Int) < 10 ^ 19 by omega)
      have dl : dotS.length = 1 := by decide +kernel
      have dl2 : (Str.ofString ".").length = 1 := by decide +kernel
      have lt : (o ++ dotS ++ Str.ofString (toString ((n : Nat) : Int))).length ≤ 30 := by rw [app_len, app_len, dl]; omega
      refine iteT ?_
      refine ⟨_, rfl, pv, o, _, rfl, sq, (by omega), (by omega), nb, ?_⟩
      refine ⟨_, rfl, rfl, rfl, pv, o, _, rfl, sq, (by omega), (by omega), nb, ?_⟩
      refine ⟨.str _, .str _, rfl, .str _, lt, fun H30 w s30 rw_ => ?_⟩
      refine ⟨(by show 2 ≤ sizeLine; decide), fun l4 nl4 => ?_⟩
      generalize hX : upd _ l4 _ = H31
      obtain ⟨s31, e31⟩ := new_at hX nl4
      clear hX
      have sq31 := Same.seqT (s30.trans s31) sq
      refine ⟨_, rfl, pv, _, 0, .str o, rfl, rfl, sq31, rfl, _, _, rfl, rfl, sm2 _ (by rw [dl2]; omega), _, rfl, pv, _, 1, .int ((n : Nat) : Int), rfl, rfl, sq31, rfl, ((n : Nat) : Int), rfl, log_19 (by omega) nb, _, _, rfl, rfl, sm2 _ (by rw [app_len, dl2]; omega), _, rfl, (by show 2 ≤ sizeLine; decide), fun l5 nl5 => ?_⟩
      generalize hX : upd _ l5 _ = H32
      obtain ⟨s32, e32⟩ := new_at hX nl5
      clear hX
      have rd : ∃ pr, w = .ref pr ∧ H30 pr = some (.tup [.str o, .int ((n : Nat) : Int)]) := by
        unfold RdV at rw_
        rw [idOf_text ow] at rw_
        exact rw_
      obtain ⟨pr, rfl, er⟩ := rd
      refine ⟨_, _, rfl, eqv_list (.inl (.inl (s32 _ _ e31))) (.inl (.inl e32)) (by show 2 < sizeLine; decide) (.cons (eqv_scal rfl) (.cons (eqv_tup (.inl (.inl (s32 _ _ (s31 _ _ er)))) (Same.seqT s32 sq31) (by show 2 < sizeLine; decide) (.cons (eqv_scal rfl) (.cons (eqv_scal rfl) .nil))) .nil)), fun H33 s33 => ⟨true, rfl, iteF ?_⟩⟩
      exact ⟨_, _, _, _, _, _, _, _, _, rfl, fin _ (s30.trans (s31.trans (s32.trans s33)))⟩
    rintro σ H23 ⟨y2, y4, y5, y8, y10, y11, y12, y13, y14, rfl, s23⟩
    have hb := hb.same s23
    have hodd := dp_same s23 hodd
    clear it epl
    -- digits
    have nl : (Str.ofString (toString ((m : Nat) : Int))).length ≤ 19 := PyProof.Rows.toString_length_le (by omega) (by decide) (show ((m : Nat) : Int) < 10 ^ 19 by omega)
    have l0 : (Str.ofString "0").length = 1 := by decide +kernel
    refine ⟨_, rfl, _, rfl, ((m : Nat) : Int), rfl, log_19 (by omega) (by omega), _, rfl, ((m : Nat) : Int), rfl, log_19 (by omega) (by omega), _, _, rfl, rfl, sm2 _ (by rw [l0]; exact Nat.le_trans (Nat.add_le_add_left nl 1) (by decide)), ?_⟩
    refine ⟨_, rfl, _, _, rfl, rfl, ⟨by decide, by decide, by decide⟩, b, _, rfl, hb, by decide, by decide, fun dm m0 m2 => ⟨dm, rfl, log_19 m0 (by have : dm < 1000000 := m2; omega), (by show 13 ≤ sizeLine; decide), fun p np => ?_⟩⟩
    generalize hX : upd _ p _ = H24
    obtain ⟨s24, e24⟩ := new_at hX np
    clear hX
    refine ⟨b, p, _, rfl, hb.same s24, .inl (.inl e24), (by show 0 < 13; decide), (by show 13 ≤ 1000000; decide), fun i4 v4 hv4 => ?_⟩
    have hdg : ∃ z : Str, v4 = .str z ∧ z.length ≤ 20 := by
      have mem := List.mem_of_getElem? hv4
      simp only [List.mem_cons, List.not_mem_nil, or_false] at mem
      have dml : (Str.ofString (toString dm)).length ≤ 6 := num_len m0 m2
      rcases mem with e | e | e | e | e | e | e | e | e | e | e | e | e
      · exact ⟨_, e, Nat.le_trans nl (by decide)⟩
      · exact ⟨_, e, by rw [app_len, l0]; exact Nat.le_trans (Nat.add_le_add_left nl 1) (by decide)⟩
      · exact ⟨_, e, by decide +kernel⟩
      · exact ⟨_, e, by decide +kernel⟩
      · exact ⟨_, e, by decide +kernel⟩
      · exact ⟨_, e, by decide +kernel⟩
      · exact ⟨_, e, by decide +kernel⟩
      · exact ⟨_, e, by decide +kernel⟩
      · exact ⟨_, e, Nat.le_trans dml (by decide)⟩
      · exact ⟨_, e, by decide +kernel⟩
      · exact ⟨_, e, by decide +kernel⟩
      · exact ⟨_, e, by decide +kernel⟩
      · exact ⟨_, e, by decide +kernel⟩
    obtain ⟨dg, rfl, ldg⟩ := hdg
    have hb := hb.same s24
    have hodd := dp_same s24 hodd
    clear e24 hv4 m0 m2
    have k1 : (Str.ofString ".").length = 1 := by decide +kernel
    have k2 : (Str.ofString "..").length = 2 := by decide +kernel
    refine ⟨_, rfl, _, rfl, _, _, rfl, rfl, sm2 _ (by rw [k1]; omega), _, rfl, _, _, rfl, rfl, sm2 _ (by rw [app_len, k1]; omega), _, rfl, _, _, rfl, rfl, sm2 _ (by rw [k1]; omega), _, rfl, _, _, rfl, rfl, sm2 _ (by rw [k1]; omega), _, rfl, _, rfl, _, _, rfl, rfl, sm2 _ (by omega), _, rfl, _, rfl, _, rfl, _, _, rfl, rfl, sm2 _ (by rw [k2]; omega), _, rfl, _, _, rfl, rfl, sm2 _ (by rw [app_len, k2]; omega), (by show 10 ≤ sizeLine; decide), fun pl npl => ?_⟩
    generalize hX : upd _ pl _ = H25
    obtain ⟨s25, epl⟩ := new_at hX npl
    clear hX
    have hb := hb.same s25
    have hodd := dp_same s25 hodd
    have it : Items K H25 [.str dg, .str (word ++ Str.ofString "." ++ dg), .str (Str.ofString "." ++ dg), .str (dg ++ Str.ofString "."), .str (word ++ dg), .str bent, odd, .non, .int 3, .str (word ++ Str.ofString ".." ++ dg)] :=
      .cons (.str _) (.s (by omega)) (.cons (.str _) (.s (by rw [app_len, app_len, k1]; omega)) (.cons (.str _) (.s (by rw [app_len, k1]; omega)) (.cons (.str _) (.s (by rw [app_len, k1]; omega)) (.cons (.str _) (.s (by rw [app_len]; omega)) (.cons (.str _) (.s lb)
        (.cons hodd kodd (.cons .non (.n trivial (fun o n e => nomatch e)) (.cons (.int _) (.n trivial (fun o n e => nomatch e)) (.cons (.str _) (.s (by rw [app_len, app_len, k2]; omega)) .nil)))))))))
    refine ⟨pl, rfl, ⟨_, .inl (.inl epl)⟩, ?_⟩
    refine for_list (K := K) (a := pl) (xs := [.str dg, .str (word ++ Str.ofString "." ++ dg), .str (Str.ofString "." ++ dg), .str (dg ++ Str.ofString "."), .str (word ++ dg), .str bent, odd, .non, .int 3, .str (word ++ Str.ofString ".." ++ dg)]) (fun j σ H' => ∃ y2 y3 y4 y5 y6 y8 y9 y10 y11 y12 y13 y14, σ = [some (.ref a), some (.ref b), y2, y3, y4, y5, y6, some odd, y8, y9, y10, y11, y12, y13, y14] ∧ Same H25 H') ⟨_, _, _, _, _, _, _, _, _, _, _, _, rfl, Same.refl _⟩ (fun j σ H' _ ⟨_, _, _, _, _, _, _, _, _, _, _, _, _, p⟩ => .inl (.inl (p _ _ epl))) ?_ ?_
    · rintro j v σ H26 hv ⟨y2, y3, y4, y5, y6, y8, y9, y10, y11, y12, y13, y14, rfl, s26⟩
      obtain ⟨dv, hd, kd⟩ := it j v hv
      have hd := dp_same s26 hd
      have kf := fine_one kd.1
      refine ⟨_, rfl, v, dv, rfl, hd, kf, ?_⟩
      refine ⟨_, rfl, v, dv, rfl, hd, kf, fun H27 r1 s27 rd1 => ?_⟩
      have hd := dp_same s27 hd
      refine ⟨_, rfl, rfl, rfl, v, dv, rfl, hd, kf, fun H28 r2 s28 rd2 => ?_⟩
      have hd := dp_same s28 hd
      refine ⟨(by show 3 ≤ sizeLine; decide), fun l1 nl1 => ?_⟩
      generalize hX : upd _ l1 _ = H29
      obtain ⟨s29, e29⟩ := new_at hX nl1
      clear hX
      have hd := dp_same s29 hd
      refine ⟨_, rfl, v, dv, 6, rfl, hd, kf, fun H30 s30 => ?_⟩
      have hd := dp_same s30 hd
      refine ⟨_, rfl, v, dv, rfl, hd, kf, fun H31 r3 s31 rd3 => ?_⟩
      have hd := dp_same s31 hd
      refine ⟨_, rfl, v, dv, rfl, hd, kf, fun H32 r4 s32 rd4 => ?_⟩
      refine ⟨(by show 3 ≤ sizeLine; decide), fun l2 nl2 => ?_⟩
      generalize hX : upd _ l2 _ = H33
      obtain ⟨s33, e33⟩ := new_at hX nl2
      clear hX
      have w32 := s33
      have w31 := s32.trans w32
      have w29 := s30.trans (s31.trans w31)
      have w28 := s29.trans w29
      have w27 := s28.trans w28
      refine ⟨_, _, rfl, eqv_list (.inl (.inl (w29 _ _ e29))) (.inl (.inl e33)) (by show 3 < sizeLine; decide) (.cons (eqv_scal (num_scal 6 dv)) (.cons (rd_eqv (rd1.same w27) (rd3.same w31)) (.cons (rd_eqv (rd2.same w28) (rd4.same w32)) .nil))), fun H34 s34 => ⟨true, rfl, iteF ?_⟩⟩
      exact ⟨_, _, _, _, _, _, _, _, _, _, _, _, rfl, s26.trans (s27.trans (w27.trans s34))⟩
    rintro σ H26 ⟨y2, y3, y4, y5, y6, y8, y9, y10, y11, y12, y13, y14, rfl, s26⟩
    have hb := hb.same s26
    have hodd := dp_same s26 hodd
    clear it epl
    -- numbers between
    refine ⟨_, rfl, b, 20, rfl, hb, by decide, by decide, fun f1 f10 f11 => ⟨_, _, rfl, rfl, _, rfl, b, 20, rfl, hb, by decide, by decide, fun f2 f20 f21 => ⟨_, _, rfl, rfl, .int (f1 - 10), .int (f2 - 5), rfl, ?_⟩⟩⟩
    have lz : (Str.ofString (toString (f1 - 10))).length ≤ 30 := by
      have q : ∀ k : Fin 20, (Str.ofString (toString ((k.1 : Int) - 10))).length ≤ 30 := by decide +kernel
      have := q ⟨f1.toNat, by omega⟩
      rwa [show ((f1.toNat : Nat) : Int) = f1 by omega] at this
    have lg : (f1 - 10).natAbs.log2 < 1920 := log_small (by omega)
    generalize f1 - 10 = lo at lz lg ⊢
    generalize f2 - 5 = hi
    refine ⟨_, rfl, _, rfl, _, rfl, _, _, rfl, rfl, _, rfl, _, _, rfl, rfl, _, rfl, b, 30, rfl, hb, by decide, by decide, fun f3 f30 f31 => ⟨_, _, rfl, rfl, _, rfl, lo, rfl, lg, _, rfl, (by show 1 ≤ sizeLine; decide), fun pt npt => ?_⟩⟩
    generalize hX : upd _ pt _ = H27
    obtain ⟨s27, ept⟩ := new_at hX npt
    clear hX
    refine ⟨_, rfl, (by show 11 ≤ sizeLine; decide), fun pl npl => ?_⟩
    generalize hX : upd _ pl _ = H28
    obtain ⟨s28, epl⟩ := new_at hX npl
    clear hX
    have hb := hb.same (s27.trans s28)
    have hodd := dp_same (s27.trans s28) hodd
    have it : Items K H28 [.int lo, .int hi, .int (lo - 1), .int (hi + 1), .int (f3 - 15), .bl true, .bl false, .non, .str (Str.ofString (toString lo)), .ref pt, odd] :=
      .cons (.int _) (.n trivial (fun o n e => nomatch e)) (.cons (.int _) (.n trivial (fun o n e => nomatch e)) (.cons (.int _) (.n trivial (fun o n e => nomatch e)) (.cons (.int _) (.n trivial (fun o n e => nomatch e)) (.cons (.int _) (.n trivial (fun o n e => nomatch e))
      (.cons (.bl _) (.n trivial (fun o n e => nomatch e)) (.cons (.bl _) (.n trivial (fun o n e => nomatch e)) (.cons .non (.n trivial (fun o n e => nomatch e)) (.cons (.str _) (.s lz)
      (.cons (.tup (.inl (.inl (s28 _ _ ept))) (.cons (.int _) .nil)) (.n trivial (fun o n e => by cases e)) (.cons hodd kodd .nil))))))))))
    refine ⟨pl, rfl, ⟨_, .inl (.inl epl)⟩, ?_⟩
    refine for_list (K := K) (a := pl) (xs := [.int lo, .int hi, .int (lo - 1), .int (hi + 1), .int (f3 - 15), .bl true, .bl false, .non, .str (Str.ofString (toString lo)), .ref pt, odd]) (fun j σ H' => ∃ y2 y3 y4 y5 y6 y7 y8 y9 y10 y11 y14, σ = [some (.ref a), some (.ref b), y2, y3, y4, y5, y6, y7, y8, y9, y10, y11, some (.int lo), some (.int hi), y14] ∧ Same H28 H') ⟨_, _, _, _, _, _, _, _, _, _, _, rfl, Same.refl _⟩ (fun j σ H' _ ⟨_, _, _, _, _, _, _, _, _, _, _, _, p⟩ => .inl (.inl (p _ _ epl))) ?_ ?_
    · rintro j v σ H29 hv ⟨y2, y3, y4, y5, y6, y7, y8, y9, y10, y11, y14, rfl, s29⟩
      obtain ⟨dv, hd, kd⟩ := it j v hv
      have hd := dp_same s29 hd
      refine ⟨fun σ' H' => σ' = [some (.ref a), some (.ref b), y2, y3, y4, y5, y6, y7, some v, y9, y10, y11, some (.int lo), some (.int hi), some (.bl (inD lo hi dv))] ∧ H29 = H', ?_, ?_⟩
      · refine ⟨_, rfl, _, _, .type (tyD dv), .type "int", isIntD dv, rfl, .ty _, ty_dp hd, kit_ty (kit_int dv (dp_nodict hd)), _, rfl, ?_⟩
        cases hd with
        | int i =>
          refine iteT ⟨_, rfl, _, _, .type "int", .type "bool", false, rfl, .ty _, .base (.int _), kit_ty (by decide +kernel), _, rfl, _, rfl, ?_⟩
          refine iteT ⟨_, rfl, _, rfl, _, _, rfl, rfl, _, rfl, ?_⟩
          show if decide (lo ≤ i) = true then _ else _
          cases hl : decide (lo ≤ i)
          · refine iteF ⟨?_, rfl⟩
            rw [show inD lo hi (.int i) = (decide (lo ≤ i) && decide (i ≤ hi)) from rfl, hl]
            rfl
          · refine iteT ⟨_, rfl, _, rfl, _, _, rfl, rfl, ?_, rfl⟩
            rw [show inD lo hi (.int i) = (decide (lo ≤ i) && decide (i ≤ hi)) from rfl, hl]
            rfl
        | bl b => exact iteT ⟨_, rfl, _, _, .type "bool", .type "bool", true, rfl, .ty _, .base (.bl _), kit_ty (by decide +kernel), _, rfl, _, rfl, iteF ⟨rfl, rfl⟩⟩
        | str z => exact iteF ⟨rfl, rfl⟩
        | non => exact iteF ⟨rfl, rfl⟩
        | lst _ _ => exact iteF ⟨rfl, rfl⟩
        | tup _ _ => exact iteF ⟨rfl, rfl⟩
      rintro σ' H' ⟨rfl, rfl⟩
      refine ⟨_, rfl, _, rfl, _, rfl, v, dv, lo, hi, rfl, hd, ?_⟩
      refine ⟨_, rfl, _, rfl, _, rfl, rfl, rfl, v, dv, lo, hi, rfl, hd, (by show 2 ≤ sizeLine; decide), fun l1 nl1 => ?_⟩
      generalize hX : upd _ l1 _ = H30
      obtain ⟨s30, e30⟩ := new_at hX nl1
      clear hX
      refine ⟨_, rfl, _, rfl, (by show 2 ≤ sizeLine; decide), fun l2 nl2 => ?_⟩
      generalize hX : upd _ l2 _ = H31
      obtain ⟨s31, e31⟩ := new_at hX nl2
      clear hX
      refine ⟨_, _, rfl, eqv_list (.inl (.inl (s31 _ _ e30))) (.inl (.inl e31)) (by show 2 < sizeLine; decide) (.cons (eqv_scal rfl) (.cons (eqv_scal rfl) .nil)), fun H32 s32 => ⟨true, rfl, iteF ?_⟩⟩
      exact ⟨_, _, _, _, _, _, _, _, _, _, _, rfl, s29.trans (s30.trans (s31.trans s32))⟩
    rintro σ H29 ⟨y2, y3, y4, y5, y6, y7, y8, y9, y10, y11, y14, rfl, s29⟩
    exact ⟨_, _, _, _, _, _, _, _, _, _, _, _, _, rfl, hb.same s29⟩
  · rintro σ H2 ⟨x2, x3, x4, x5, x6, x7, x8, x9, x10, x11, x12, x13, x14, rfl, hb⟩
    have i1 : numD 6 (.str (Str.ofString "42")) = .int 42 := by decide +kernel
    have i2 : idOf (.str (Str.ofString ".12")) = some (Str.ofString "", 12) := by decide +kernel
    have i3 : idOf (.str (Str.ofString "ann.3")) = some (Str.ofString "ann", 3) := by decide +kernel
    have i4 : idOf (.str (Str.ofString "let.3")) = none := by decide +kernel
    refine ⟨rfl, rfl, .str _, .str _, rfl, .str _, (show (Str.ofString "42").length ≤ 30 by decide +kernel), ?_⟩
    rw [i1]
    refine ⟨.str _, .str _, rfl, .str _, (show (Str.ofString ".12").length ≤ 30 by decide +kernel), fun H3 r1 s3 rd1 => ?_⟩
    refine ⟨.str _, .str _, rfl, .str _, (show (Str.ofString "ann.3").length ≤ 30 by decide +kernel), fun H4 r2 s4 rd2 => ?_⟩
    refine ⟨.str _, .str _, rfl, .str _, (show (Str.ofString "let.3").length ≤ 30 by decide +kernel), fun H5 r3 s5 rd3 => ?_⟩
    refine ⟨(by show 4 ≤ sizeLine; decide), fun l1 nl1 => ?_⟩
    generalize hX : upd _ l1 _ = H6
    obtain ⟨s6, e6⟩ := new_at hX nl1
    clear hX
    refine ⟨(by show 2 ≤ sizeLine; decide), fun t1 nt1 => ?_⟩
    generalize hX : upd _ t1 _ = H7
    obtain ⟨s7, e7⟩ := new_at hX nt1
    clear hX
    refine ⟨(by show 2 ≤ sizeLine; decide), fun t2 nt2 => ?_⟩
    generalize hX : upd _ t2 _ = H8
    obtain ⟨s8, e8⟩ := new_at hX nt2
    clear hX
    refine ⟨(by show 4 ≤ sizeLine; decide), fun l2 nl2 => ?_⟩
    generalize hX : upd _ l2 _ = H9
    obtain ⟨s9, e9⟩ := new_at hX nl2
    clear hX
    have w7 := s8.trans s9
    have w6 := s7.trans w7
    have w5 := s6.trans w6
    have w4 := s5.trans w5
    have w3 := s4.trans w4
    have g1 : RdV K H9 (.str (Str.ofString ".12")) (.ref t1) := by
      unfold RdV
      rw [i2]
      exact ⟨t1, rfl, w7 _ _ e7⟩
    have g2 : RdV K H9 (.str (Str.ofString "ann.3")) (.ref t2) := by
      unfold RdV
      rw [i3]
      exact ⟨t2, rfl, s9 _ _ e8⟩
    have g3 : RdV K H9 (.str (Str.ofString "let.3")) .non := by
      unfold RdV
      rw [i4]
    exact ⟨_, _, rfl, eqv_list (.inl (.inl (w6 _ _ e6))) (.inl (.inl e9)) (by show 4 < sizeLine; decide) (.cons (eqv_scal rfl) (.cons (rd_eqv (rd1.same w3) g1) (.cons (rd_eqv (rd2.same w4) g2) (.cons (rd_eqv (rd3.same w5) g3) .nil)))), fun H10 _ => q H10⟩

end
end Kx
/-! part K01k -/
namespace Kx
open PySem PySem.Spec PyProof.Rows L2 My
theorem all_mk {l : PySem.W.OpenLaw} {w : World} {K : PySem.W.Frag} {h : Heap} {mg : Str → Option Value} {fa : Addr} (X : K.In h) (G : h.Ns mainGlobals mg) (hfa : mg "law" = some (.ref fa))
    {f0 : Addr} {od0 an0 : Option Addr} {sl0 : Array (Option Value)} {oc0 kV0 dc0 pm0 cd0 ct0 : Value}
    {f1 : Addr} {od1 an1 : Option Addr} {sl1 : Array (Option Value)} {oc1 kV1 dc1 pm1 cd1 ct1 : Value}
    {f2 : Addr} {od2 an2 : Option Addr} {sl2 : Array (Option Value)} {oc2 kV2 dc2 pm2 cd2 ct2 : Value}
    {f3 : Addr} {od3 an3 : Option Addr} {sl3 : Array (Option Value)} {oc3 kV3 dc3 pm3 cd3 ct3 : Value}
    {f4 : Addr} {od4 an4 : Option Addr} {sl4 : Array (Option Value)} {oc4 kV4 dc4 pm4 cd4 ct4 : Value}
    {f5 : Addr} {od5 an5 : Option Addr} {sl5 : Array (Option Value)} {oc5 kV5 dc5 pm5 cd5 ct5 : Value}
    {f6 : Addr} {od6 an6 : Option Addr} {sl6 : Array (Option Value)} {oc6 kV6 dc6 pm6 cd6 ct6 : Value}
    {f7 : Addr} {od7 an7 : Option Addr} {sl7 : Array (Option Value)} {oc7 kV7 dc7 pm7 cd7 ct7 : Value}
    {f8 : Addr} {od8 an8 : Option Addr} {sl8 : Array (Option Value)} {oc8 kV8 dc8 pm8 cd8 ct8 : Value}
    {f9 : Addr} {od9 an9 : Option Addr} {sl9 : Array (Option Value)} {oc9 kV9 dc9 pm9 cd9 ct9 : Value}
    {f10 : Addr} {od10 an10 : Option Addr} {sl10 : Array (Option Value)} {oc10 kV10 dc10 pm10 cd10 ct10 : Value}
    {f11 : Addr} {od11 an11 : Option Addr} {sl11 : Array (Option Value)} {oc11 kV11 dc11 pm11 cd11 ct11 : Value}
    {f12 : Addr} {od12 an12 : Option Addr} {sl12 : Array (Option Value)} {oc12 kV12 dc12 pm12 cd12 ct12 : Value}
    {f13 : Addr} {od13 an13 : Option Addr} {sl13 : Array (Option Value)} {oc13 kV13 dc13 pm13 cd13 ct13 : Value}
    {f14 : Addr} {od14 an14 : Option Addr} {sl14 : Array (Option Value)} {oc14 kV14 dc14 pm14 cd14 ct14 : Value}
    {f15 : Addr} {od15 an15 : Option Addr} {sl15 : Array (Option Value)} {oc15 kV15 dc15 pm15 cd15 ct15 : Value}
    {f16 : Addr} {od16 an16 : Option Addr} {sl16 : Array (Option Value)} {oc16 kV16 dc16 pm16 cd16 ct16 : Value}
    {f17 : Addr} {od17 an17 : Option Addr} {sl17 : Array (Option Value)} {oc17 kV17 dc17 pm17 cd17 ct17 : Value}
    {f18 : Addr} {od18 an18 : Option Addr} {sl18 : Array (Option Value)} {oc18 kV18 dc18 pm18 cd18 ct18 : Value}
    {f19 : Addr} {od19 an19 : Option Addr} {sl19 : Array (Option Value)} {oc19 kV19 dc19 pm19 cd19 ct19 : Value}
    {f20 : Addr} {od20 an20 : Option Addr} {sl20 : Array (Option Value)} {oc20 kV20 dc20 pm20 cd20 ct20 : Value}
    {f21 : Addr} {od21 an21 : Option Addr} {sl21 : Array (Option Value)} {oc21 kV21 dc21 pm21 cd21 ct21 : Value}
    {a_KEYWORDS : Addr} {od_KEYWORDS : Option Addr} {it_KEYWORDS : Array Value} {n_KEYWORDS : Nat} {sl_KEYWORDS : Array (Option Value)}
    {t_LIMIT : Tok}
    {t_LONGEST_NAME : Tok}
    {t_LONGEST_NUMERAL : Tok}
    (a0 : PySem.W.nsIn K mainGlobals "is_name" = some (some (.ref f0))) (l0 : K.lookup f0 = some ⟨oc0, od0, .func (PySem.W.fnOf "is_name" "is_name" (defArgs s_is_name) (defBody s_is_name) (defScope s_is_name) .none kV0 dc0 pm0 an0 cd0 ct0), sl0⟩) (c0 : PySem.W.codeIn K cd0 "is_name" = true) (k0 : PySem.W.keepIn K (.ref f0) = true)
    (a1 : PySem.W.nsIn K mainGlobals "is_number" = some (some (.ref f1))) (l1 : K.lookup f1 = some ⟨oc1, od1, .func (PySem.W.fnOf "is_number" "is_number" (defArgs s_is_number) (defBody s_is_number) (defScope s_is_number) .none kV1 dc1 pm1 an1 cd1 ct1), sl1⟩) (c1 : PySem.W.codeIn K cd1 "is_number" = true) (k1 : PySem.W.keepIn K (.ref f1) = true)
    (a2 : PySem.W.nsIn K mainGlobals "is_integer" = some (some (.ref f2))) (l2 : K.lookup f2 = some ⟨oc2, od2, .func (PySem.W.fnOf "is_integer" "is_integer" (defArgs s_is_integer) (defBody s_is_integer) (defScope s_is_integer) .none kV2 dc2 pm2 an2 cd2 ct2), sl2⟩) (c2 : PySem.W.codeIn K cd2 "is_integer" = true) (k2 : PySem.W.keepIn K (.ref f2) = true)
    (a3 : PySem.W.nsIn K mainGlobals "is_id" = some (some (.ref f3))) (l3 : K.lookup f3 = some ⟨oc3, od3, .func (PySem.W.fnOf "is_id" "is_id" (defArgs s_is_id) (defBody s_is_id) (defScope s_is_id) .none kV3 dc3 pm3 an3 cd3 ct3), sl3⟩) (c3 : PySem.W.codeIn K cd3 "is_id" = true) (k3 : PySem.W.keepIn K (.ref f3) = true)
    (a4 : PySem.W.nsIn K mainGlobals "is_owner" = some (some (.ref f4))) (l4 : K.lookup f4 = some ⟨oc4, od4, .func (PySem.W.fnOf "is_owner" "is_owner" (defArgs s_is_owner) (defBody s_is_owner) (defScope s_is_owner) .none kV4 dc4 pm4 an4 cd4 ct4), sl4⟩) (c4 : PySem.W.codeIn K cd4 "is_owner" = true) (k4 : PySem.W.keepIn K (.ref f4) = true)
    (a5 : PySem.W.nsIn K mainGlobals "id_text" = some (some (.ref f5))) (l5 : K.lookup f5 = some ⟨oc5, od5, .func (PySem.W.fnOf "id_text" "id_text" (defArgs s_id_text) (defBody s_id_text) (defScope s_id_text) .none kV5 dc5 pm5 an5 cd5 ct5), sl5⟩) (c5 : PySem.W.codeIn K cd5 "id_text" = true) (k5 : PySem.W.keepIn K (.ref f5) = true)
    (a6 : PySem.W.nsIn K mainGlobals "read_id" = some (some (.ref f6))) (l6 : K.lookup f6 = some ⟨oc6, od6, .func (PySem.W.fnOf "read_id" "read_id" (defArgs s_read_id) (defBody s_read_id) (defScope s_read_id) .none kV6 dc6 pm6 an6 cd6 ct6), sl6⟩) (c6 : PySem.W.codeIn K cd6 "read_id" = true) (k6 : PySem.W.keepIn K (.ref f6) = true)
    (a7 : PySem.W.nsIn K mainGlobals "read_numeral" = some (some (.ref f7))) (l7 : K.lookup f7 = some ⟨oc7, od7, .func (PySem.W.fnOf "read_numeral" "read_numeral" (defArgs s_read_numeral) (defBody s_read_numeral) (defScope s_read_numeral) .none kV7 dc7 pm7 an7 cd7 ct7), sl7⟩) (c7 : PySem.W.codeIn K cd7 "read_numeral" = true) (k7 : PySem.W.keepIn K (.ref f7) = true)
    (a8 : PySem.W.nsIn K mainGlobals "is_plain_number" = some (some (.ref f8))) (l8 : K.lookup f8 = some ⟨oc8, od8, .func (PySem.W.fnOf "is_plain_number" "is_plain_number" (defArgs s_is_plain_number) (defBody s_is_plain_number) (defScope s_is_plain_number) .none kV8 dc8 pm8 an8 cd8 ct8), sl8⟩) (c8 : PySem.W.codeIn K cd8 "is_plain_number" = true) (k8 : PySem.W.keepIn K (.ref f8) = true)
    (a9 : PySem.W.nsIn K mainGlobals "_law_bag" = some (some (.ref f9))) (l9 : K.lookup f9 = some ⟨oc9, od9, .func (PySem.W.fnOf "_law_bag" "_law_bag" (defArgs s__law_bag) (defBody s__law_bag) (defScope s__law_bag) .none kV9 dc9 pm9 an9 cd9 ct9), sl9⟩) (c9 : PySem.W.codeIn K cd9 "_law_bag" = true) (k9 : PySem.W.keepIn K (.ref f9) = true)
    (a10 : PySem.W.nsIn K mainGlobals "_law_draw" = some (some (.ref f10))) (l10 : K.lookup f10 = some ⟨oc10, od10, .func (PySem.W.fnOf "_law_draw" "_law_draw" (defArgs s__law_draw) (defBody s__law_draw) (defScope s__law_draw) .none kV10 dc10 pm10 an10 cd10 ct10), sl10⟩) (c10 : PySem.W.codeIn K cd10 "_law_draw" = true) (k10 : PySem.W.keepIn K (.ref f10) = true)
    (a11 : PySem.W.nsIn K mainGlobals "_law_of" = some (some (.ref f11))) (l11 : K.lookup f11 = some ⟨oc11, od11, .func (PySem.W.fnOf "_law_of" "_law_of" (defArgs s__law_of) (defBody s__law_of) (defScope s__law_of) .none kV11 dc11 pm11 an11 cd11 ct11), sl11⟩) (c11 : PySem.W.codeIn K cd11 "_law_of" = true) (k11 : PySem.W.keepIn K (.ref f11) = true)
    (a12 : PySem.W.nsIn K mainGlobals "_law_same" = some (some (.ref f12))) (l12 : K.lookup f12 = some ⟨oc12, od12, .func (PySem.W.fnOf "_law_same" "_law_same" (defArgs s__law_same) (defBody s__law_same) (defScope s__law_same) .none kV12 dc12 pm12 an12 cd12 ct12), sl12⟩) (c12 : PySem.W.codeIn K cd12 "_law_same" = true) (k12 : PySem.W.keepIn K (.ref f12) = true)
    (a13 : PySem.W.nsIn K mainGlobals "_law_keywords" = some (some (.ref f13))) (l13 : K.lookup f13 = some ⟨oc13, od13, .func (PySem.W.fnOf "_law_keywords" "_law_keywords" (defArgs s__law_keywords) (defBody s__law_keywords) (defScope s__law_keywords) .none kV13 dc13 pm13 an13 cd13 ct13), sl13⟩) (c13 : PySem.W.codeIn K cd13 "_law_keywords" = true) (k13 : PySem.W.keepIn K (.ref f13) = true)
    (a14 : PySem.W.nsIn K mainGlobals "_law_letters" = some (some (.ref f14))) (l14 : K.lookup f14 = some ⟨oc14, od14, .func (PySem.W.fnOf "_law_letters" "_law_letters" (defArgs s__law_letters) (defBody s__law_letters) (defScope s__law_letters) .none kV14 dc14 pm14 an14 cd14 ct14), sl14⟩) (c14 : PySem.W.codeIn K cd14 "_law_letters" = true) (k14 : PySem.W.keepIn K (.ref f14) = true)
    (a15 : PySem.W.nsIn K mainGlobals "_law_is_word" = some (some (.ref f15))) (l15 : K.lookup f15 = some ⟨oc15, od15, .func (PySem.W.fnOf "_law_is_word" "_law_is_word" (defArgs s__law_is_word) (defBody s__law_is_word) (defScope s__law_is_word) .none kV15 dc15 pm15 an15 cd15 ct15), sl15⟩) (c15 : PySem.W.codeIn K cd15 "_law_is_word" = true) (k15 : PySem.W.keepIn K (.ref f15) = true)
    (a16 : PySem.W.nsIn K mainGlobals "_law_nest" = some (some (.ref f16))) (l16 : K.lookup f16 = some ⟨oc16, od16, .func (PySem.W.fnOf "_law_nest" "_law_nest" (defArgs s__law_nest) (defBody s__law_nest) (defScope s__law_nest) .none kV16 dc16 pm16 an16 cd16 ct16), sl16⟩) (c16 : PySem.W.codeIn K cd16 "_law_nest" = true) (k16 : PySem.W.keepIn K (.ref f16) = true)
    (a17 : PySem.W.nsIn K mainGlobals "_law_odd" = some (some (.ref f17))) (l17 : K.lookup f17 = some ⟨oc17, od17, .func (PySem.W.fnOf "_law_odd" "_law_odd" (defArgs s__law_odd) (defBody s__law_odd) (defScope s__law_odd) .none kV17 dc17 pm17 an17 cd17 ct17), sl17⟩) (c17 : PySem.W.codeIn K cd17 "_law_odd" = true) (k17 : PySem.W.keepIn K (.ref f17) = true)
    (a18 : PySem.W.nsIn K mainGlobals "_law_is_spot" = some (some (.ref f18))) (l18 : K.lookup f18 = some ⟨oc18, od18, .func (PySem.W.fnOf "_law_is_spot" "_law_is_spot" (defArgs s__law_is_spot) (defBody s__law_is_spot) (defScope s__law_is_spot) .none kV18 dc18 pm18 an18 cd18 ct18), sl18⟩) (c18 : PySem.W.codeIn K cd18 "_law_is_spot" = true) (k18 : PySem.W.keepIn K (.ref f18) = true)
    (a19 : PySem.W.nsIn K mainGlobals "_law_number_in" = some (some (.ref f19))) (l19 : K.lookup f19 = some ⟨oc19, od19, .func (PySem.W.fnOf "_law_number_in" "_law_number_in" (defArgs s__law_number_in) (defBody s__law_number_in) (defScope s__law_number_in) .none kV19 dc19 pm19 an19 cd19 ct19), sl19⟩) (c19 : PySem.W.codeIn K cd19 "_law_number_in" = true) (k19 : PySem.W.keepIn K (.ref f19) = true)
    (a20 : PySem.W.nsIn K mainGlobals "_law_spot_in" = some (some (.ref f20))) (l20 : K.lookup f20 = some ⟨oc20, od20, .func (PySem.W.fnOf "_law_spot_in" "_law_spot_in" (defArgs s__law_spot_in) (defBody s__law_spot_in) (defScope s__law_spot_in) .none kV20 dc20 pm20 an20 cd20 ct20), sl20⟩) (c20 : PySem.W.codeIn K cd20 "_law_spot_in" = true) (k20 : PySem.W.keepIn K (.ref f20) = true)
    (a21 : PySem.W.nsIn K mainGlobals "law" = some (some (.ref f21))) (l21 : K.lookup f21 = some ⟨oc21, od21, .func (PySem.W.fnOf "law" "law" (defArgs s_law) (defBody s_law) (defScope s_law) .none kV21 dc21 pm21 an21 cd21 ct21), sl21⟩) (c21 : PySem.W.codeIn K cd21 "law" = true) (k21 : PySem.W.keepIn K (.ref f21) = true)
    (z_all : PySem.W.nsIn K mainGlobals "all" = some none)
    (z_bool : PySem.W.nsIn K mainGlobals "bool" = some none)
    (z_dict : PySem.W.nsIn K mainGlobals "dict" = some none)
    (z_int : PySem.W.nsIn K mainGlobals "int" = some none)
    (z_isinstance : PySem.W.nsIn K mainGlobals "isinstance" = some none)
    (z_len : PySem.W.nsIn K mainGlobals "len" = some none)
    (z_list : PySem.W.nsIn K mainGlobals "list" = some none)
    (z_range : PySem.W.nsIn K mainGlobals "range" = some none)
    (z_str : PySem.W.nsIn K mainGlobals "str" = some none)
    (z_tuple : PySem.W.nsIn K mainGlobals "tuple" = some none)
    (z_zip : PySem.W.nsIn K mainGlobals "zip" = some none)
    (g_KEYWORDS : PySem.W.nsIn K mainGlobals "KEYWORDS" = some (some (.ref a_KEYWORDS))) (l_KEYWORDS : K.lookup a_KEYWORDS = some ⟨.type "tuple", od_KEYWORDS, .seq it_KEYWORDS n_KEYWORDS, sl_KEYWORDS⟩) (v_KEYWORDS : Vals [.str (PySem.Str.ofString "let"), .str (PySem.Str.ofString "set"), .str (PySem.Str.ofString "out"), .str (PySem.Str.ofString "read"), .str (PySem.Str.ofString "do"), .str (PySem.Str.ofString "def"), .str (PySem.Str.ofString "if"), .str (PySem.Str.ofString "else"), .str (PySem.Str.ofString "repeat"), .str (PySem.Str.ofString "block")] it_KEYWORDS.toList) (s_KEYWORDS : it_KEYWORDS.size ≤ sizeLine)
    (g_LIMIT : PySem.W.nsIn K mainGlobals "LIMIT" = some (some (.int 1000000 t_LIMIT)))
    (g_LONGEST_NAME : PySem.W.nsIn K mainGlobals "LONGEST_NAME" = some (some (.int 6 t_LONGEST_NAME)))
    (g_LONGEST_NUMERAL : PySem.W.nsIn K mainGlobals "LONGEST_NUMERAL" = some (some (.int 6 t_LONGEST_NUMERAL))) :
    ∃ fd : FuncData, (∀ (s : Shared) (v : Value), BindsTo s fd ⟨[v], []⟩ [("_law_script", v)]) ∧ ∀ base : Heap, K.In base → base.Ns mainGlobals mg → FnOk l.prog w K mg base CX0 4 fa fd ["_law_script"] (spLaw K) := by
  have e := hfa.symm.trans (PySem.W.mg_of X G a21)
  cases e
  let T : Tx K mg := { f_is_name := f0, d_is_name := _, F_is_name := fun_mk (st := s_is_name) l0 c0 k0, g_is_name := PySem.W.mg_of X G a0, b_is_name := (fun_mk (st := s_is_name) l0 c0 k0).binds (ps := ["value"]) (fun _ _ _ _ _ _ us hl => match us, hl with | [_], _ => rfl), f_is_number := f1, d_is_number := _, F_is_number := fun_mk (st := s_is_number) l1 c1 k1, g_is_number := PySem.W.mg_of X G a1, b_is_number := (fun_mk (st := s_is_number) l1 c1 k1).binds (ps := ["value", "least", "most"]) (fun _ _ _ _ _ _ us hl => match us, hl with | [_, _, _], _ => rfl), f_is_integer := f2, d_is_integer := _, F_is_integer := fun_mk (st := s_is_integer) l2 c2 k2, g_is_integer := PySem.W.mg_of X G a2, b_is_integer := (fun_mk (st := s_is_integer) l2 c2 k2).binds (ps := ["value"]) (fun _ _ _ _ _ _ us hl => match us, hl with | [_], _ => rfl), f_is_id := f3, d_is_id := _, F_is_id := fun_mk (st := s_is_id) l3 c3 k3, g_is_id := PySem.W.mg_of X G a3, b_is_id := (fun_mk (st := s_is_id) l3 c3 k3).binds (ps := ["value"]) (fun _ _ _ _ _ _ us hl => match us, hl with | [_], _ => rfl), f_is_owner := f4, d_is_owner := _, F_is_owner := fun_mk (st := s_is_owner) l4 c4 k4, g_is_owner := PySem.W.mg_of X G a4, b_is_owner := (fun_mk (st := s_is_owner) l4 c4 k4).binds (ps := ["value"]) (fun _ _ _ _ _ _ us hl => match us, hl with | [_], _ => rfl), f_id_text := f5, d_id_text := _, F_id_text := fun_mk (st := s_id_text) l5 c5 k5, g_id_text := PySem.W.mg_of X G a5, b_id_text := (fun_mk (st := s_id_text) l5 c5 k5).binds (ps := ["thing"]) (fun _ _ _ _ _ _ us hl => match us, hl with | [_], _ => rfl), f_read_id := f6, d_read_id := _, F_read_id := fun_mk (st := s_read_id) l6 c6 k6, g_read_id := PySem.W.mg_of X G a6, b_read_id := (fun_mk (st := s_read_id) l6 c6 k6).binds (ps := ["text"]) (fun _ _ _ _ _ _ us hl => match us, hl with | [_], _ => rfl), f_read_numeral := f7, d_read_numeral := _, F_read_numeral := fun_mk (st := s_read_numeral) l7 c7 k7, g_read_numeral := PySem.W.mg_of X G a7, b_read_numeral := (fun_mk (st := s_read_numeral) l7 c7 k7).binds (ps := ["text"]) (fun _ _ _ _ _ _ us hl => match us, hl with | [_], _ => rfl), f_is_plain_number := f8, d_is_plain_number := _, F_is_plain_number := fun_mk (st := s_is_plain_number) l8 c8 k8, g_is_plain_number := PySem.W.mg_of X G a8, b_is_plain_number := (fun_mk (st := s_is_plain_number) l8 c8 k8).binds (ps := ["text"]) (fun _ _ _ _ _ _ us hl => match us, hl with | [_], _ => rfl), f__law_bag := f9, d__law_bag := _, F__law_bag := fun_mk (st := s__law_bag) l9 c9 k9, g__law_bag := PySem.W.mg_of X G a9, b__law_bag := (fun_mk (st := s__law_bag) l9 c9 k9).binds (ps := ["_law_script"]) (fun _ _ _ _ _ _ us hl => match us, hl with | [_], _ => rfl), f__law_draw := f10, d__law_draw := _, F__law_draw := fun_mk (st := s__law_draw) l10 c10 k10, g__law_draw := PySem.W.mg_of X G a10, b__law_draw := (fun_mk (st := s__law_draw) l10 c10 k10).binds (ps := ["_law_bag_here", "_law_many"]) (fun _ _ _ _ _ _ us hl => match us, hl with | [_, _], _ => rfl), f__law_of := f11, d__law_of := _, F__law_of := fun_mk (st := s__law_of) l11 c11 k11, g__law_of := PySem.W.mg_of X G a11, b__law_of := (fun_mk (st := s__law_of) l11 c11 k11).binds (ps := ["_law_bag_here", "_law_some"]) (fun _ _ _ _ _ _ us hl => match us, hl with | [_, _], _ => rfl), f__law_same := f12, d__law_same := _, F__law_same := fun_mk (st := s__law_same) l12 c12 k12, g__law_same := PySem.W.mg_of X G a12, b__law_same := (fun_mk (st := s__law_same) l12 c12 k12).binds (ps := ["_law_found", "_law_due"]) (fun _ _ _ _ _ _ us hl => match us, hl with | [_, _], _ => rfl), f__law_keywords := f13, d__law_keywords := _, F__law_keywords := fun_mk (st := s__law_keywords) l13 c13 k13, g__law_keywords := PySem.W.mg_of X G a13, b__law_keywords := (fun_mk (st := s__law_keywords) l13 c13 k13).binds (ps := []) (fun _ _ _ _ _ _ us hl => match us, hl with | [], _ => rfl), f__law_letters := f14, d__law_letters := _, F__law_letters := fun_mk (st := s__law_letters) l14 c14 k14, g__law_letters := PySem.W.mg_of X G a14, b__law_letters := (fun_mk (st := s__law_letters) l14 c14 k14).binds (ps := []) (fun _ _ _ _ _ _ us hl => match us, hl with | [], _ => rfl), f__law_is_word := f15, d__law_is_word := _, F__law_is_word := fun_mk (st := s__law_is_word) l15 c15 k15, g__law_is_word := PySem.W.mg_of X G a15, b__law_is_word := (fun_mk (st := s__law_is_word) l15 c15 k15).binds (ps := ["_law_val_z"]) (fun _ _ _ _ _ _ us hl => match us, hl with | [_], _ => rfl), f__law_nest := f16, d__law_nest := _, F__law_nest := fun_mk (st := s__law_nest) l16 c16 k16, g__law_nest := PySem.W.mg_of X G a16, b__law_nest := (fun_mk (st := s__law_nest) l16 c16 k16).binds (ps := []) (fun _ _ _ _ _ _ us hl => match us, hl with | [], _ => rfl), f__law_odd := f17, d__law_odd := _, F__law_odd := fun_mk (st := s__law_odd) l17 c17 k17, g__law_odd := PySem.W.mg_of X G a17, b__law_odd := (fun_mk (st := s__law_odd) l17 c17 k17).binds (ps := ["_law_bag_here"]) (fun _ _ _ _ _ _ us hl => match us, hl with | [_], _ => rfl), f__law_is_spot := f18, d__law_is_spot := _, F__law_is_spot := fun_mk (st := s__law_is_spot) l18 c18 k18, g__law_is_spot := PySem.W.mg_of X G a18, b__law_is_spot := (fun_mk (st := s__law_is_spot) l18 c18 k18).binds (ps := ["_law_val_z"]) (fun _ _ _ _ _ _ us hl => match us, hl with | [_], _ => rfl), f__law_number_in := f19, d__law_number_in := _, F__law_number_in := fun_mk (st := s__law_number_in) l19 c19 k19, g__law_number_in := PySem.W.mg_of X G a19, b__law_number_in := (fun_mk (st := s__law_number_in) l19 c19 k19).binds (ps := ["_law_te_z", "_law_mo_z"]) (fun _ _ _ _ _ _ us hl => match us, hl with | [_, _], _ => rfl), f__law_spot_in := f20, d__law_spot_in := _, F__law_spot_in := fun_mk (st := s__law_spot_in) l20 c20 k20, g__law_spot_in := PySem.W.mg_of X G a20, b__law_spot_in := (fun_mk (st := s__law_spot_in) l20 c20 k20).binds (ps := ["_law_te_z"]) (fun _ _ _ _ _ _ us hl => match us, hl with | [_], _ => rfl), f_law := fa, d_law := _, F_law := fun_mk (st := s_law) l21 c21 k21, g_law := hfa, z_all := PySem.W.mg_none_of X G z_all, z_bool := PySem.W.mg_none_of X G z_bool, z_dict := PySem.W.mg_none_of X G z_dict, z_int := PySem.W.mg_none_of X G z_int, z_isinstance := PySem.W.mg_none_of X G z_isinstance, z_len := PySem.W.mg_none_of X G z_len, z_list := PySem.W.mg_none_of X G z_list, z_range := PySem.W.mg_none_of X G z_range, z_str := PySem.W.mg_none_of X G z_str, z_tuple := PySem.W.mg_none_of X G z_tuple, z_zip := PySem.W.mg_none_of X G z_zip, a_KEYWORDS := a_KEYWORDS, g_KEYWORDS := PySem.W.mg_of X G g_KEYWORDS, q_KEYWORDS := (fun H => .inr ⟨_, _, _, l_KEYWORDS, rfl, rfl, s_KEYWORDS, v_KEYWORDS⟩), t_LIMIT := t_LIMIT, g_LIMIT := PySem.W.mg_of X G g_LIMIT, t_LONGEST_NAME := t_LONGEST_NAME, g_LONGEST_NAME := PySem.W.mg_of X G g_LONGEST_NAME, t_LONGEST_NUMERAL := t_LONGEST_NUMERAL, g_LONGEST_NUMERAL := PySem.W.mg_of X G g_LONGEST_NUMERAL }
  exact ⟨_, fun s v => .of_eq rfl, fun base _ _ => ok_law T⟩
end Kx
open PySem PySem.W PyProof.Rows
set_option maxRecDepth 100000 in
set_option maxHeartbeats 0 in
theorem PySem.Challenge.cw_piercednames_k01_words_and_ids_judged_holds : PySem.Challenge.rw_piercednames_k01_words_and_ids_judged.Holds := by
  w_on; o_law; k_head; (case hw => w_witness2)
  k_fill
  refine L2.walk_of (l := PySem.Challenge.rw_piercednames_k01_words_and_ids_judged) (n := 63) (k := 4) (x := "_law_script") (CX := fun _ => L2.CX0) (sp := fun w => My.spLaw _) rfl (by decide) rfl ⟨rfl, by decide, by decide⟩ (fun w h Y => PySem.W.kIn_of Y) ?F (fun _ _ a ns hl _ hS => ⟨a, ns, rfl, hS, hl, fun _ => rfl⟩) (fun _ _ _ _ _ h => h)
  case F =>
    intro w mg fa h KX G hmg
    refine' Kx.all_mk KX G hmg ?a0 ?l0 ?c0 ?k0 ?a1 ?l1 ?c1 ?k1 ?a2 ?l2 ?c2 ?k2 ?a3 ?l3 ?c3 ?k3 ?a4 ?l4 ?c4 ?k4 ?a5 ?l5 ?c5 ?k5 ?a6 ?l6 ?c6 ?k6 ?a7 ?l7 ?c7 ?k7 ?a8 ?l8 ?c8 ?k8 ?a9 ?l9 ?c9 ?k9 ?a10 ?l10 ?c10 ?k10 ?a11 ?l11 ?c11 ?k11 ?a12 ?l12 ?c12 ?k12 ?a13 ?l13 ?c13 ?k13 ?a14 ?l14 ?c14 ?k14 ?a15 ?l15 ?c15 ?k15 ?a16 ?l16 ?c16 ?k16 ?a17 ?l17 ?c17 ?k17 ?a18 ?l18 ?c18 ?k18 ?a19 ?l19 ?c19 ?k19 ?a20 ?l20 ?c20 ?k20 ?a21 ?l21 ?c21 ?k21 ?z_all ?z_bool ?z_dict ?z_int ?z_isinstance ?z_len ?z_list ?z_range ?z_str ?z_tuple ?z_zip ?g_KEYWORDS ?l_KEYWORDS ?v_KEYWORDS ?s_KEYWORDS ?g_LIMIT ?g_LONGEST_NAME ?g_LONGEST_NUMERAL
    (case a0 => k_is)
    (case l0 => k_is)
    (case c0 => k_is)
    (case k0 => k_is)
    (case a1 => k_is)
    (case l1 => k_is)
    (case c1 => k_is)
    (case k1 => k_is)
    (case a2 => k_is)
    (case l2 => k_is)
    (case c2 => k_is)
    (case k2 => k_is)
    (case a3 => k_is)
    (case l3 => k_is)
    (case c3 => k_is)
    (case k3 => k_is)
    (case a4 => k_is)
    (case l4 => k_is)
    (case c4 => k_is)
    (case k4 => k_is)
    (case a5 => k_is)
    (case l5 => k_is)
    (case c5 => k_is)
    (case k5 => k_is)
    (case a6 => k_is)
    (case l6 => k_is)
    (case c6 => k_is)
    (case k6 => k_is)
    (case a7 => k_is)
    (case l7 => k_is)
    (case c7 => k_is)
    (case k7 => k_is)
    (case a8 => k_is)
    (case l8 => k_is)
    (case c8 => k_is)
    (case k8 => k_is)
    (case a9 => k_is)
    (case l9 => k_is)
    (case c9 => k_is)
    (case k9 => k_is)
    (case a10 => k_is)
    (case l10 => k_is)
    (case c10 => k_is)
    (case k10 => k_is)
    (case a11 => k_is)
    (case l11 => k_is)
    (case c11 => k_is)
    (case k11 => k_is)
    (case a12 => k_is)
    (case l12 => k_is)
    (case c12 => k_is)
    (case k12 => k_is)
    (case a13 => k_is)
    (case l13 => k_is)
    (case c13 => k_is)
    (case k13 => k_is)
    (case a14 => k_is)
    (case l14 => k_is)
    (case c14 => k_is)
    (case k14 => k_is)
    (case a15 => k_is)
    (case l15 => k_is)
    (case c15 => k_is)
    (case k15 => k_is)
    (case a16 => k_is)
    (case l16 => k_is)
    (case c16 => k_is)
    (case k16 => k_is)
    (case a17 => k_is)
    (case l17 => k_is)
    (case c17 => k_is)
    (case k17 => k_is)
    (case a18 => k_is)
    (case l18 => k_is)
    (case c18 => k_is)
    (case k18 => k_is)
    (case a19 => k_is)
    (case l19 => k_is)
    (case c19 => k_is)
    (case k19 => k_is)
    (case a20 => k_is)
    (case l20 => k_is)
    (case c20 => k_is)
    (case k20 => k_is)
    (case a21 => k_is)
    (case l21 => k_is)
    (case c21 => k_is)
    (case k21 => k_is)
    (case z_all => k_is)
    (case z_bool => k_is)
    (case z_dict => k_is)
    (case z_int => k_is)
    (case z_isinstance => k_is)
    (case z_len => k_is)
    (case z_list => k_is)
    (case z_range => k_is)
    (case z_str => k_is)
    (case z_tuple => k_is)
    (case z_zip => k_is)
    (case g_KEYWORDS => k_is)
    (case l_KEYWORDS => k_is)
    (case g_LIMIT => k_is)
    (case g_LONGEST_NAME => k_is)
    (case g_LONGEST_NUMERAL => k_is)
    (case v_KEYWORDS => (repeat (refine Paired.cons ⟨_, rfl⟩ ?_)); exact Paired.nil)
    (case s_KEYWORDS => decide)
