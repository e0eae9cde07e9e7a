import PyProof.Rows.All
import Wide.All
import OpenK.AllK
import Wide.FinOn
import HandS.ForMost
import HandS.IsInst
import HandS.Conv
import HandS.Zip
import HandS.Strs
import HandS.Flow
import HandS.Codes
import HandS.SetKeys
import HandS.Walk
import HandS.StrMore
import HandS.Defaults
import HandS.ExcInit
import KE.KExcInit
import KE.KExcIs
import HandS.TryOnly
import KE.KStateDown
import HandS.Head0
import HandS.Head1
import HandS.Head2
import HandS.HeadEnd
import HandS.HeadHook1
import HandS.HeadHook2
import PySem.Challenge.RW_piercednames_k00_errors_by_themselves
set_option Elab.async false
set_option linter.all false
set_option maxRecDepth 100000
/-! part Kit1 -/
/-! My own rows over the layer: a list that is sealed (its content hidden behind a predicate), draws as free choices. -/
namespace My
open PySem PySem.Spec PyProof.Rows L2

/-- the predicate of a sealed list at a: some content that is so -/
def sealP (a : Addr) (φ : List V → Prop) : Heap → Prop := fun h => ∃ xs : List V, φ xs ∧ xs.length ≤ sizeLine ∧ ∃ (its : List Value) (n : Nat), Vals xs its ∧ h.get? a = some { cls := .type "list", data := .seq its.toArray n }
abbrev Seal (a : Addr) (φ : List V → Prop) : HO := .ext (sealP a φ)
theorem sealP_stay {a : Addr} {φ : List V → Prop} (h1 h2 : Heap) (p : sealP a φ h1) (k : ∀ o, h1.get? a = some o → h2.get? a = some o) : sealP a φ h2 := by
  obtain ⟨xs, p1, p2, its, n, r, e⟩ := p
  exact ⟨xs, p1, p2, its, n, r, k _ e⟩

section
variable {P : Program} {w : World} {K : PySem.W.Frag} {mg : Str → Option Value} {base : Heap}
/-- a list is sealed -/
theorem hok_seal {H : Hp} {h : Heap} {a : Addr} {φ : List V → Prop} {xs : List V} (ok : HOk P w H h) (e : H a = some (.lst xs)) (p : φ xs) : HOk P w (upd H a (Seal a φ)) h := fun b o q => by
  by_cases hb : b = a
  · subst hb
    rw [upd_same] at q
    cases q
    obtain ⟨z, its, n, r, eo⟩ := (show ObjOk P w H h b (.lst xs) from ok b _ e)
    exact ⟨⟨xs, p, z, its, n, r, eo⟩, ⟨_, eo⟩, fun h1 h2 => sealP_stay h1 h2⟩
  · rw [upd_ne hb] at q
    refine (ok b o q).stay (fun _ _ _ r => r) (fun c r => ?_) (fun c ys r => ?_)
    · rw [upd_ne (ne_of r e (by intro z; cases z))]; exact r
    · rw [upd_ne (ne_of r e (by intro z; cases z))]; exact r
theorem hok_open {H : Hp} {h : Heap} {a : Addr} {φ : List V → Prop} (ok : HOk P w H h) (e : H a = some (Seal a φ)) : ∃ xs, φ xs ∧ HOk P w (upd H a (.lst xs)) h := by
  obtain ⟨⟨xs, p, z, its, n, r, eo⟩, _, _⟩ := (show ObjOk P w H h a (Seal a φ) from ok a _ e)
  refine ⟨xs, p, fun b o q => ?_⟩
  by_cases hb : b = a
  · subst hb
    rw [upd_same] at q
    cases q
    exact ⟨z, its, n, r, eo⟩
  · rw [upd_ne hb] at q
    refine (ok b o q).stay (fun _ _ _ r => r) (fun c r => ?_) (fun c ys r => ?_)
    · rw [upd_ne (ne_of r e (by intro z; cases z))]; exact r
    · rw [upd_ne (ne_of r e (by intro z; cases z))]; exact r
theorem none_upd {H : Hp} {a b : Addr} {o u : HO} (e : H a = some o) (h : H b = none) : upd H a u b = none := by
  rw [upd_ne (fun z => by subst z; rw [e] at h; cases h)]; exact h
/-- THE RULE: a def that works on the open list keeps the promise over the sealed one -/
theorem fn_seal {k : Nat} {f : Addr} {fd : FuncData} {ps : List Str} {sp sp' : Sp} (F : FnOk P w K mg base CX0 k f fd ps sp)
    (len : ∀ vs H Q E, sp' vs H Q E → vs.length = ps.length)
    (h : ∀ vs H Q E, sp' vs H Q E → ∃ (a : Addr) (φ : List V → Prop), H a = some (Seal a φ) ∧ ∀ xs, φ xs → sp vs (upd H a (.lst xs)) (fun v H' => ∃ ys, H' a = some (.lst ys) ∧ φ ys ∧ Q v (upd H' a (Seal a φ))) E) :
    FnOk P w K mg base CX0 k f fd ps sp' := by
  refine ⟨len, fun A outer s H args us vs Q E hr he hb hv hs => ?_⟩
  obtain ⟨a, φ, e, h⟩ := h vs H Q E hs
  obtain ⟨xs, p, ok⟩ := hok_open he.hok e
  have he1 : Env0 P w K mg base A outer s (upd H a (.lst xs)) :=
    ⟨he.frames, he.mod, fun b o q => ⟨(he.bs b o q).1, none_upd e (he.bs b o q).2⟩, he.bsz, he.funs, fun b hb => none_upd e (he.frf b hb), ok, he.bare⟩
  have R := F.run A outer s (upd H a (.lst xs)) args us vs _ E hr he1 hb hv (h xs p)
  refine codeAny_mono R fun r s' c => ?_
  cases r with
  | error x => exact (show False from c).elim
  | ok fl =>
    cases fl with
    | ret u =>
      obtain ⟨v, H', h1, h2, h3, h4, h5, ys, h6, h7, h8⟩ := c
      refine ⟨v, upd H' a (Seal a φ), h1, h2, ?_, hok_seal h4 h6 h7, h5, h8⟩
      have nn : ∀ b, H b = none → upd H a (.lst xs) b = none := fun b q => none_upd e q
      have ne : ∀ b o, H b = some o → (∀ ψ, o ≠ .ext ψ) → b ≠ a := fun b o q n => ne_of q e (n _)
      refine ⟨fun b o q n i j => h3.keep b o q (nn b n) i j, fun b o q n i j => h3.slot b o q (nn b n) i j, fun b o q n j => none_upd h6 (h3.free b o q (nn b n) j), fun b o q j => h3.there b o q j, fun b ys q => ?_, fun b o u q => ?_, fun b ps q => ?_⟩
      · have z := ne b _ q (fun ψ z => by cases z)
        rw [upd_ne z]; exact h3.tups b ys (by rw [upd_ne z]; exact q)
      · have z := ne b _ q (fun ψ z => by cases z)
        rw [upd_ne z]; exact h3.frzs b o u (by rw [upd_ne z]; exact q)
      · have z := ne b _ q (fun ψ z => by cases z)
        rw [upd_ne z]; exact h3.tbls b ps (by rw [upd_ne z]; exact q)
    | _ => exact c
end
end My
/-! part SetMk -/
/-! set(xs) of a list or a tuple of any keys, any number below the scan's bound (own proof; the library has it for ints, and for at most one text) -/
namespace My
open PySem PySem.Spec PyProof.Rows L2
section
variable {prog : Program} {w : World} {κ : Type} [DecidableEq κ] (knd : KeyKind prog w κ)
/-- the set at a has met the first i keys -/
def Met (a : Addr) (ks : List κ) (i : Nat) (h : Heap) : Prop := ∃ (S : κ → Bool) (n : Nat), h.SetOf knd a S n ∧ n ≤ i ∧ ∀ k, S k = true ↔ k ∈ ks.take i
variable {knd}
theorem Met.at {a : Addr} {ks : List κ} {i : Nat} {g h : Heap} (m : Met knd a ks i g) (k : ∀ o, g.get? a = some o → h.get? a = some o) : Met knd a ks i h := by
  obtain ⟨S, n, ⟨o, es, ep, t, ho, r⟩, z⟩ := m
  exact ⟨S, n, ⟨o, es, ep, t, k o ho, r⟩, z⟩
variable {A : Around} {R : Result → Shared → Prop} {it a : Addr} {fp wr : List Addr} {G : Array GenState → Array GenState → Prop} {n : Nat} {Pv : Nat → Value → Prop} {St : Nat → Shared → Prop}
/-- the turns that are left: each item is added -/
theorem met_all (W : WalksS prog w A.in1 it fp wr G n Pv St) (off : a ∉ fp) (ks : List κ) (room : n + 1 < scanBound)
    (is : ∀ i v, Pv i v → ∃ k, ks[i]? = some k ∧ knd.is k v = true ∧ v.scannable = true) (d : Nat) : ∀ (i : Nat) (s : Shared), i + d = n → St i s → Met knd a ks i s.heap →
      (∀ z, Moved (a :: wr) G s z → Met knd a ks n z.heap → R (.ok (.ret .none)) z) → codeAny (model prog w) A (.builtin "set.update.loop" ⟨[.ref a, .ref it], []⟩) R s := by
  have offw : a ∉ wr := fun q => off (W.sub a q)
  have wide : ∀ b ∈ wr, b ∈ a :: wr := fun b q => List.mem_cons_of_mem a q
  induction d with
  | zero =>
    intro i s e st m fin
    obtain rfl : i = n := by omega
    refine codeAny_builtin PyProof.Rows.F.entry_set_update_loop ?_
    rw [Around.under_plainId PyProof.Rows.F.plain_set_update_loop _]
    show wpAny (model prog w) A.in1 (pyNext (.ref it) >>= _) _ _ s
    refine wpAny_bind (W.done s _ _ st fun z mv => ?_)
    show wpAny (model prog w) A.in1 (ret Value.none) _ _ z
    exact wpAny_pure (fin z (mv.mono wide) (m.at fun o q => mv.heap a o offw q))
  | succ d ih =>
    intro i s e st m fin
    refine codeAny_builtin PyProof.Rows.F.entry_set_update_loop ?_
    rw [Around.under_plainId PyProof.Rows.F.plain_set_update_loop _]
    show wpAny (model prog w) A.in1 (pyNext (.ref it) >>= _) _ _ s
    refine wpAny_bind (W.item i s _ _ (by omega) st fun v z pv st' mv => ?_)
    obtain ⟨k, hk, ik, sc⟩ := is i v pv
    obtain ⟨S, c, so, cn, mem⟩ := m.at (h := z.heap) fun o q => mv.heap a o offw q
    show wpAny (model prog w) A.in1 (holding [v] (setAdd a v) >>= _) _ _ z
    refine wpAny_bind (wpAny_holding ?_)
    unfold setAdd
    refine wpAny_holding (wpAny_bind (knd.pyHash ik ?_))
    refine wpAny_setAddHashed_of (knd := knd) (s := { z with toks := z.toks + 1 }) ik sc so (by omega) fun h2 same so2 => ?_
    have m2 : Met knd a ks (i + 1) h2 := by
      refine ⟨_, _, so2, by split <;> omega, fun q => ?_⟩
      rw [List.take_add_one, hk, List.mem_append]
      show (S q || decide (q = k)) = true ↔ q ∈ ks.take i ∨ q ∈ [k]
      rw [Bool.or_eq_true, mem q, decide_eq_true_eq, List.mem_singleton]
    have far : ∀ b ∈ fp, b ≠ a := fun b hb q => off (q ▸ hb)
    refine wpAny_pure ⟨plainId_quiet PyProof.Rows.F.plain_set_update_loop _, ih (i + 1) _ (by omega) (W.frame (i + 1) z h2 _ st' (Nat.le_succ _) fun b hb o q => (same.2 b (far b hb)).trans q) m2 fun y mv2 m3 => fin y ?_ m3⟩
    exact Moved.trans W.gtrans ((mv.mono wide).then_heap (Nat.le_succ _) fun b o hb q => (same.2 b fun u => hb (u ▸ List.mem_cons_self)).trans q) mv2
end
section
variable {prog : Program} {w : World} {κ : Type} [DecidableEq κ] [BEq κ] [LawfulBEq κ] {knd : KeyKind prog w κ} {A : Around} {E : Value → Shared → Prop} {s : Shared}
/-- an empty set's object -/
abbrev setEmpty (led : Bool) : Obj := { cls := .type "set", dict := none, data := .set #[] 0 (.fresh 0 0 led) }
theorem met_none (led : Bool) {a : Addr} {ks : List κ} {h : Heap} (e : h.get? a = some (setEmpty led)) : Met knd a ks 0 h :=
  ⟨_, _, (PyProof.Rows.setObjOf_fresh (knd := knd) led).setOf e (by decide), Nat.le_refl 0, fun k => by simp⟩
set_option maxHeartbeats 3200000 in
/-- set(x), x a list or a tuple -/
theorem set_of (l : Addr) (items : Array Value) (ks : List κ) {Q : Value → Shared → Prop} (calm : A.handled = none) (src : s.heap.IsList l items ∨ s.heap.IsTuple l items) (room : items.size + 1 < scanBound)
    (is : ∀ (i : Nat) (v : Value), items[i]? = some v → ∃ k, ks[i]? = some k ∧ knd.is k v = true ∧ v.scannable = true)
    (fin : ∀ (h : Heap) (t : Nat), Met knd s.heap.objs.size ks items.size h → (∀ b o, b < s.heap.objs.size → s.heap.get? b = some o → h.get? b = some o) → Q (.ref s.heap.objs.size) { s with heap := h, toks := t }) :
    wpAny (model prog w) A (call (.type "set") [.ref l]) Q E s := by
  let a := s.heap.objs.size
  obtain ⟨c, tl, u1⟩ := PySem.F.called_set.mro
  have u2 := PySem.F.called_set.made
  have u3 := PySem.F.called_set.sub
  refine wpAny_call (codeAny_of_tree ((wpAny_pure ⟨Code.quiet_builtin _ (by decide +kernel), codeAny_builtin PySem.F.entry_type_call ?_⟩ : wpAny _ _ (callAny (.type "set") _) _ _ _)))
  rw [Around.under_plain (weight_type_call_type "set" [.ref l] []) rfl]
  have u4 := PySem.F.called_set.notType
  have u5 := PySem.F.called_set.canCreate
  have u6 := PySem.F.typeCall_set_1 (.ref l)
  repeat (any_goals (first | assumption | wp_step))
  refine codeAny_mono (code_set_new_1 (.ref l) (E := E) (Q₁ := fun o z => ∃ led : Bool, o = .ref a ∧ z = { s with heap := s.heap.push (setEmpty led) }) fun led => ⟨led, rfl, rfl⟩) fun r z hr => ?_
  rcases r with e | fl
  · exact hr
  cases fl with
  | ret o =>
    obtain ⟨led, rfl, rfl⟩ := hr
    have ea : (s.heap.push (setEmpty led)).get? a = some (setEmpty led) := Heap.get?_push_size _ rfl
    have ty : Shared.TypeIs { s with heap := s.heap.push (setEmpty led) } (.ref a) "set" := ⟨_, ea, rfl⟩
    have u7 := PySem.F.called_set.init.lookup
    have u8 := PySem.F.called_set.init.bind (.ref a)
    repeat (any_goals (first | assumption | wp_step))
    refine codeAny_mono (codeAny_call_builtin (R := wants (fun r z => r = .none ∧ ∃ h t, z = { s with heap := h, toks := t } ∧ Met knd a ks items.size h ∧ ∀ b o, b < a → s.heap.get? b = some o → h.get? b = some o) E)
      PySem.F.called_set.init.plain PySem.F.entry_set_init (check_set_init_1 ty ?_)) fun r z hr => ?_
    · have far : ∀ {b : Addr}, b < a → b ≠ (s.heap.push (setEmpty led)).objs.size := fun {b} hb => by
        rw [Heap.size_push]
        exact Nat.ne_of_lt (Nat.lt_succ_of_lt hb)
      have off : ∀ {b : Addr}, b < a → a ∉ [(s.heap.push (setEmpty led)).objs.size, b] := fun {b} hb hm => by
        rw [Heap.size_push] at hm
        rcases List.mem_cons.mp hm with q | q
        · exact Nat.ne_of_lt (Nat.lt_succ_self a) q
        · exact Nat.ne_of_gt hb (List.mem_singleton.mp q)
      have close : ∀ (z : Shared) (o : Obj), Moved [a, (s.heap.push (setEmpty led)).objs.size] (fun x y => y = x) { s with heap := (s.heap.push (setEmpty led)).push o } z → Met knd a ks items.size z.heap →
          ∃ (h : Heap) (t : Nat), z = { s with heap := h, toks := t } ∧ Met knd a ks items.size h ∧ ∀ b o, b < a → s.heap.get? b = some o → h.get? b = some o := fun z o mv m => by
        obtain ⟨h, g, dr, t, os⟩ := z
        have e1 : g = s.gens := mv.gens
        have e2 : dr = s.drawn := mv.drawn
        have e3 : os = s.os := mv.os
        subst e1 e2 e3
        refine ⟨h, t, rfl, m, fun b o hb q => mv.heap b o (fun hm => ?_) (Heap.get?_push_of_some _ (Heap.get?_push_of_some _ q))⟩
        rcases List.mem_cons.mp hm with u | u
        · exact Nat.ne_of_lt hb u
        · exact far hb (List.mem_singleton.mp u)
      rcases src with src | src
      · obtain ⟨ol, p1, p2, nl, p3⟩ := src
        have low : l < a := Heap.lt_size p1
        obtain ⟨oc, od, oda, osl⟩ := ol
        simp only at p2 p3
        subst p2 p3
        have p4 : (s.heap.push (setEmpty led)).get? l = some ⟨.type "list", od, .seq items nl, osl⟩ := Heap.get?_push_of_some _ p1
        have u9 := PySem.F.sub_list_set
        have u10 := PySem.F.sub_list_frozenset
        have u11 : (Value.type "list" == Value.type "dict") = false := by decide
        have p5 : (s.heap.push (setEmpty led)).IsList l items := ⟨_, p4, rfl, nl, rfl⟩
        unfold Builtin.«set.__init__» noKeywords Builtin.Frozenset.updateFrom
        generalize hide : pyIter = PI
        wp_walk
        subst hide
        refine wpAny_pyIter_list p5 (wpAny_bind (wpAny_runValue ?_))
        refine met_all ((Walks.list (show A.in1.in1.in1.handled = none by simp [calm]) _ l (far low) items).toS) (off low) ks room is items.size 0 _ (Nat.zero_add _) ⟨⟨_, Heap.get?_push_size _ rfl, rfl, rfl⟩, p5.push _⟩ (met_none led (Heap.get?_push_of_some _ ea)) fun z mv m => ?_
        show wpAny _ _ _ _ _ z
        refine wpAny_pure ?_
        show wpAny _ _ (ret Value.none) _ _ z
        exact wpAny_pure ⟨rfl, close z _ mv m⟩
      · obtain ⟨ol, p1, p2, nl, p3⟩ := src
        have low : l < a := Heap.lt_size p1
        obtain ⟨oc, od, oda, osl⟩ := ol
        simp only at p2 p3
        subst p2 p3
        have p4 : (s.heap.push (setEmpty led)).get? l = some ⟨.type "tuple", od, .seq items nl, osl⟩ := Heap.get?_push_of_some _ p1
        have u9 := PySem.F.sub_tuple_set
        have u10 := PySem.F.sub_tuple_frozenset
        have u11 : (Value.type "tuple" == Value.type "dict") = false := by decide
        have p5 : (s.heap.push (setEmpty led)).IsTuple l items := ⟨_, p4, rfl, nl, rfl⟩
        unfold Builtin.«set.__init__» noKeywords Builtin.Frozenset.updateFrom
        generalize hide : pyIter = PI
        wp_walk
        subst hide
        refine wpAny_pyIter_tuple p5 (wpAny_bind (wpAny_runValue ?_))
        refine met_all ((Walks.tuple (show A.in1.in1.in1.handled = none by simp [calm]) _ l (far low) items).toS) (off low) ks room is items.size 0 _ (Nat.zero_add _) ⟨⟨_, Heap.get?_push_size _ rfl, rfl, rfl⟩, p5.push _⟩ (met_none led (Heap.get?_push_of_some _ ea)) fun z mv m => ?_
        show wpAny _ _ _ _ _ z
        refine wpAny_pure ?_
        show wpAny _ _ (ret Value.none) _ _ z
        exact wpAny_pure ⟨rfl, close z _ mv m⟩
    · rcases r with e | fl2
      · exact hr
      cases fl2 with
      | ret r =>
        obtain ⟨rfl, h, t, rfl, m, k⟩ := hr
        repeat (any_goals (first | assumption | wp_step))
        exact fin h t m k
      | _ => exact hr.elim
  | _ => exact hr.elim
end
end My
/-! part Kit2 -/
namespace My
open PySem PySem.Spec PyProof.Rows L2

theorem same_new {H : Hp} {p : Addr} (h : H p = none) (o : HO) : Same H (upd H p o) := fun b u q => by rw [upd_ne (ne_of_none q h)]; exact q
theorem upd_self {H : Hp} {a : Addr} {o : HO} (h : H a = some o) : upd H a o = H := by
  funext b
  unfold upd
  split
  · rename_i e; rw [e, h]
  · rfl
theorem fmod_lo (x : Int) {k : Int} (h : 0 < k) : 0 ≤ x.fmod k := by
  rw [Int.fmod_eq_emod_of_nonneg _ (Int.le_of_lt h)]
  exact Int.emod_nonneg _ (by omega)
theorem fmod_hi (x : Int) {k : Int} (h : 0 < k) : x.fmod k < k := by
  rw [Int.fmod_eq_emod_of_nonneg _ (Int.le_of_lt h)]
  exact Int.emod_lt_of_pos _ h

/-! ### the bag of draws -/
/-- its five items: the cells at l, how many of k were taken, the rest of a great one, the mixed number, the draws -/
def bagF (l : Addr) (k : Nat) : List V → Prop := fun xs => ∃ i g m n : Int, xs = [.ref l, .int i, .int g, .int m, .int n] ∧ 0 ≤ i ∧ i ≤ (k : Int) ∧ 0 ≤ m ∧ m < 2147483629
/-- a bag stands at a -/
def IsBag (H : Hp) (a : Addr) : Prop := ∃ (l : Addr) (ns : List Int), H l = some (.lst (ns.map V.int)) ∧ ns.length ≤ 63 ∧ H a = some (Seal a (bagF l ns.length))
theorem IsBag.same {H H' : Hp} {a : Addr} (b : IsBag H a) (s : Same H H') : IsBag H' a := by
  obtain ⟨l, ns, h1, h2, h3⟩ := b
  exact ⟨l, ns, s _ _ h1, h2, s _ _ h3⟩
/-- the open one, as the def of the draws sees it -/
def spDraw0 : Sp := fun vs H Q _ => ∃ (a l : Addr) (ns : List Int) (k : Int) (xs : List V), vs = [.ref a, .int k] ∧ H l = some (.lst (ns.map V.int)) ∧ H a = some (.lst xs) ∧ l ≠ a ∧ bagF l ns.length xs ∧ 0 < k ∧ k < 1073741824 ∧
  ∀ (d : Int) (ys : List V), 0 ≤ d → d < k → bagF l ns.length ys → Q (.int d) (upd H a (.lst ys))
/-- a draw below k: any number -/
def spDraw : Sp := fun vs H Q _ => ∃ (a : Addr) (k : Int), vs = [.ref a, .int k] ∧ IsBag H a ∧ 0 < k ∧ k < 1073741824 ∧ ∀ d : Int, 0 ≤ d → d < k → Q (.int d) H
theorem draw_sealed {P : Program} {w : World} {K : PySem.W.Frag} {mg : Str → Option Value} {base : Heap} {k : Nat} {f : Addr} {fd : FuncData} {ps : List Str}
    (F : FnOk P w K mg base CX0 k f fd ps spDraw0) (h2 : ps.length = 2) : FnOk P w K mg base CX0 k f fd ps spDraw := by
  refine fn_seal F (fun vs H Q E h => ?_) (fun vs H Q E h => ?_)
  · obtain ⟨a, k, rfl, _⟩ := h
    exact h2.symm
  · obtain ⟨a, k, rfl, ⟨l, ns, hl, hn, ha⟩, h0, h1, q⟩ := h
    have la : l ≠ a := ne_of hl ha (by intro z; cases z)
    refine ⟨a, _, ha, fun xs hx => ⟨a, l, ns, k, xs, rfl, ?_, upd_same, la, hx, h0, h1, fun d ys hd hk hy => ⟨ys, upd_same, hy, ?_⟩⟩⟩
    · rw [upd_ne la]; exact hl
    · rw [upd_upd, upd_upd, upd_self ha]; exact q d hd hk
/-- an item drawn out of a list or a text -/
def spOf (K : PySem.W.Frag) : Sp := fun vs H Q _ => ∃ (a p : Addr) (xs : List V), vs = [.ref a, .ref p] ∧ IsBag H a ∧ SqL K H p xs ∧ 0 < xs.length ∧ xs.length ≤ 1000000 ∧ ∀ (i : Nat) (v : V), xs[i]? = some v → Q v H

/-- a def that hands back a new list, which is then sealed -/
theorem fn_seal_ret {P : Program} {w : World} {K : PySem.W.Frag} {mg : Str → Option Value} {base : Heap} {k : Nat} {f : Addr} {fd : FuncData} {ps : List Str} {sp sp' : Sp} (F : FnOk P w K mg base CX0 k f fd ps sp)
    (len : ∀ vs H Q E, sp' vs H Q E → vs.length = ps.length)
    (h : ∀ vs H Q E, sp' vs H Q E → sp vs H (fun v H' => ∃ (a : Addr) (φ : List V → Prop) (ys : List V), H' a = some (.lst ys) ∧ φ ys ∧ Q v (upd H' a (Seal a φ))) E) :
    FnOk P w K mg base CX0 k f fd ps sp' := by
  refine ⟨len, fun A outer s H args us vs Q E hr he hb hv hs => ?_⟩
  have R := F.run A outer s H args us vs _ E hr he hb hv (h vs H Q E hs)
  refine codeAny_mono R fun r s' c => ?_
  cases r with
  | error x => exact (show False from c).elim
  | ok fl =>
    cases fl with
    | ret u =>
      obtain ⟨v, H', h1, h2, h3, h4, h5, a, φ, ys, h6, h7, h8⟩ := c
      refine ⟨v, upd H' a (Seal a φ), h1, h2, ?_, hok_seal h4 h6 h7, h5, h8⟩
      refine ⟨fun b o q n i j => h3.keep b o q n i j, fun b o q n i j => h3.slot b o q n i j, fun b o q n j => none_upd h6 (h3.free b o q n j), fun b o q j => h3.there b o q j, fun b zs q => ?_, fun b o z q => ?_, fun b zs q => ?_⟩
      · have z := h3.tups b zs q
        rw [upd_ne (ne_of z h6 (by intro y; cases y))]; exact z
      · have z := h3.frzs b o z q
        rw [upd_ne (ne_of z h6 (by intro y; cases y))]; exact z
      · obtain ⟨m, z⟩ := h3.tbls b zs q
        exact ⟨m, by rw [upd_ne (ne_of z h6 (by intro y; cases y))]; exact z⟩
    | _ => exact c
def spBag0 (K : PySem.W.Frag) : Sp := fun vs H Q _ => ∃ (a : Addr) (ns : List Int), vs = [.ref a] ∧ SqL K H a (ns.map V.int) ∧ ns.length ≤ 63 ∧ ∀ (H' : Hp) (b l : Addr) (ms : List Int) (ys : List V), Same H H' → H b = none → H' l = some (.lst (ms.map V.int)) → ms.length ≤ 63 → H' b = some (.lst ys) → bagF l ms.length ys → l ≠ b → Q (.ref b) H'
/-- the bag of a script: new -/
def spBag (K : PySem.W.Frag) : Sp := fun vs H Q _ => ∃ (a : Addr) (ns : List Int), vs = [.ref a] ∧ SqL K H a (ns.map V.int) ∧ ns.length ≤ 63 ∧ ∀ (H' : Hp) (b : Addr), Same H H' → H b = none → IsBag H' b → Q (.ref b) H'
theorem bag_sealed {P : Program} {w : World} {K : PySem.W.Frag} {mg : Str → Option Value} {base : Heap} {k : Nat} {f : Addr} {fd : FuncData} {ps : List Str}
    (F : FnOk P w K mg base CX0 k f fd ps (spBag0 K)) (h2 : ps.length = 1) : FnOk P w K mg base CX0 k f fd ps (spBag K) := by
  refine fn_seal_ret F (fun vs H Q E h => ?_) (fun vs H Q E h => ?_)
  · obtain ⟨a, ns, rfl, _⟩ := h
    exact h2.symm
  · obtain ⟨a, ns, rfl, hs, hn, q⟩ := h
    refine ⟨a, ns, rfl, hs, hn, fun H' b l ms ys sm nb hl hm hb hf lb => ⟨b, _, ys, hb, hf, q _ b ?_ nb ⟨l, ms, ?_, hm, upd_same⟩⟩⟩
    · intro c o e
      rw [upd_ne (ne_of_none e nb)]
      exact sm c o e
    · rw [upd_ne lb]; exact hl
theorem cut_map (ns : List Int) (lo hi : Option Int) : ∃ ms : List Int, cutV (ns.map V.int) lo hi = ms.map V.int ∧ ms.length ≤ ns.length := by
  refine ⟨(ns.drop (HT.sIx (ns.map V.int).length 0 lo)).take (HT.sIx (ns.map V.int).length (ns.map V.int).length hi - HT.sIx (ns.map V.int).length 0 lo), ?_, ?_⟩
  · unfold cutV
    rw [List.map_take, List.map_drop]
  · rw [List.length_take, List.length_drop]
    omega
theorem small63 {n : Nat} (h : n ≤ 1000) : n ≤ sizeLine := Nat.le_of_lt (small1000 h)
end My
/-! part Kit3 -/
namespace My
open PySem PySem.Spec PyProof.Rows L2
section
variable {X : Cx} (K : PySem.W.Frag) (h : X.K = K := by rfl)
include h
theorem k_ix_list : IxR X (rIxL K) := by subst h; exact ix_list
theorem k_ix_tup : IxR X (rIxT K) := by subst h; exact ix_tup
theorem k_op_in_seq : OpR X (compareOp .In) (rIn K false) := by subst h; exact op_in_seq
theorem k_op_notIn_seq : OpR X (compareOp .NotIn) (rIn K true) := by subst h; exact op_notIn_seq
theorem k_call_len_seq : CallR X (.builtin "len") (fun xs H Q => ∃ p ys, xs = [.ref p] ∧ (SqL K H p ys ∨ SqT K H p ys) ∧ Q (.int ys.length) H) := by subst h; exact call_len_seq
theorem k_sl_list : SlR X (rSlL K) := by subst h; exact sl_list
theorem k_sl_tup : SlR X (rSlT K) := by subst h; exact sl_tup
theorem k_call_list_of : CallR X (.type "list") (fun xs H Q => ∃ p ys, xs = [.ref p] ∧ (SqL K H p ys ∨ SqT K H p ys) ∧ ∀ l, H l = none → Q (.ref l) (upd H l (.lst ys))) := by subst h; exact call_list_of
theorem k_call_tuple_of : CallR X (.type "tuple") (fun xs H Q => ∃ p ys, xs = [.ref p] ∧ ((SqL K H p ys ∧ ∀ l, H l = none → Q (.ref l) (upd H l (.tup ys))) ∨ (SqT K H p ys ∧ Q (.ref p) H))) := by subst h; exact call_tuple_of
theorem k_op_catT : OpR X (binaryOp .Add) (rCatT K) := by subst h; exact op_catT
theorem k_call_isi : CallR X (.builtin "isinstance") (rIsi K) := by subst h; exact call_isi
theorem k_call_isiT : CallR X (.builtin "isinstance") (rIsiT K) := by subst h; exact call_isiT
theorem k_op_eqD (hu : X.A.units + 64 < cLine) : OpR X (compareOp .Eq) (rEqD K) := by subst h; exact op_eqD hu
theorem k_op_neD (hu : X.A.units + 64 < cLine) : OpR X (compareOp .NotEq) (rNeD K) := by subst h; exact op_neD hu
end
section
variable {X : Cx} (K : PySem.W.Frag) (h : X.K = K := by rfl) (hc : X.calm = true := by rfl)
include h hc
theorem k_cr_all : CallR X (.builtin "all") (rAll K) := by subst h; exact cr_all hc
theorem k_cr_any : CallR X (.builtin "any") (rAny K) := by subst h; exact cr_any hc
theorem k_cr_sum : CallR X (.builtin "sum") (rSum K) := by subst h; exact cr_sum hc
end
theorem _root_.L2.Same.seqT {K : PySem.W.Frag} {H H' : Hp} {a : Addr} {xs : List V} (e : Same H H') (h : SqT K H a xs) : SqT K H' a xs := by
  rcases h with (h | ⟨o, h⟩) | h
  · exact .inl (.inl (e _ _ h))
  · exact .inl (.inr ⟨o, e _ _ h⟩)
  · exact .inr h
theorem ty_list {K : PySem.W.Frag} {H : Hp} {a : Addr} {xs : List V} (h : SqL K H a xs) : TyX K H (.ref a) (.type "list") := by
  rcases h with (h | ⟨o, h⟩) | ⟨o, _, _, h, c, _⟩
  · exact .base (.lst h)
  · exact .base (.frz h)
  · exact .kList h c
theorem ty_tuple {K : PySem.W.Frag} {H : Hp} {a : Addr} {xs : List V} (h : SqT K H a xs) : TyX K H (.ref a) (.type "tuple") := by
  rcases h with (h | ⟨o, h⟩) | ⟨o, _, _, h, c, _⟩
  · exact .base (.tup h)
  · exact .fTuple h
  · exact .kTuple h c
theorem walk_zipT {K : PySem.W.Frag} {a b : Addr} {xs ys : List V} {n : Nat} (hn : n = min xs.length ys.length) : Walk (RZ.ItzT K a b) n (fun H => SqT K H a xs ∧ SqT K H b ys) (YPair (fun i => xs[i]?) (fun i => ys[i]?)) := by
  subst hn
  refine ⟨fun i H hi q => ?_, fun H q => ⟨xs, ys, q.1, q.2, by omega⟩, fun i H v H' hi q y => ?_⟩
  · have u1 : i < xs.length := by omega
    have u2 : i < ys.length := by omega
    exact ⟨xs, ys, xs[i], ys[i], q.1, q.2, by simp [u1], by simp [u2]⟩
  · obtain ⟨T, x, z, u1, u2, u3, u4, u5⟩ := y
    exact ⟨T, x, z, u1, u2, u3, u4 xs q.1, u5 ys q.2⟩
def scalV : V → Bool
  | .non => true
  | .bl _ => true
  | .int _ => true
  | .str _ => true
  | _ => false
/-- v and w are the same data, at most n deep -/
def Eqv (K : PySem.W.Frag) (H : Hp) : Nat → V → V → Prop
  | 0, _, _ => False
  | n + 1, v, w => (v = w ∧ scalV v = true) ∨
    (∃ (a b : Addr) (xs ys : List V), v = .ref a ∧ w = .ref b ∧ SqL K H a xs ∧ SqL K H b ys ∧ xs.length = ys.length ∧ xs.length < sizeLine ∧ ∀ (i : Nat) (x y : V), xs[i]? = some x → ys[i]? = some y → Eqv K H n x y) ∨
    (∃ (a b : Addr) (xs ys : List V), v = .ref a ∧ w = .ref b ∧ SqT K H a xs ∧ SqT K H b ys ∧ xs.length = ys.length ∧ xs.length < sizeLine ∧ ∀ (i : Nat) (x y : V), xs[i]? = some x → ys[i]? = some y → Eqv K H n x y)
theorem Eqv.same {K : PySem.W.Frag} {H H' : Hp} (s : Same H H') : ∀ {n : Nat} {v w : V}, Eqv K H n v w → Eqv K H' n v w
  | 0, _, _, h => h.elim
  | n + 1, _, _, .inl h => .inl h
  | n + 1, _, _, .inr (.inl ⟨a, b, xs, ys, e1, e2, h1, h2, h3, h4, h5⟩) => .inr (.inl ⟨a, b, xs, ys, e1, e2, s.seq h1, s.seq h2, h3, h4, fun i x y hx hy => Eqv.same s (h5 i x y hx hy)⟩)
  | n + 1, _, _, .inr (.inr ⟨a, b, xs, ys, e1, e2, h1, h2, h3, h4, h5⟩) => .inr (.inr ⟨a, b, xs, ys, e1, e2, Same.seqT s h1, Same.seqT s h2, h3, h4, fun i x y hx hy => Eqv.same s (h5 i x y hx hy)⟩)
/-- the law's own comparison, of same data -/
def spSame (K : PySem.W.Frag) (n : Nat) : Sp := fun vs H Q _ => ∃ (v w : V), vs = [v, w] ∧ Eqv K H n v w ∧ ∀ H', Same H H' → Q (.bl true) H'
end My
/-! part Kit4 -/
namespace My
open PySem PySem.Spec PyProof.Rows L2
/-! ### words of letters -/
abbrev az : Str := Str.ofString "abcdefghijklmnopqrstuvwxyz"
def kwL : List Str := [Str.ofString "let", Str.ofString "set", Str.ofString "out", Str.ofString "read", Str.ofString "do", Str.ofString "def", Str.ofString "if", Str.ofString "else", Str.ofString "repeat", Str.ofString "block"]
/-- the program's own test of a name -/
def nameB (z : Str) : Bool := if (z.length : Int) > 6 then false else Txt.isascii z && (Txt.isalpha z && (Txt.islower z && !kwL.contains z))
def toS (l : List Nat) : Str := ⟨l.toArray⟩
/-- the last t letters of the word with an index -/
def sfx : Nat → Nat → List Nat
  | 0, _ => []
  | t + 1, i => (97 + (i / 26 ^ t) % 26) :: sfx t i
theorem sfx_len : ∀ t i, (sfx t i).length = t
  | 0, _ => rfl
  | t + 1, i => by
    show (sfx t i).length + 1 = t + 1
    rw [sfx_len t i]
theorem toS_len (l : List Nat) : (toS l).length = l.length := by
  show l.toArray.size = l.length
  exact List.size_toArray ..
theorem toS_cons (c : Nat) (l : List Nat) : (⟨#[c]⟩ : Str) ++ toS l = toS (c :: l) := by
  show (⟨#[c] ++ l.toArray⟩ : Str) = ⟨(c :: l).toArray⟩
  rw [show #[c] ++ l.toArray = (c :: l).toArray by simp]
theorem az_at {k : Nat} (h : k < 26) : atI az.cps.toList (k : Int) = some (97 + k) := by
  have q : ∀ k : Fin 26, az.cps.toList[k.1]? = some (97 + k.1) := by decide +kernel
  exact atI_nat (q ⟨k, h⟩)
theorem az_len : az.length = 26 := by decide +kernel
theorem inV_strs (x : Str) : ∀ ys : List Str, inV (.str x) (ys.map V.str) = ys.contains x
  | [] => rfl
  | y :: ys => by
    have ih := inV_strs x ys
    unfold inV at ih ⊢
    rw [List.map_cons, List.any_cons, ih, List.contains_cons]
    rw [show eqV (.str y) (.str x) = (y == x) from rfl]
    rw [show (y == x) = (x == y) from Bool.eq_iff_iff.mpr ⟨fun h => beq_iff_eq.mpr (beq_iff_eq.mp h).symm, fun h => beq_iff_eq.mpr (beq_iff_eq.mp h).symm⟩]
theorem flat_strs (ys : List Str) : (ys.map V.str).all flatV = true := by
  rw [List.all_map]
  exact List.all_eq_true.mpr fun _ _ => rfl
end My
/-! part SetR -/
namespace My
open PySem PySem.Spec PyProof.Rows L2
section
variable {X : Cx}
theorem lawful_key : LawfulBEq Key where
  eq_of_beq {a b} h := by
    cases a <;> cases b
    · exact congrArg Sum.inl (eq_of_beq (α := Int) h)
    · cases h
    · cases h
    · exact congrArg Sum.inr (eq_of_beq (α := Str) h)
  rfl {a} := by
    cases a
    · exact beq_self_eq_true (α := Int) _
    · exact beq_self_eq_true (α := Str) _
theorem key_of_str {P : Program} {w : World} : ∀ {xs : List Str} {us : List Value}, Vals (xs.map V.str) us → ∀ (i : Nat) (v : Value), us.toArray[i]? = some v → ∃ k : Key, (xs.map Sum.inr)[i]? = some k ∧ (mixKind P w).is k v = true ∧ v.scannable = true
  | [], _, .nil, i, v, h => by simp at h
  | x :: xs, _, .cons r t, 0, v, h => by
    obtain ⟨t, rfl⟩ := r
    have e : Value.str x t = v := by simpa using h
    subst e
    exact ⟨.inr x, rfl, mixKind_str P w x t, rfl⟩
  | x :: xs, _,   .cons r t, i + 1, v, h => by
    obtain ⟨k, h1, h2⟩ := key_of_str (P := P) (w := w) t i v (by simpa using h)
    exact ⟨k, by simpa using h1, h2⟩
/-- set(x), x a list or tuple of texts: new, its members are those -/
def rSetS (K : PySem.W.Frag) (P : Program) (w : World) : List V → Hp → VK → Prop := fun vs H Q => ∃ (l : Addr) (xs : List Str), vs = [.ref l] ∧ (SqL K H l (xs.map V.str) ∨ SqT K H l (xs.map V.str)) ∧ xs.length ≤ 4000 ∧
  ∀ (a : Addr) (S : Key → Bool) (n : Nat), H a = none → (∀ x : Str, S (.inr x) = xs.contains x) → Q (.ref a) (upd H a (SetK P w a S n))
theorem cr_setS (hc : X.calm = true) : CallR X (.type "set") (rSetS X.K X.prog X.w) := by
  intro pins s σ H vs us Q I r h
  obtain ⟨l, xs, rfl, hs, hn, q⟩ := h
  rw [Vals.ref1 r]
  have go : ∀ its : List Value, Vals (xs.map V.str) its → (s.heap.IsList l its.toArray ∨ s.heap.IsTuple l its.toArray) → wpAny (model X.prog X.w) X.A (call (.type "set") [.ref l]) (EP X pins σ Q) X.xe s := fun its rv src => by
    haveI : LawfulBEq Key := lawful_key
    have e : its.length = xs.length := by rw [← rv.length, List.length_map]
    refine set_of (knd := mixKind X.prog X.w) l its.toArray (xs.map Sum.inr) (I.ok.hd hc) src (by rw [List.size_toArray, e]; unfold scanBound; omega) (key_of_str rv) fun h t m k => ?_
    obtain ⟨S, n, so, _, mem⟩ := m
    have hf : H s.heap.objs.size = none := I.hok.fresh (Nat.le_refl _)
    refine ⟨.ref s.heap.objs.size, _, I.laid (t' := t) (fun b o e => k b o (Heap.lt_size e) e) (Nat.le_refl _) (setK_new so), rfl, q _ S n hf fun x => ?_⟩
    rw [Bool.eq_iff_iff, mem, List.size_toArray, e, List.take_of_length_le (by rw [List.length_map]; exact Nat.le_refl _), List.contains_iff_mem, List.mem_map]
    exact ⟨fun ⟨y, hy, z⟩ => by cases z; exact hy, fun hy => ⟨x, hy, rfl⟩⟩
  rcases hs with hs | hs
  · obtain ⟨its, rv, p, _⟩ := I.list hs
    exact go its rv (.inl p.isList)
  · obtain ⟨its, rv, p, _⟩ := I.tuple hs
    exact go its rv (.inr p)
end
end My
/-! part Kit5 -/
namespace My
open PySem PySem.Spec PyProof.Rows L2
/-- the words of L letters, in order -/
def ws (L : Nat) : List Str := (List.range (26 ^ L)).map fun i => toS (sfx L i)
def okW (avoid : List Str) (z : Str) : Bool := nameB z && !avoid.contains z
/-- the words of fewer than L + 1 letters -/
def pre (L : Nat) : List Str := (List.range L).flatMap fun t => ws (t + 1)
/-- the first so many names that are not to be avoided -/
def fresh (many : Nat) (avoid : List Str) : List Str := ((pre 6).filter (okW avoid)).take many
theorem pre_succ (L : Nat) : pre (L + 1) = pre L ++ ws (L + 1) := by
  unfold pre
  rw [List.range_succ, List.flatMap_append, List.flatMap_singleton]
theorem pre_le {L : Nat} (h : L ≤ 6) : ∃ r, pre 6 = pre L ++ r := by
  have go : ∀ d : Nat, ∃ r, pre (L + d) = pre L ++ r := fun d => by
    induction d with
    | zero => exact ⟨[], by simp⟩
    | succ d ih =>
      obtain ⟨r, e⟩ := ih
      exact ⟨r ++ ws (L + d + 1), by rw [← Nat.add_assoc, pre_succ, e, List.append_assoc]⟩
  obtain ⟨r, e⟩ := go (6 - L)
  rw [show L + (6 - L) = 6 by omega] at e
  exact ⟨r, e⟩
theorem ws_get {L i : Nat} (h : i < 26 ^ L) : (ws L)[i]? = some (toS (sfx L i)) := by
  unfold ws
  rw [List.getElem?_map, List.getElem?_range h] <;> rfl
theorem ws_len (L : Nat) : (ws L).length = 26 ^ L := by
  unfold ws
  rw [List.length_map, List.length_range]
theorem take_front {many : Nat} {f : Str → Bool} (u v : List Str) (h : (u.filter f).length = many) : u.filter f = ((u ++ v).filter f).take many := by
  rw [List.filter_append, List.take_append_of_le_length (by rw [h]; exact Nat.le_refl _), List.take_of_length_le (by rw [h]; exact Nat.le_refl _)]
/-- a first part of what is gone through that has enough -/
theorem fresh_enough {many L j : Nat} {avoid : List Str} (hL : L < 6) (hj : ((pre L ++ (ws (L + 1)).take j).filter (okW avoid)).length = many) :
    (pre L ++ (ws (L + 1)).take j).filter (okW avoid) = fresh many avoid := by
  obtain ⟨r, e⟩ := pre_le (show L + 1 ≤ 6 by omega)
  have c : pre 6 = (pre L ++ (ws (L + 1)).take j) ++ ((ws (L + 1)).drop j ++ r) := by
    rw [e, pre_succ, List.append_assoc, List.append_assoc, ← List.append_assoc ((ws (L + 1)).take j), List.take_append_drop]
  unfold fresh
  rw [c]
  exact take_front _ _ hj
theorem fresh_end {many : Nat} {avoid : List Str} (h : ((pre 6).filter (okW avoid)).length ≤ many) : (pre 6).filter (okW avoid) = fresh many avoid := by
  unfold fresh
  rw [List.take_of_length_le h]
theorem fresh_len (many : Nat) (avoid : List Str) : (fresh many avoid).length ≤ many := by
  unfold fresh
  rw [List.length_take]
  omega
theorem sfx_mem : ∀ (t i c : Nat), c ∈ sfx t i → 97 ≤ c ∧ c < 123
  | 0, _, c, h => by cases h
  | t + 1, i, c, h => by
    rcases List.mem_cons.mp h with e | e
    · have q : i / 26 ^ t % 26 < 26 := Nat.mod_lt _ (by decide)
      rw [e]
      omega
    · exact sfx_mem t i c e
def spFresh (K : PySem.W.Frag) : Sp := fun vs H Q _ => ∃ (many : Nat) (l : Addr) (xs : List Str), vs = [.int many, .ref l] ∧ (SqL K H l (xs.map V.str) ∨ SqT K H l (xs.map V.str)) ∧ xs.length ≤ 4000 ∧ many ≤ 1000000 ∧
  ∀ (H' : Hp) (p : Addr), Same H H' → H p = none → H' p = some (.lst ((fresh many xs).map V.str)) → Q (.ref p) H'
end My
/-! part Kit6 -/
namespace My
open PySem PySem.Spec PyProof.Rows L2
theorem cut_to (xs : List V) (n : Nat) : cutV xs none (some (n : Int)) = xs.take n := by
  unfold cutV
  rw [HT.sIx_none, show HT.sIx xs.length xs.length (some (n : Int)) = min n xs.length from HT.sIx_nat xs.length xs.length n, List.drop_zero, Nat.sub_zero]
  rw [List.take_eq_take_iff]
  omega
theorem cut_mid (xs : List V) (m n : Nat) (h1 : m ≤ n) (h2 : n ≤ xs.length) : cutV xs (some (m : Int)) (some (n : Int)) = (xs.drop m).take (n - m) := by
  unfold cutV
  rw [show HT.sIx xs.length 0 (some (m : Int)) = min m xs.length from HT.sIx_nat xs.length 0 m, show HT.sIx xs.length xs.length (some (n : Int)) = min n xs.length from HT.sIx_nat xs.length xs.length n, Nat.min_eq_left (Nat.le_trans h1 h2), Nat.min_eq_left h2]
/-! ### the law's own words -/
def c26 : List Nat := (List.range 26).map (97 + ·)
def lw1 : List (List Nat) := c26.map fun x => [x]
def lw2 : List (List Nat) := c26.flatMap fun x => c26.map fun y => [x, y]
def lw3 : List (List Nat) := [97, 98].flatMap fun x => c26.flatMap fun y => c26.map fun z => [x, y, z]
def lawW : List Str := ((lw1 ++ lw2 ++ lw3).map toS).filter fun z => !kwL.contains z
theorem az_cps : az.cps.toList = c26 := by decide +kernel
def spWords : Sp := fun vs H Q _ => ∃ many : Nat, vs = [.int many] ∧ ∀ (H' : Hp) (p : Addr), Same H H' → H p = none → H' p = some (.lst ((lawW.take many).map V.str)) → Q (.ref p) H'
def spKw : Sp := fun vs H Q _ => vs = [] ∧ ∀ (H' : Hp) (p : Addr), Same H H' → H p = none → H' p = some (.lst (kwL.map V.str)) → Q (.ref p) H'
def spAz : Sp := fun vs H Q _ => vs = [] ∧ Q (.str az) H
end My
/-! part Kit7 -/
namespace My
open PySem PySem.Spec PyProof.Rows L2
section
variable {J : It} {n : Nat} {G : Hp → Prop} {Y : Nat → Hp → V → Hp → Prop} {g : TG} {tt : TT} {te : TE} {vs : List Nat} {σ : L2.St} {H1 : Hp} {D : Addr} {Qd : Hp → Prop}
/-- a comprehension whose i-th item gives `out i`, nothing for none: the new list of what was given -/
theorem lc_gen (w : Walk J n G Y) (out : Nat → Option V) (small : n < sizeLine) (nD : H1 D = none) (hG : ∀ H', Same H1 H' → G H')
    (hs : ∀ (i : Nat) (x : V) (H H' : Hp) (R : V → Hp → Prop) (Rn : Hp → Prop), i < n → Same H1 H → Y i H x H' → (∀ y, out i = some y → ∀ H4, Same H H4 → R y H4) → (out i = none → ∀ H4, Same H H4 → Rn H4) →
      g x (wipe σ vs) H' fun σ2 H2 => wipe σ2 vs = wipe σ vs ∧ tt σ2 H2 fun b H3 => if b = true then te σ2 H3 R else Rn H3)
    (hd : ∀ H', Same H1 H' → H' D = some (.lst ((List.range n).filterMap out)) → Qd H') :
    ∃ W : Nat → Nat → Hp → Prop, (∃ m, W 0 m (upd H1 D (.lst []))) ∧ ∀ i m H, W i m H →
      (J.stop i H ∧ Qd H) ∨ (J.go i H ∧ ∃ Nx : Hp → Prop, (∀ H', Nx H' → ∃ m', m' < m ∧ W (i + 1) m' H') ∧ ∀ x H', J.yld i H x H' → g x (wipe σ vs) H' fun σ2 H2 => wipe σ2 vs = wipe σ vs ∧ tt σ2 H2 fun b H3 =>
        if b = true then te σ2 H3 fun y H4 => ∃ acc, H4 D = some (.lst acc) ∧ acc.length < sizeLine ∧ Nx (upd H4 D (.lst (acc ++ [y]))) else Nx H3) := by
  have bound : ∀ i, ((List.range i).filterMap out).length ≤ i := fun i => Nat.le_trans (List.length_filterMap_le ..) (by rw [List.length_range]; exact Nat.le_refl _)
  have step : ∀ i, (List.range (i + 1)).filterMap out = (List.range i).filterMap out ++ (match out i with | some y => [y] | none => []) := fun i => by
    rw [List.range_succ, List.filterMap_append]
    cases h : out i with
    | none => rw [List.filterMap_cons_none h, List.filterMap_nil]
    | some y => rw [List.filterMap_cons_some h, List.filterMap_nil]
  refine lc_it w (fun i H => Same H1 H ∧ H D = some (.lst ((List.range i).filterMap out))) ⟨same_new nD _, upd_same⟩ (fun i H _ p => hG H p.1) (fun i x H H' hi p y => ?_) (fun H p => hd H p.1 p.2)
  refine hs i x H H' _ _ hi p.1 y (fun z e H4 s => ?_) (fun e H4 s => ?_)
  · refine ⟨_, s _ _ p.2, Nat.lt_of_le_of_lt (bound i) (Nat.lt_trans hi small), fun b o q => ?_, ?_⟩
    · rw [upd_ne (ne_of_none q nD)]
      exact s _ _ (p.1 _ _ q)
    · rw [upd_same, step, e]
  · refine ⟨p.1.trans s, ?_⟩
    rw [step, e, List.append_nil]
    exact s _ _ p.2
/-- a comprehension whose items are only known to be Ok -/
theorem lc_rel (w : Walk J n G Y) (Ok : Nat → V → Hp → Prop) (small : n < sizeLine) (nD : H1 D = none) (hG : ∀ H', Same H1 H' → G H') (mono : ∀ i y H H', (∀ b o, b ≠ D → H b = some o → H' b = some o) → Ok i y H → Ok i y H')
    (hs : ∀ (i : Nat) (x : V) (H H' : Hp) (R : V → Hp → Prop) (Rn : Hp → Prop), i < n → Same H1 H → H D ≠ none → Y i H x H' → (∀ y H4, Same H H4 → Ok i y H4 → R y H4) →
      g x (wipe σ vs) H' fun σ2 H2 => wipe σ2 vs = wipe σ vs ∧ tt σ2 H2 fun b H3 => if b = true then te σ2 H3 R else Rn H3)
    (hd : ∀ H' ys, Same H1 H' → ys.length = n → (∀ i y, ys[i]? = some y → Ok i y H') → H' D = some (.lst ys) → Qd H') :
    ∃ W : Nat → Nat → Hp → Prop, (∃ m, W 0 m (upd H1 D (.lst []))) ∧ ∀ i m H, W i m H →
      (J.stop i H ∧ Qd H) ∨ (J.go i H ∧ ∃ Nx : Hp → Prop, (∀ H', Nx H' → ∃ m', m' < m ∧ W (i + 1) m' H') ∧ ∀ x H', J.yld i H x H' → g x (wipe σ vs) H' fun σ2 H2 => wipe σ2 vs = wipe σ vs ∧ tt σ2 H2 fun b H3 =>
        if b = true then te σ2 H3 fun y H4 => ∃ acc, H4 D = some (.lst acc) ∧ acc.length < sizeLine ∧ Nx (upd H4 D (.lst (acc ++ [y]))) else Nx H3) := by
  refine lc_it w (fun i H => Same H1 H ∧ ∃ ys : List V, ys.length = i ∧ (∀ k y, ys[k]? = some y → Ok k y H) ∧ H D = some (.lst ys)) ?_ (fun i H _ p => hG H p.1) (fun i x H H' hi p y => ?_) (fun H p => ?_)
  · exact ⟨same_new nD _, [], rfl, fun k y h => by simp at h, upd_same⟩
  · obtain ⟨s1, ys, rfl, ok, e⟩ := p
    refine hs ys.length x H H' _ _ hi s1 (by rw [e]; exact fun z => nomatch z) y fun z H4 s o4 => ?_
    refine ⟨_, s _ _ e, Nat.lt_trans hi small, fun b o q => ?_, ys ++ [z], by rw [List.length_append, List.length_singleton], fun k u hu => ?_, upd_same⟩
    · rw [upd_ne (ne_of_none q nD)]
      exact s _ _ (s1 _ _ q)
    · have back : ∀ b o, b ≠ D → H4 b = some o → upd H4 D (.lst (ys ++ [z])) b = some o := fun b o hb q => by rw [upd_ne hb]; exact q
      by_cases hk : k < ys.length
      · rw [List.getElem?_append_left hk] at hu
        exact mono k u _ _ back (mono k u _ _ (fun b o _ q => s b o q) (ok k u hu))
      · rw [List.getElem?_append_right (by omega)] at hu
        have k0 : k = ys.length := by
          have := (List.getElem?_eq_some_iff.mp hu).1
          rw [List.length_singleton] at this
          omega
        subst k0
        rw [Nat.sub_self] at hu
        obtain rfl : z = u := Option.some.inj hu
        exact mono _ _ _ _ back o4
  · obtain ⟨s1, ys, h2, ok, e⟩ := p
    exact hd H ys s1 h2 ok e
end
end My
/-! part Kit8 -/
namespace My
open PySem PySem.Spec PyProof.Rows L2
theorem range_items {α β : Type} (l : List α) (f : α → Option β) (k : Nat) : (List.range k).filterMap (fun i => (l[i]?).bind f) = (l.take k).filterMap f := by
  induction k with
  | zero => rfl
  | succ k ih =>
    rw [List.range_succ, List.filterMap_append, ih, List.take_add_one, List.filterMap_append]
    congr 1
    cases h : l[k]? with
    | none =>
      rw [List.filterMap_cons_none (by show (l[k]?).bind f = none; rw [h] <;> rfl)]
      rfl
    | some x =>
      show [k].filterMap (fun i => (l[i]?).bind f) = [x].filterMap f
      cases h2 : f x with
      | none => rw [List.filterMap_cons_none (by show (l[k]?).bind f = none; rw [h]; exact h2), List.filterMap_cons_none h2]; rfl
      | some y => rw [List.filterMap_cons_some (b := y) (by show (l[k]?).bind f = some y; rw [h]; exact h2), List.filterMap_cons_some h2]; rfl
theorem range_all {α β : Type} (l : List α) (f : α → Option β) : (List.range l.length).filterMap (fun i => (l[i]?).bind f) = l.filterMap f := by
  rw [range_items, List.take_of_length_le (Nat.le_refl _)]
theorem filterMap_some {α β : Type} (f : α → β) : ∀ l : List α, l.filterMap (fun x => some (f x)) = l.map f
  | [] => rfl
  | x :: l => by
    rw [List.filterMap_cons_some (f := fun x => some (f x)) (b := f x) rfl, filterMap_some f l]
    rfl
theorem toS_app (a b : List Nat) : toS a ++ toS b = toS (a ++ b) := by
  show (⟨a.toArray ++ b.toArray⟩ : Str) = ⟨(a ++ b).toArray⟩
  rw [List.append_toArray]
def vS (l : List (List Nat)) : List V := l.map fun x => V.str (toS x)
theorem vS_len (l : List (List Nat)) : (vS l).length = l.length := List.length_map _
theorem vS_app (a b : List (List Nat)) : vS a ++ vS b = vS (a ++ b) := by
  unfold vS
  rw [List.map_append]
theorem vS_get {l : List (List Nat)} {i : Nat} {x : List Nat} (h : l[i]? = some x) : (vS l)[i]? = some (.str (toS x)) := by
  unfold vS
  rw [List.getElem?_map, h]
  rfl
theorem c26_len : c26.length = 26 := by decide
theorem az_size : az.cps.size = 26 := by decide +kernel
theorem az_getA (i : Nat) : az.cps[i]? = c26[i]? := by
  rw [← az_cps, Array.getElem?_toList]
end My
/-! part Kit9 -/
namespace My
open PySem PySem.Spec PyProof.Rows L2
/-- each word with each letter behind -/
def ext1 (l : List (List Nat)) : List (List Nat) := l.flatMap fun a => c26.map fun b => a ++ [b]
theorem ext1_len : ∀ l : List (List Nat), (ext1 l).length = 26 * l.length
  | [] => rfl
  | a :: l => by
    show (c26.map (fun b => a ++ [b]) ++ ext1 l).length = 26 * (l.length + 1)
    rw [List.length_append, List.length_map, ext1_len l, c26_len]
    omega
theorem ext1_app (l m : List (List Nat)) : ext1 (l ++ m) = ext1 l ++ ext1 m := by
  unfold ext1
  rw [List.flatMap_append]
theorem ext1_one (a : List Nat) : ext1 [a] = c26.map fun b => a ++ [b] := by
  unfold ext1
  rw [List.flatMap_singleton]
theorem ext1_nil : ext1 [[]] = lw1 := by decide +kernel
theorem ext1_lw1 : ext1 lw1 = lw2 := by decide +kernel
theorem ext1_ab : ext1 (ext1 [[97], [98]]) = lw3 := by decide +kernel
theorem lw1_len : lw1.length = 26 := by decide
theorem lw2_len : lw2.length = 676 := by decide +kernel
theorem vS_c26 (a : List Nat) : c26.map (fun c => V.str (toS (a ++ [c]))) = vS (ext1 [a]) := by
  rw [ext1_one]
  unfold vS
  rw [List.map_map]
  rfl
theorem take_snoc {α : Type} {l : List α} {i : Nat} {x : α} (h : l[i]? = some x) : l.take (i + 1) = l.take i ++ [x] := by
  rw [List.take_add_one, h]
  rfl
theorem ab_cps : (Str.ofString "ab").cps.toList = [97, 98] := by decide +kernel
end My
namespace My
open PySem PySem.Spec PyProof.Rows L2
theorem ab_size : (Str.ofString "ab").cps.size = 2 := by decide +kernel
theorem kw_filter : ∀ l : List (List Nat), l.filterMap (fun x => if kwL.contains (toS x) = true then none else some (V.str (toS x))) = ((l.map toS).filter fun z => !kwL.contains z).map V.str
  | [] => rfl
  | x :: l => by
    have ih := kw_filter l
    cases h : kwL.contains (toS x) with
    | true =>
      rw [List.filterMap_cons_none (by rw [h] <;> rfl), List.map_cons, List.filter_cons_of_neg (by rw [h]; exact Bool.false_ne_true), ih]
    | false =>
      rw [List.filterMap_cons_some (b := .str (toS x)) (by rw [h] <;> rfl), List.map_cons, List.filter_cons_of_pos (by rw [h] <;> rfl), ih, List.map_cons]
end My
/-! part KitA -/
namespace My
open PySem PySem.Spec PyProof.Rows L2
theorem letter_ok {c : Nat} (h1 : 97 ≤ c) (h2 : c < 123) : Unicode.isAlpha c = true ∧ Unicode.isLower c = true ∧ Unicode.isUpper c = false ∧ Unicode.isTitle c = false ∧ c < 128 := by
  have q : ∀ k : Fin 26, Unicode.isAlpha (97 + k.1) = true ∧ Unicode.isLower (97 + k.1) = true ∧ Unicode.isUpper (97 + k.1) = false ∧ Unicode.isTitle (97 + k.1) = false ∧ 97 + k.1 < 128 := by decide +kernel
  have e : c = 97 + (c - 97) := by omega
  rw [e]
  exact q ⟨c - 97, by omega⟩
/-- a word of letters is a name unless it is a keyword -/
theorem nameB_word {l : List Nat} (h0 : 0 < l.length) (h6 : l.length ≤ 6) (h : ∀ c ∈ l, 97 ≤ c ∧ c < 123) : nameB (toS l) = !kwL.contains (toS l) := by
  have a1 : Txt.isascii (toS l) = true := by
    show l.toArray.all (fun c => decide (c < 128)) = true
    rw [List.all_toArray]
    exact List.all_eq_true.mpr fun c hc => decide_eq_true (letter_ok (h c hc).1 (h c hc).2).2.2.2.2
  have a2 : Txt.isalpha (toS l) = true := by
    show (decide ((toS l).length > 0) && l.toArray.all Unicode.isAlpha) = true
    rw [List.all_toArray, toS_len, decide_eq_true h0]
    exact List.all_eq_true.mpr fun c hc => (letter_ok (h c hc).1 (h c hc).2).1
  have a3 : Txt.islower (toS l) = true := by
    show (l.toArray.any Unicode.isLower && !l.toArray.any fun c => Unicode.isUpper c || Unicode.isTitle c) = true
    rw [List.any_toArray, List.any_toArray]
    have b1 : l.any Unicode.isLower = true := by
      cases l with
      | nil => exact absurd h0 (by decide)
      | cons c r => exact List.any_eq_true.mpr ⟨c, List.mem_cons_self, (letter_ok (h c List.mem_cons_self).1 (h c List.mem_cons_self).2).2.1⟩
    have b2 : (l.any fun c => Unicode.isUpper c || Unicode.isTitle c) = false := List.any_eq_false.mpr fun c hc => by
      have q := letter_ok (h c hc).1 (h c hc).2
      rw [q.2.2.1, q.2.2.2.1]
      exact Bool.false_ne_true
    rw [b1, b2]
    rfl
  unfold nameB
  rw [if_neg (by rw [toS_len]; omega), a1, a2, a3]
  rfl
def lwAll : List (List Nat) := lw1 ++ lw2 ++ lw3
theorem lw_ok : lwAll.all (fun l => decide (0 < l.length) && decide (l.length ≤ 6) && l.all fun c => decide (97 ≤ c) && decide (c < 123)) = true := by decide +kernel
theorem lw_word {l : List Nat} (h : l ∈ lwAll) : nameB (toS l) = !kwL.contains (toS l) := by
  have q := List.all_eq_true.mp lw_ok l h
  simp only [Bool.and_eq_true, decide_eq_true_eq, List.all_eq_true] at q
  exact nameB_word q.1.1 q.1.2 fun c hc => q.2 c hc
theorem ws_eq {L : Nat} {l : List (List Nat)} {n : Nat} (h : (List.range n).map (sfx L) = l) (hn : n ≤ 26 ^ L) : (ws L).take n = l.map toS := by
  unfold ws
  rw [← List.map_take, List.take_range, Nat.min_eq_left hn, ← h, List.map_map]
  rfl
theorem pre_front : ∃ r, pre 6 = lwAll.map toS ++ r := by
  obtain ⟨r, e⟩ := pre_le (show 3 ≤ 6 by decide)
  have e1 : ws 1 = lw1.map toS := by
    rw [← ws_eq (L := 1) (n := 26) (l := lw1) (by decide +kernel) (by decide), List.take_of_length_le (by rw [ws_len]; decide)]
  have e2 : ws 2 = lw2.map toS := by
    rw [← ws_eq (L := 2) (n := 676) (l := lw2) (by decide +kernel) (by decide), List.take_of_length_le (by rw [ws_len]; decide)]
  have e3 : (ws 3).take 1352 = lw3.map toS := ws_eq (by decide +kernel) (by decide)
  refine ⟨(ws 3).drop 1352 ++ r, ?_⟩
  rw [e, show pre 3 = ws 1 ++ ws 2 ++ ws 3 by rw [pre_succ 2, pre_succ 1, pre_succ 0]; rfl]
  unfold lwAll
  rw [List.map_append, List.map_append, ← e1, ← e2, ← e3, ← List.append_assoc, List.append_assoc (ws 1 ++ ws 2) _ ((ws 3).drop 1352), List.take_append_drop]
theorem name_front : ∃ r, (pre 6).filter nameB = lawW ++ r := by
  obtain ⟨r, e⟩ := pre_front
  refine ⟨r.filter nameB, ?_⟩
  rw [e, List.filter_append]
  congr 1
  unfold lawW
  show _ = (lwAll.map toS).filter _
  refine List.filter_congr fun z hz => ?_
  obtain ⟨l, hl, rfl⟩ := List.mem_map.mp hz
  exact lw_word hl
/-! no word twice -/
def code (l : List Nat) : Nat := l.foldl (fun a c => a * 27 + (c - 96)) 0
def upB : List Nat → Bool
  | [] => true
  | [_] => true
  | a :: b :: r => decide (a < b) && upB (b :: r)
theorem up_pw : ∀ {l : List Nat}, upB l = true → l.Pairwise (· < ·)
  | [], _ => .nil
  | [a], _ => List.pairwise_singleton ..
  | a :: b :: r, h => by
    have h : (decide (a < b) && upB (b :: r)) = true := h
    rw [Bool.and_eq_true, decide_eq_true_eq] at h
    have ih := up_pw h.2
    refine List.pairwise_cons.mpr ⟨fun c hc => ?_, ih⟩
    rcases List.mem_cons.mp hc with e | e
    · rw [e]; exact h.1
    · exact Nat.lt_trans h.1 ((List.pairwise_cons.mp ih).1 c e)
theorem lw_chain : upB (lwAll.map code) = true := by decide +kernel
theorem toS_inj {a b : List Nat} (h : toS a = toS b) : a = b := by
  have q : a.toArray = b.toArray := congrArg Str.cps h
  simpa using q
theorem lw_nodup : (lwAll.map toS).Nodup := by
  have p : (lwAll.map code).Pairwise (· < ·) := up_pw lw_chain
  refine List.pairwise_map.mpr ((List.pairwise_map.mp p).imp fun {a b} h e => ?_)
  have q : a = b := toS_inj e
  rw [q] at h
  exact Nat.lt_irrefl _ h
theorem lawW_nodup : lawW.Nodup := List.Pairwise.filter _ lw_nodup
theorem lawW_len : lawW.length = 2052 := by decide +kernel
/-- of different words at most as many are avoided as there are to avoid -/
theorem left_over : ∀ (av : List Str) (l : List Str), l.Nodup → l.length ≤ (l.filter fun z => !av.contains z).length + av.length
  | [], l, _ => by
    have e : (l.filter fun z => !([] : List Str).contains z) = l := List.filter_eq_self.mpr fun _ _ => rfl
    rw [e]
    exact Nat.le_refl _
  | a :: av, l, h => by
    have e : (l.filter fun z => !(a :: av).contains z) = (l.filter fun z => z != a).filter fun z => !av.contains z := by
      rw [List.filter_filter]
      refine List.filter_congr fun z _ => ?_
      rw [List.contains_cons, Bool.not_or, Bool.and_comm]
      rfl
    have ih := left_over av (l.filter fun z => z != a) (List.Pairwise.filter _ h)
    have k : l.length ≤ (l.filter fun z => z != a).length + 1 := by
      rw [← List.Nodup.erase_eq_filter h, List.length_erase]
      split <;> omega
    rw [e, List.length_cons]
    omega
theorem fresh_law {many : Nat} {av : List Str} (h : many + av.length ≤ 1400) : fresh many av = ((lawW.take 1400).filter fun z => !av.contains z).take many := by
  obtain ⟨r, e⟩ := name_front
  have e2 : (pre 6).filter (okW av) = ((pre 6).filter nameB).filter fun z => !av.contains z := by
    rw [List.filter_filter]
    refine List.filter_congr fun z _ => ?_
    unfold okW
    rw [Bool.and_comm]
  unfold fresh
  rw [e2, e, show lawW ++ r = lawW.take 1400 ++ (lawW.drop 1400 ++ r) by rw [← List.append_assoc, List.take_append_drop], List.filter_append, List.take_append_of_le_length]
  have q := left_over av (lawW.take 1400) (lawW_nodup.sublist (List.take_sublist ..))
  rw [List.length_take, lawW_len] at q
  omega
end My
/-! part KitK -/
/-! calls by keywords alone -/
namespace My
open PySem PySem.Spec PyProof.Rows L2
/-- the items at these places -/
def pick {α : Type} (is : List Nat) (xs : List α) : List α := is.filterMap fun i => xs[i]?
theorem pick_rel : ∀ (is : List Nat) {zs : List V} {ws : List Value}, Vals zs ws → Vals (pick is zs) (pick is ws)
  | [], _, _, _ => .nil
  | i :: is, zs, ws, r => by
    have ih := pick_rel is r
    cases h : zs[i]? with
    | none =>
      have h2 := r.none_of h
      unfold pick
      rw [List.filterMap_cons_none h, List.filterMap_cons_none h2]
      exact ih
    | some v =>
      obtain ⟨u, h2, rv⟩ := r.get h
      unfold pick
      rw [List.filterMap_cons_some h, List.filterMap_cons_some h2]
      exact .cons rv ih
section
variable {K : PySem.W.Frag} {x qual : Str} {st : Stmt} {f : Addr} {fd : FuncData} {ps ks : List Str}
/-- how keywords bind: positional values first, then by the places `is` of the keywords -/
theorem kbn_of (F : L2.Fun K x qual st f fd) (n : Nat) (is : List Nat)
    (h : ∀ (kV doc pm : Value) (an : Option Addr) (cdv ct : Value) (us ws : List Value), us.length = n → ws.length = ks.length → bindArgs (PySem.W.fnOf x qual (defArgs st) (defBody st) (defScope st) .none kV doc pm an cdv ct) ⟨us, ks.zip ws⟩ = pure (ps.zip (us ++ pick is ws))) :
    KBn K fd ps n ks (fun us ws => us ++ pick is ws) (fun vs zs => vs ++ pick is zs) := by
  obtain ⟨oc, od, kV, doc, pm, an, cdv, ct, osl, rfl, lk, hcd⟩ := F.ex
  exact ⟨fun s us ws _ h1 h2 => .of_eq (h kV doc pm an cdv ct us ws h1 h2), fun r1 r2 => Vals.append r1 (pick_rel is r2)⟩
end
section
variable {X : Cx} {CX : CXT} {k n : Nat} {f : Addr} {fd : FuncData} {ps ks : List Str} {sp : Sp} {g : List Value → List Value → List Value} {gV : List V → List V → List V} {E : XK} {x : Str} {p pos : Pos} {kws : List Keyword} {tk : TA}
theorem pe_callK0 (F : FnOk X.prog X.w X.K X.mg X.base CX k f fd ps sp) (hr : Room k X.A) (hg : Gl X x) (hm : X.mg x = some (.ref f)) (hk : PySem.W.keepIn X.K (.ref f) = true) (hb : KBn X.K fd ps 0 ks g gV) (hx : Passes CX X E) (hkw : PK X kws tk)
    (hall : (backToKw pos (keywordEach kws X.env)).all (·.1.isSome) = true := by rfl) (hks : (backToKw pos (keywordEach kws X.env)).filterMap (·.1) = ks := by rfl) (hdb : (x == ("__debug__" : Str)) = false := by decide)
    (hpl : ((backTo pos (starEach [] X.env)).any (·.1) || (backToKw pos (keywordEach kws X.env)).any (·.1.isNone)) = false := by rfl) : PE X (.Call (.Name x p) [] kws pos) (tCallN 0 ks.length sp gV E tNil tk) := by
  refine ⟨fun pins s σ H Q I h => wpAny_Call_Name_kw (ld_glob I hg hm (PySem.W.callWith_KW0 (h₀ := X.base) I.ok.mod.kin hk hall ?_ hpl) hdb)⟩
  refine thn (hkw.run pos pins s σ H _ I h) fun ws s2 ⟨zs, H2, I2, rz, l1, l2, q2⟩ => ⟨I2.kIn, ?_⟩
  rw [hks]
  exact run_fnN F hr hb hx I2 .nil rz l1 l2 q2
end
end My
/-! part KitB -/
namespace My
open PySem PySem.Spec PyProof.Rows L2
def spLaw (K : PySem.W.Frag) : Sp := fun vs H Q _ => ∃ (a : Addr) (ns : List Int), vs = [.ref a] ∧ SqL K H a (ns.map V.int) ∧ ns.length ≤ 63 ∧ ∀ H', Q (.bl true) H'
/-- a list of texts -/
theorem strs_of {ys : List V} (h : ∀ (i : Nat) (y : V), ys[i]? = some y → ∃ s : Str, y = .str s) : ∃ ss : List Str, ys = ss.map V.str ∧ ss.length = ys.length := by
  induction ys with
  | nil => exact ⟨[], rfl, rfl⟩
  | cons y ys ih =>
    obtain ⟨s, rfl⟩ := h 0 y rfl
    obtain ⟨ss, e, l⟩ := ih fun i z hz => h (i + 1) z hz
    exact ⟨s :: ss, by rw [List.map_cons, ← e], by rw [List.length_cons, List.length_cons, l]⟩
/-- the same texts in two lists -/
theorem eqv_strs {K : PySem.W.Frag} {H : Hp} {a b : Addr} {ss : List Str} (h1 : SqL K H a (ss.map V.str)) (h2 : SqL K H b (ss.map V.str)) (hs : ss.length < sizeLine) (n : Nat) : Eqv K H (n + 2) (.ref a) (.ref b) := by
  refine .inr (.inl ⟨a, b, _, _, rfl, rfl, h1, h2, rfl, by rw [List.length_map]; exact hs, fun i x y hx hy => ?_⟩)
  rw [hx] at hy
  obtain rfl : x = y := Option.some.inj hy
  rw [List.getElem?_map] at hx
  obtain ⟨s, _, rfl⟩ := Option.map_eq_some_iff.mp hx
  exact .inl ⟨rfl, rfl⟩
theorem eqv_scal {K : PySem.W.Frag} {H : Hp} {n : Nat} {v : V} (h : scalV v = true) : Eqv K H (n + 1) v v := .inl ⟨rfl, h⟩
/-- a written list of things that are alike -/
theorem eqv_list {K : PySem.W.Frag} {H : Hp} {a b : Addr} {xs ys : List V} {n : Nat} (h1 : SqL K H a xs) (h2 : SqL K H b ys) (hs : xs.length < sizeLine) (h : Paired (Eqv K H n) xs ys) : Eqv K H (n + 1) (.ref a) (.ref b) := by
  refine .inr (.inl ⟨a, b, xs, ys, rfl, rfl, h1, h2, Paired.length h, hs, ?_⟩)
  clear h1 h2 hs
  induction h with
  | nil => intro i x y hx; simp at hx
  | cons r t ih =>
    intro i x y hx hy
    cases i with
    | zero =>
      obtain rfl := Option.some.inj hx
      obtain rfl := Option.some.inj hy
      exact r
    | succ i => exact ih i x y hx hy
theorem eqv_tup {K : PySem.W.Frag} {H : Hp} {a b : Addr} {xs ys : List V} {n : Nat} (h1 : SqT K H a xs) (h2 : SqT K H b ys) (hs : xs.length < sizeLine) (h : Paired (Eqv K H n) xs ys) : Eqv K H (n + 1) (.ref a) (.ref b) := by
  refine .inr (.inr ⟨a, b, xs, ys, rfl, rfl, h1, h2, Paired.length h, hs, ?_⟩)
  clear h1 h2 hs
  induction h with
  | nil => intro i x y hx; simp at hx
  | cons r t ih =>
    intro i x y hx hy
    cases i with
    | zero =>
      obtain rfl := Option.some.inj hx
      obtain rfl := Option.some.inj hy
      exact r
    | succ i => exact ih i x y hx hy
theorem str_filter (av : List Str) : ∀ l : List Str, l.filterMap (fun z => if av.contains z = true then none else some (V.str z)) = (l.filter fun z => !av.contains z).map V.str
  | [] => rfl
  | x :: l => by
    have ih := str_filter av l
    cases h : av.contains x with
    | true => rw [List.filterMap_cons_none (by rw [h] <;> rfl), List.filter_cons_of_neg (by rw [h]; exact Bool.false_ne_true), ih]
    | false => rw [List.filterMap_cons_some (b := .str x) (by rw [h] <;> rfl), List.filter_cons_of_pos (by rw [h] <;> rfl), ih, List.map_cons]
theorem same_none {K : PySem.W.Frag} {P : Program} {w : World} {mg : Str → Option Value} {base : Heap} {f : Addr} {fd : FuncData} {a b : Str} : FnOk P w K mg base CX0 0 f fd [a, b] (spSame K 0) :=
  ⟨fun vs H Q E h => (by obtain ⟨_, _, _, z, _⟩ := h; exact z.elim), fun A outer s H args us vs Q E _ _ _ _ h => (by obtain ⟨_, _, _, z, _⟩ := h; exact z.elim)⟩
end My
/-! part KitC -/
namespace My
open PySem PySem.Spec PyProof.Rows L2
theorem dp_strs {K : PySem.W.Frag} {H : Hp} : ∀ ss : List Str, DpAll K H (ss.map V.str) (ss.map PyData.str)
  | [] => .nil
  | s :: ss => .cons (.str s) (dp_strs ss)
theorem lay_strs : ∀ ss : List Str, (∀ s ∈ ss, PyData.strOk s = true) → PyData.canLayAll0 (ss.map PyData.str) = true
  | [], _ => rfl
  | s :: ss, h => by
    show (PyData.canLay0 (.str s) && PyData.canLayAll0 (ss.map PyData.str)) = true
    rw [lay_strs ss fun z hz => h z (List.mem_cons_of_mem _ hz), show PyData.canLay0 (.str s) = PyData.strOk s from rfl, h s List.mem_cons_self]
    rfl
theorem depth_strs : ∀ ss : List Str, PyData.depthAll (ss.map PyData.str) = 0
  | [] => by simp [PyData.depthAll]
  | s :: ss => by
    have ih := depth_strs ss
    simp [PyData.depthAll, PyData.depth, ih]
theorem shaped_strs {ss : List Str} (h : ∀ s ∈ ss, PyData.strOk s = true) : SeqAt.shaped (.list (ss.map PyData.str)) = true := by
  have d : PyData.depth (.list (ss.map PyData.str)) = 1 := by simp [PyData.depth, depth_strs]
  show (PyData.canLayAll0 (ss.map PyData.str) && decide (PyData.depth (.list (ss.map PyData.str)) ≤ 64)) = true
  rw [lay_strs ss h, d]
  rfl
theorem eqv_same {ss : List Str} (h : ∀ s ∈ ss, PyData.strOk s = true) : PyData.eqv (.list (ss.map PyData.str)) (.list (ss.map PyData.str)) = true := SeqAt.eqv_refl _ (lay_strs ss h)
theorem lawW_strOk : lawW.all (fun s => PyData.strOk s) = true := by decide +kernel
theorem strs_ok {ys : List V} (h : ∀ (i : Nat) (y : V), ys[i]? = some y → ∃ s : Str, y = .str s ∧ PyData.strOk s = true) : ∃ ss : List Str, ys = ss.map V.str ∧ ss.length = ys.length ∧ ∀ s ∈ ss, PyData.strOk s = true := by
  induction ys with
  | nil => exact ⟨[], rfl, rfl, fun s h => by cases h⟩
  | cons y ys ih =>
    obtain ⟨s, rfl, k⟩ := h 0 y rfl
    obtain ⟨ss, e, l, o⟩ := ih fun i z hz => h (i + 1) z hz
    refine ⟨s :: ss, by rw [List.map_cons, ← e], by rw [List.length_cons, List.length_cons, l], fun z hz => ?_⟩
    rcases List.mem_cons.mp hz with u | u
    · rw [u]; exact k
    · exact o z u
theorem new_at {H H' : Hp} {p : Addr} {o : HO} (hX : upd H p o = H') (np : H p = none) : Same H H' ∧ H' p = some o := by
  subst hX
  exact ⟨same_new np o, upd_same⟩
theorem same_over {H H' : Hp} {p : Addr} (s : Same H H') (n : H p = none) (o : HO) : Same H (upd H' p o) := fun b u e => by
  rw [upd_ne (ne_of_none e n)]
  exact s _ _ e
abbrev ww : List Str := lawW.take 1400
theorem ww_len : ww.length = 1400 := by
  show (lawW.take 1400).length = 1400
  rw [List.length_take, lawW_len]
  rfl
theorem late_all {m : Nat} (h : m ≤ 1400) : fresh m [] = ww.take m := by
  rw [fresh_law (by simpa using h)]
  have e : (ww.filter fun z => !([] : List Str).contains z) = ww := List.filter_eq_self.mpr fun _ _ => rfl
  rw [show (lawW.take 1400) = ww from rfl, e]
theorem late_mid {m : Nat} (h : 28 ≤ m) : ((ww.take m).drop 25).take 3 = [Str.ofString "z", Str.ofString "aa", Str.ofString "ab"] := by
  rw [List.drop_take, List.take_take, Nat.min_eq_left (by omega)]
  decide +kernel
theorem late_kw {m : Nat} {k : Str} (h : kwL.contains k = true) : (ww.take m).contains k = false := by
  cases q : (ww.take m).contains k
  · rfl
  · have mem : k ∈ lawW := List.mem_of_mem_take (List.mem_of_mem_take (List.contains_iff_mem.mp q))
    have z := (List.mem_filter.mp mem).2
    rw [h] at z
    cases z
abbrev held4 : List Str := [Str.ofString "a", Str.ofString "z", Str.ofString "zz", Str.ofString "dp"]
abbrev mid24 : List Str := (List.range 24).map fun i => toS [98 + i]
theorem late_held {m : Nat} (h1 : 26 ≤ m) (h2 : m ≤ 1000) : (fresh m held4).take 26 = mid24 ++ [Str.ofString "aa", Str.ofString "ab"] := by
  rw [fresh_law (by show m + 4 ≤ 1400; omega), List.take_take, Nat.min_eq_left h1]
  decide +kernel
end My
/-! part K00a -/
namespace Kx
open PySem PySem.Spec PyProof.Rows L2 My
def topS (i : Nat) : Stmt := PySem.Challenge.pw_piercednames_k00_errors_by_themselves.main.body.getD i (.Pass ⟨0, 0, 0, 0⟩)
abbrev s_NamesError : Stmt := topS 1
abbrev s_Missing : Stmt := topS 2
abbrev s_InvalidName : Stmt := topS 3
abbrev s_InvalidNumber : Stmt := topS 4
abbrev s_BadText : Stmt := topS 5
abbrev s_DuplicateName : Stmt := topS 6
abbrev s_Misused : Stmt := topS 7
abbrev s_OutOfReach : Stmt := topS 8
abbrev s_Lost : Stmt := topS 9
abbrev s_Doubled : Stmt := topS 10
abbrev s_Caught : Stmt := topS 11
abbrev s_InvalidFixed : Stmt := topS 12
abbrev s_InvalidNaming : Stmt := topS 13
abbrev s_NoSpare : Stmt := topS 14
abbrev s_TooMany : Stmt := topS 15
abbrev s_InvalidWorth : Stmt := topS 16
abbrev s_Beyond : Stmt := topS 17
abbrev s_InvalidEdit : Stmt := topS 18
abbrev s_NotFit : Stmt := topS 19
abbrev s_NotAbove : Stmt := topS 20
abbrev s_Ring : Stmt := topS 21
abbrev s_NoRoom : Stmt := topS 22
abbrev s_SamePerson : Stmt := topS 23
abbrev s_Unrelated : Stmt := topS 24
abbrev s_Argued : Stmt := topS 25
abbrev s_Unsound : Stmt := topS 26
abbrev s_Moved : Stmt := topS 27
abbrev s_NotFull : Stmt := topS 28
abbrev s_InvalidWay : Stmt := topS 29
abbrev s_InvalidItem : Stmt := topS 30
abbrev s_InvalidCells : Stmt := topS 31
abbrev s_SharedCell : Stmt := topS 32
abbrev s_Ended : Stmt := topS 33
abbrev s_InvalidDeed : Stmt := topS 34
abbrev s_BadJournal : Stmt := topS 35
abbrev s_Busy : Stmt := topS 36
abbrev s_NoDraft : Stmt := topS 37
abbrev s_HasDraft : Stmt := topS 38
abbrev s_NoMerge : Stmt := topS 39
abbrev s_UnknownId : Stmt := topS 40
abbrev s_UnknownName : Stmt := topS 41
abbrev s_UnknownPerson : Stmt := topS 42
abbrev s_UnknownAttribute : Stmt := topS 43
abbrev s_NoNaming : Stmt := topS 44
abbrev s_NothingLeft : Stmt := topS 45
abbrev s__law_bag : Stmt := topS 47
abbrev N__law_bag : List Str := ["_law_script", "_law_mixed", "_law_cell"]
theorem sc__law_bag : FnScope N__law_bag ["_law_script"] (defScope s__law_bag) := ⟨rfl, rfl, rfl, by decide +kernel, rfl, by decide +kernel, by decide +kernel⟩
-- slots: 0 _law_script, 1 _law_mixed, 2 _law_cell
abbrev s__law_draw : Stmt := topS 48
abbrev N__law_draw : List Str := ["_law_bag_here", "_law_many", "_law_cell", "_law_digit", "_law_seed"]
theorem sc__law_draw : FnScope N__law_draw ["_law_bag_here", "_law_many"] (defScope s__law_draw) := ⟨rfl, rfl, rfl, by decide +kernel, rfl, by decide +kernel, by decide +kernel⟩
-- slots: 0 _law_bag_here, 1 _law_many, 2 _law_cell, 3 _law_digit, 4 _law_seed
abbrev s__law_of : Stmt := topS 49
abbrev N__law_of : List Str := ["_law_bag_here", "_law_some"]
theorem sc__law_of : FnScope N__law_of ["_law_bag_here", "_law_some"] (defScope s__law_of) := ⟨rfl, rfl, rfl, by decide +kernel, rfl, by decide +kernel, by decide +kernel⟩
-- slots: 0 _law_bag_here, 1 _law_some
abbrev s__law_same : Stmt := topS 50
abbrev N__law_same : List Str := ["_law_found", "_law_due", "_law_key", "_law_one", "_law_two"]
theorem sc__law_same : FnScope N__law_same ["_law_found", "_law_due"] (defScope s__law_same) := ⟨rfl, rfl, rfl, by decide +kernel, rfl, by decide +kernel, by decide +kernel⟩
-- slots: 0 _law_found, 1 _law_due, 2 _law_key, 3 _law_one, 4 _law_two
abbrev s__law_nest : Stmt := topS 51
abbrev N__law_nest : List Str := []
theorem sc__law_nest : FnScope N__law_nest [] (defScope s__law_nest) := ⟨rfl, rfl, rfl, by decide +kernel, rfl, by decide +kernel, by decide +kernel⟩
-- slots: 
abbrev s__law_odd : Stmt := topS 52
abbrev N__law_odd : List Str := ["_law_bag_here"]
theorem sc__law_odd : FnScope N__law_odd ["_law_bag_here"] (defScope s__law_odd) := ⟨rfl, rfl, rfl, by decide +kernel, rfl, by decide +kernel, by decide +kernel⟩
-- slots: 0 _law_bag_here
abbrev s__law_told : Stmt := topS 53
abbrev N__law_told : List Str := ["_law_e"]
theorem sc__law_told : FnScope N__law_told ["_law_e"] (defScope s__law_told) := ⟨rfl, rfl, rfl, by decide +kernel, rfl, by decide +kernel, by decide +kernel⟩
-- slots: 0 _law_e
abbrev s__law_by_place : Stmt := topS 54
abbrev N__law_by_place : List Str := ["_law_one", "_law_two", "_law_three", "_law_four"]
theorem sc__law_by_place : FnScope N__law_by_place ["_law_one", "_law_two", "_law_three", "_law_four"] (defScope s__law_by_place) := ⟨rfl, rfl, rfl, by decide +kernel, rfl, by decide +kernel, by decide +kernel⟩
-- slots: 0 _law_one, 1 _law_two, 2 _law_three, 3 _law_four
abbrev s__law_by_name : Stmt := topS 55
abbrev N__law_by_name : List Str := ["_law_one", "_law_two", "_law_three", "_law_four"]
theorem sc__law_by_name : FnScope N__law_by_name ["_law_one", "_law_two", "_law_three", "_law_four"] (defScope s__law_by_name) := ⟨rfl, rfl, rfl, by decide +kernel, rfl, by decide +kernel, by decide +kernel⟩
-- slots: 0 _law_one, 1 _law_two, 2 _law_three, 3 _law_four
abbrev s__law_first_kinds : Stmt := topS 56
abbrev N__law_first_kinds : List Str := ["_law_e"]
theorem sc__law_first_kinds : FnScope N__law_first_kinds ["_law_e"] (defScope s__law_first_kinds) := ⟨rfl, rfl, rfl, by decide +kernel, rfl, by decide +kernel, by decide +kernel⟩
-- slots: 0 _law_e
abbrev s__law_late_kinds : Stmt := topS 57
abbrev N__law_late_kinds : List Str := ["_law_e"]
theorem sc__law_late_kinds : FnScope N__law_late_kinds ["_law_e"] (defScope s__law_late_kinds) := ⟨rfl, rfl, rfl, by decide +kernel, rfl, by decide +kernel, by decide +kernel⟩
-- slots: 0 _law_e
abbrev s__law_bases : Stmt := topS 58
abbrev N__law_bases : List Str := ["_law_e"]
theorem sc__law_bases : FnScope N__law_bases ["_law_e"] (defScope s__law_bases) := ⟨rfl, rfl, rfl, by decide +kernel, rfl, by decide +kernel, by decide +kernel⟩
-- slots: 0 _law_e
abbrev s_law : Stmt := topS 59
abbrev N_law : List Str := ["_law_script", "_law_bag_here", "_law_codes", "_law_sizes", "_law_turn", "_law_one", "_law_two", "_law_three", "_law_four", "_law_k", "_law_made", "_law_errors", "_law_e", "_law_kinds", "_law_j", "_law_due"]
theorem sc_law : FnScope N_law ["_law_script"] (defScope s_law) := ⟨rfl, rfl, rfl, by decide +kernel, rfl, by decide +kernel, by decide +kernel⟩
-- slots: 0 _law_script, 1 _law_bag_here, 2 _law_codes, 3 _law_sizes, 4 _law_turn, 5 _law_one, 6 _law_two, 7 _law_three, 8 _law_four, 9 _law_k, 10 _law_made, 11 _law_errors, 12 _law_e, 13 _law_kinds, 14 _law_j, 15 _law_due

structure Tx (K : PySem.W.Frag) (mg : Str → Option Value) where
  f__law_bag : Addr
  d__law_bag : FuncData
  F__law_bag : Fun K "_law_bag" "_law_bag" s__law_bag f__law_bag d__law_bag
  g__law_bag : mg "_law_bag" = some (.ref f__law_bag)
  b__law_bag : Binds K d__law_bag ["_law_script"] []
  f__law_draw : Addr
  d__law_draw : FuncData
  F__law_draw : Fun K "_law_draw" "_law_draw" s__law_draw f__law_draw d__law_draw
  g__law_draw : mg "_law_draw" = some (.ref f__law_draw)
  b__law_draw : Binds K d__law_draw ["_law_bag_here", "_law_many"] []
  f__law_of : Addr
  d__law_of : FuncData
  F__law_of : Fun K "_law_of" "_law_of" s__law_of f__law_of d__law_of
  g__law_of : mg "_law_of" = some (.ref f__law_of)
  b__law_of : Binds K d__law_of ["_law_bag_here", "_law_some"] []
  f__law_same : Addr
  d__law_same : FuncData
  F__law_same : Fun K "_law_same" "_law_same" s__law_same f__law_same d__law_same
  g__law_same : mg "_law_same" = some (.ref f__law_same)
  b__law_same : Binds K d__law_same ["_law_found", "_law_due"] []
  f__law_nest : Addr
  d__law_nest : FuncData
  F__law_nest : Fun K "_law_nest" "_law_nest" s__law_nest f__law_nest d__law_nest
  g__law_nest : mg "_law_nest" = some (.ref f__law_nest)
  b__law_nest : Binds K d__law_nest [] []
  f__law_odd : Addr
  d__law_odd : FuncData
  F__law_odd : Fun K "_law_odd" "_law_odd" s__law_odd f__law_odd d__law_odd
  g__law_odd : mg "_law_odd" = some (.ref f__law_odd)
  b__law_odd : Binds K d__law_odd ["_law_bag_here"] []
  f__law_told : Addr
  d__law_told : FuncData
  F__law_told : Fun K "_law_told" "_law_told" s__law_told f__law_told d__law_told
  g__law_told : mg "_law_told" = some (.ref f__law_told)
  b__law_told : Binds K d__law_told ["_law_e"] []
  f__law_by_place : Addr
  d__law_by_place : FuncData
  F__law_by_place : Fun K "_law_by_place" "_law_by_place" s__law_by_place f__law_by_place d__law_by_place
  g__law_by_place : mg "_law_by_place" = some (.ref f__law_by_place)
  b__law_by_place : Binds K d__law_by_place ["_law_one", "_law_two", "_law_three", "_law_four"] []
  f__law_by_name : Addr
  d__law_by_name : FuncData
  F__law_by_name : Fun K "_law_by_name" "_law_by_name" s__law_by_name f__law_by_name d__law_by_name
  g__law_by_name : mg "_law_by_name" = some (.ref f__law_by_name)
  b__law_by_name : Binds K d__law_by_name ["_law_one", "_law_two", "_law_three", "_law_four"] []
  f__law_first_kinds : Addr
  d__law_first_kinds : FuncData
  F__law_first_kinds : Fun K "_law_first_kinds" "_law_first_kinds" s__law_first_kinds f__law_first_kinds d__law_first_kinds
  g__law_first_kinds : mg "_law_first_kinds" = some (.ref f__law_first_kinds)
  b__law_first_kinds : Binds K d__law_first_kinds ["_law_e"] []
  f__law_late_kinds : Addr
  d__law_late_kinds : FuncData
  F__law_late_kinds : Fun K "_law_late_kinds" "_law_late_kinds" s__law_late_kinds f__law_late_kinds d__law_late_kinds
  g__law_late_kinds : mg "_law_late_kinds" = some (.ref f__law_late_kinds)
  b__law_late_kinds : Binds K d__law_late_kinds ["_law_e"] []
  f__law_bases : Addr
  d__law_bases : FuncData
  F__law_bases : Fun K "_law_bases" "_law_bases" s__law_bases f__law_bases d__law_bases
  g__law_bases : mg "_law_bases" = some (.ref f__law_bases)
  b__law_bases : Binds K d__law_bases ["_law_e"] []
  f_law : Addr
  d_law : FuncData
  F_law : Fun K "law" "law" s_law f_law d_law
  g_law : mg "law" = some (.ref f_law)
  z_IndexError : mg "IndexError" = none
  z_LookupError : mg "LookupError" = none
  z_ValueError : mg "ValueError" = none
  z_all : mg "all" = none
  z_bool : mg "bool" = none
  z_dict : mg "dict" = none
  z_int : mg "int" = none
  z_isinstance : mg "isinstance" = none
  z_len : mg "len" = none
  z_list : mg "list" = none
  z_range : mg "range" = none
  z_str : mg "str" = none
  z_tuple : mg "tuple" = none
  z_zip : mg "zip" = none

end Kx
/-! part K00b -/
namespace Kx
open PySem PySem.Spec PyProof.Rows L2 My
section
variable {P : Program} {w : World} {K : PySem.W.Frag} {mg : Str → Option Value} {base : Heap} (T : Tx K mg)
theorem ok_draw0 : FnOk P w K mg base CX0 1 T.f__law_draw T.d__law_draw ["_law_bag_here", "_law_many"] spDraw0 := by
  refine T.F__law_draw.ok sc__law_draw (fun vs H Q E h => ?_) (fun cdv A outer s H vs Q E hr h => ?_)
  · obtain ⟨a, l, ns, k, xs, rfl, _⟩ := h
    rfl
  obtain ⟨a, l, ns, k, xs, rfl, hl, ha, la, ⟨i, g, m, n, rfl, i0, i1, m0, m1⟩, k0, k1, q⟩ := h
  refine ⟨_, (pss_cons (ps_asg (pe_op op_add (pe_ix ix_list (pv 0) pe_int (fun _ _ => rfl)) pe_int) (pg_sub (pv 0) pe_int set_list))
  (C8.pss_cut (ps_if (PW.pt (pw_and (pt_cmpR op_eq (pe_ix ix_list (pv 0) pe_int (fun _ _ => rfl)) pe_int (nomark _)) (pw_and1 (pt_cmpR op_lt (pe_ix ix_list (pv 0) pe_int (fun _ _ => rfl)) (pe_callB call_len_seq (by rfl) T.z_len (by decide +kernel) (pa_cons (pe_ix ix_list (pv 0) pe_int (fun _ _ => rfl)) pa_nil)) (nomark _)))))
    (pss_cons (ps_set (i := 2) sc__law_draw.nd rfl (Or.inl rfl) (pe_ix ix_list (pe_ix ix_list (pv 0) pe_int (fun _ _ => rfl)) (pe_ix ix_list (pv 0) pe_int (fun _ _ => rfl)) (fun _ _ => rfl)))
    (pss_cons (ps_asg (pe_op op_add (pe_ix ix_list (pv 0) pe_int (fun _ _ => rfl)) pe_int) (pg_sub (pv 0) pe_int set_list))
    (C8.pss_cut (ps_if (pt_cmpR op_ge (pv 2) (pe_op op_pow pe_int pe_int) (nomark _))
      (pss_one (ps_asg (pv 2) (pg_sub (pv 0) pe_int set_list)))
      pss_nil)
    (pss_one (ps_asg (pe_op op_modN (pe_callTy call_int1 (by rfl) T.z_int (by decide +kernel) (pa_cons (pe_op op_add (pe_op op_add (pe_op op_mul (pe_ix ix_list (pv 0) pe_int (fun _ _ => rfl)) pe_int) (pe_op op_mul (pe_op op_modN (pe_callTy call_int1 (by rfl) T.z_int (by decide +kernel) (pa_cons (pv 2) pa_nil)) pe_int) pe_int)) pe_int) pa_nil)) pe_int) (pg_sub (pv 0) pe_int set_list))))))
    pss_nil)
  (pss_cons (ps_if (pt_cmpR op_gt (pe_ix ix_list (pv 0) pe_int (fun _ _ => rfl)) pe_int (nomark _))
    (pss_cons (ps_set (i := 3) sc__law_draw.nd rfl (Or.inl rfl) (pe_op op_modN (pe_callTy call_int1 (by rfl) T.z_int (by decide +kernel) (pa_cons (pe_ix ix_list (pv 0) pe_int (fun _ _ => rfl)) pa_nil)) (pv 1)))
    (pss_cons (ps_asg (pe_op op_fdivN (pe_callTy call_int1 (by rfl) T.z_int (by decide +kernel) (pa_cons (pe_ix ix_list (pv 0) pe_int (fun _ _ => rfl)) pa_nil)) (pv 1)) (pg_sub (pv 0) pe_int set_list))
    (pss_one (ps_ret (pv 3)))))
    pss_nil)
  (pss_cons (ps_set (i := 4) sc__law_draw.nd rfl (Or.inl rfl) (pe_ix ix_list (pv 0) pe_int (fun _ _ => rfl)))
  (pss_cons (ps_asg (pe_op op_modN (pe_callTy call_int1 (by rfl) T.z_int (by decide +kernel) (pa_cons (pe_op op_add (pe_op op_add (pe_op op_add (pe_op op_pow (pv 4) pe_int) (pe_op op_mul (pv 4) pe_int)) (pe_op op_mul (pe_ix ix_list (pv 0) pe_int (fun _ _ => rfl)) pe_int)) pe_int) pa_nil)) pe_int) (pg_sub (pv 0) pe_int set_list))
  (pss_one (ps_ret (pe_op op_modN (pe_callTy call_int1 (by rfl) T.z_int (by decide +kernel) (pa_cons (pe_op op_add (pe_op op_fdivN (pe_ix ix_list (pv 0) pe_int (fun _ _ => rfl)) pe_int) (pe_op op_mul (pe_op op_modN (pe_callTy call_int1 (by rfl) T.z_int (by decide +kernel) (pa_cons (pe_ix ix_list (pv 0) pe_int (fun _ _ => rfl)) pa_nil)) pe_int) pe_int)) pa_nil)) (pv 1))))))))), ?_⟩
  refine ⟨_, rfl, _, _, _, _, rfl, rfl, .inl (.inl ha), atI_nat (j := 4) rfl, _, _, rfl, rfl, _, rfl, _, _, _, _, rfl, rfl, ha, rfl, ?_⟩
  refine ⟨fun σ' H' => ∃ (x2 : Option V) (i g m n : Int), σ' = [some (.ref a), some (.int k), x2, none, none] ∧ 0 ≤ i ∧ i ≤ (ns.length : Int) ∧ 0 ≤ m ∧ m < 2147483629 ∧
    H' a = some (.lst [.ref l, .int i, .int g, .int m, .int n]) ∧ ∀ ys, upd H' a (.lst ys) = upd H a (.lst ys), ?_, fun σ' H' hm => ?_⟩
  · have hl1 : upd H a (.lst [.ref l, .int i, .int g, .int m, .int (n + 1)]) l = some (.lst (ns.map V.int)) := by rw [upd_ne la]; exact hl
    refine ⟨_, rfl, _, _, _, _, rfl, rfl, .inl (.inl upd_same), atI_nat (j := 2) rfl, rfl, _, rfl, ?_⟩
    refine ite2 (fun _ => ?_) (fun _ => iteF ⟨none, i, g, m, n + 1, rfl, i0, i1, m0, m1, upd_same, fun ys => upd_upd⟩)
    refine ⟨_, rfl, _, _, _, _, rfl, rfl, .inl (.inl upd_same), atI_nat (j := 1) rfl, _, rfl, _, _, _, _, rfl, rfl, .inl (.inl upd_same), atI_nat (j := 0) rfl, l, ns.map V.int, rfl, .inl (.inl (.inl hl1)), _, _, rfl, rfl, _, rfl, ?_⟩
    refine ite2 (fun c => ?_) (fun _ => ⟨none, i, g, m, n + 1, rfl, i0, i1, m0, m1, upd_same, fun ys => upd_upd⟩)
    have c1 : i < ((ns.map V.int).length : Int) := of_decide_eq_true c
    rw [List.length_map] at c1
    have hi : i.toNat < ns.length := by omega
    have ei : i = ((i.toNat : Nat) : Int) := by omega
    have at1 : atI (ns.map V.int) i = some (.int ns[i.toNat]) := by
      have z : atI (ns.map V.int) ((i.toNat : Nat) : Int) = some (.int ns[i.toNat]) := atI_nat (by rw [List.getElem?_map, List.getElem?_eq_getElem hi] <;> rfl)
      rw [← ei] at z
      exact z
    generalize ns[i.toNat] = cell at at1
    refine ⟨_, rfl, _, _, _, _, rfl, rfl, .inl (.inl upd_same), atI_nat (j := 0) rfl, _, rfl, _, _, _, _, rfl, rfl, .inl (.inl upd_same), atI_nat (j := 1) rfl, l, _, _, _, rfl, rfl, .inl (.inl hl1), at1, ?_⟩
    refine ⟨_, rfl, _, _, _, _, rfl, rfl, .inl (.inl upd_same), atI_nat (j := 1) rfl, _, _, rfl, rfl, _, rfl, _, _, _, _, rfl, rfl, upd_same, rfl, ?_⟩
    refine ⟨fun σ' H' => ∃ g : Int, σ' = [some (.ref a), some (.int k), some (.int cell), none, none] ∧ H' a = some (.lst [.ref l, .int (i + 1), .int g, .int m, .int (n + 1)]) ∧ ∀ ys, upd H' a (.lst ys) = upd H a (.lst ys), ?_, fun σ' H' hm => ?_⟩
    · refine ⟨_, rfl, _, _, rfl, rfl, ⟨by decide, by decide, by decide⟩, _, _, rfl, rfl, _, rfl, ?_⟩
      refine ite2 (fun _ => ?_) (fun _ => ⟨g, rfl, upd_same, fun ys => ?_⟩)
      · refine ⟨_, rfl, _, rfl, _, _, _, _, rfl, rfl, upd_same, rfl, cell, rfl, upd_same, fun ys => ?_⟩
        rw [upd_upd, upd_upd, upd_upd]
      · rw [upd_upd, upd_upd]
    · obtain ⟨g, rfl, hb, hz⟩ := hm
      refine ⟨_, rfl, _, _, _, _, rfl, rfl, .inl (.inl hb), atI_nat (j := 3) rfl, _, _, rfl, rfl, .inr ⟨by decide, by decide⟩, _, rfl, .inl ⟨_, rfl, _, _, rfl, rfl, (by show (2147483563 : Int) ≠ 0; decide), _, _, rfl, rfl, .inr ⟨by decide, by decide⟩, _, _, rfl, rfl, _, _, rfl, rfl, .inl ⟨_, rfl, _, _, rfl, rfl, (by show (2147483629 : Int) ≠ 0; decide), ?_⟩⟩⟩
      refine ⟨_, rfl, _, _, _, _, rfl, rfl, hb, rfl, some (.int cell), i + 1, g, _, n + 1, rfl, by omega, by omega, fmod_lo _ (by decide), fmod_hi _ (by decide), upd_same, fun ys => ?_⟩
      rw [upd_upd]
      exact hz ys
  · obtain ⟨x2, i, g, m, n, rfl, i0, i1, m0, m1, hb, hz⟩ := hm
    refine ⟨_, rfl, _, _, _, _, rfl, rfl, .inl (.inl hb), atI_nat (j := 2) rfl, _, _, rfl, rfl, _, rfl, ?_⟩
    refine ite2 (fun c => ?_) (fun _ => ?_)
    · -- the rest of a great one
      refine ⟨_, rfl, _, _, _, _, rfl, rfl, .inl (.inl hb), atI_nat (j := 2) rfl, .inl ⟨_, rfl, _, rfl, _, _, rfl, rfl, (by show k ≠ 0; omega), ?_⟩⟩
      refine ⟨_, rfl, _, _, _, _, rfl, rfl, .inl (.inl hb), atI_nat (j := 2) rfl, .inl ⟨_, rfl, _, rfl, _, _, rfl, rfl, ⟨by omega, by omega⟩, ?_⟩⟩
      refine ⟨_, rfl, _, _, _, _, rfl, rfl, hb, rfl, _, rfl, ?_⟩
      rw [hz]
      exact q _ _ (fmod_lo _ k0) (fmod_hi _ k0) ⟨i, _, m, n, rfl, i0, i1, m0, m1⟩
    · refine ⟨_, rfl, _, _, _, _, rfl, rfl, .inl (.inl hb), atI_nat (j := 3) rfl, ?_⟩
      refine ⟨_, rfl, _, _, rfl, rfl, ⟨by decide, by decide, by omega⟩, _, rfl, _, _, rfl, rfl, .inl ⟨by omega, by omega⟩, _, _, rfl, rfl, _, rfl, _, _, _, _, rfl, rfl, .inl (.inl hb), atI_nat (j := 4) rfl, _, _, rfl, rfl, .inr ⟨by decide, by decide⟩, _, _, rfl, rfl, _, _, rfl, rfl,
        .inl ⟨_, rfl, _, _, rfl, rfl, (by show (2147483629 : Int) ≠ 0; decide), ?_⟩⟩
      refine ⟨_, rfl, _, _, _, _, rfl, rfl, hb, rfl, ?_⟩
      refine ⟨_, rfl, _, _, _, _, rfl, rfl, .inl (.inl upd_same), atI_nat (j := 3) rfl, _, _, rfl, rfl, ⟨by decide, by decide⟩, _, rfl, _, _, _, _, rfl, rfl, .inl (.inl upd_same), atI_nat (j := 3) rfl, .inl ⟨_, rfl, _, _, rfl, rfl, (by show (7907 : Int) ≠ 0; decide), _, _, rfl, rfl, .inr ⟨by decide, by decide⟩, _, _, rfl, rfl, .inl ⟨_, rfl, _, rfl, _, _, rfl, rfl, (by show k ≠ 0; omega), ?_⟩⟩⟩
      rw [hz]
      exact q _ _ (fmod_lo _ k0) (fmod_hi _ k0) ⟨i, g, _, n, rfl, i0, i1, fmod_lo _ (by decide), fmod_hi _ (by decide)⟩
theorem ok_draw : FnOk P w K mg base CX0 1 T.f__law_draw T.d__law_draw ["_law_bag_here", "_law_many"] spDraw := draw_sealed (ok_draw0 T) rfl
theorem ok_of : FnOk P w K mg base CX0 2 T.f__law_of T.d__law_of ["_law_bag_here", "_law_some"] (spOf K) := by
  have G__law_draw := ok_draw (P := P) (w := w) (base := base) T
  refine T.F__law_of.ok sc__law_of (fun vs H Q E h => ?_) (fun cdv A outer s H vs Q E hr h => ?_)
  · obtain ⟨a, p, xs, rfl, _⟩ := h
    rfl
  obtain ⟨a, p, xs, rfl, hb, hp, h0, h1, q⟩ := h
  refine ⟨_, (pss_one (ps_ret (pe_ix ix_list (pv 1) (pe_call G__law_draw (hr.mono (by decide)) (by rfl) T.g__law_draw T.F__law_draw.kp T.b__law_draw .nil pass0 (pa_cons (pv 0) (pa_cons (pe_callB call_len_seq (by rfl) T.z_len (by decide +kernel) (pa_cons (pv 1) pa_nil)) pa_nil))) (fun _ _ => rfl)))), ?_⟩
  refine ⟨_, rfl, _, rfl, _, rfl, _, xs, rfl, .inl hp, a, _, rfl, hb, by omega, by omega, fun d d0 d1 => ?_⟩
  have hd : d.toNat < xs.length := by omega
  have ed : d = ((d.toNat : Nat) : Int) := by omega
  have z : atI xs ((d.toNat : Nat) : Int) = some xs[d.toNat] := atI_nat (List.getElem?_eq_getElem hd)
  rw [← ed] at z
  exact ⟨_, _, _, _, rfl, rfl, hp, z, q d.toNat _ (List.getElem?_eq_getElem hd)⟩
theorem ok_bag0 : FnOk P w K mg base CX0 1 T.f__law_bag T.d__law_bag ["_law_script"] (spBag0 K) := by
  refine T.F__law_bag.ok sc__law_bag (fun vs H Q E h => ?_) (fun cdv A outer s H vs Q E hr h => ?_)
  · obtain ⟨a, ns, rfl, _⟩ := h
    rfl
  obtain ⟨a, ns, rfl, hs, hn, q⟩ := h
  refine ⟨_, (pss_cons (ps_set (i := 1) sc__law_bag.nd rfl (Or.inl rfl) pe_int)
  (pss_cons (ps_for PassesOwn.never rfl (pi_list (pe_slice sl_list (pv 0) po_none (po_some pe_int))) (pg_name (i := 2) sc__law_bag.nd rfl (Or.inl rfl))
    (pss_one (ps_set (i := 1) sc__law_bag.nd rfl (Or.inl rfl) (pe_op op_modN (pe_callTy call_int1 (by rfl) T.z_int (by decide +kernel) (pa_cons (pe_op op_add (pe_op op_add (pe_op op_mul (pv 1) pe_int) (pe_op op_modN (pe_callTy call_int1 (by rfl) T.z_int (by decide +kernel) (pa_cons (pv 2) pa_nil)) pe_int)) pe_int) pa_nil)) pe_int))))
  (pss_one (ps_ret (pe_lst (pa_cons (pe_callTy call_list_of (by rfl) T.z_list (by decide +kernel) (pa_cons (pe_slice sl_list (pv 0) po_none (po_some pe_int)) pa_nil)) (pa_cons pe_int (pa_cons pe_int (pa_cons (pv 1) (pa_cons pe_int pa_nil)))))))))), ?_⟩
  obtain ⟨ms, em, hm⟩ := cut_map ns none (some 63)
  refine ⟨_, rfl, 63, rfl, a, _, rfl, hs, fun p np => ?_⟩
  rw [em]
  refine ⟨p, rfl, ⟨_, .inl (.inl upd_same)⟩, ?_⟩
  refine for_list (K := K) (a := p) (xs := ms.map V.int) (fun _ σ H' => ∃ (m : Int) (x : Option V), σ = [some (.ref a), some (.int m), x] ∧ 0 ≤ m ∧ m < 2147483629 ∧ H' = upd H p (.lst (ms.map V.int))) ⟨12028, none, rfl, by decide, by decide, rfl⟩ ?_ ?_ ?_
  · rintro i σ H' _ ⟨m, x, _, _, _, rfl⟩
    exact .inl (.inl upd_same)
  · rintro i v σ H' hv ⟨m, x, rfl, m0, m1, rfl⟩
    rw [List.getElem?_map] at hv
    obtain ⟨c, hc, rfl⟩ := Option.map_eq_some_iff.mp hv
    refine ⟨_, rfl, _, _, rfl, rfl, .inr ⟨by decide, by decide⟩, _, rfl, .inl ⟨_, rfl, _, _, rfl, rfl, (by show (2147483563 : Int) ≠ 0; decide), _, _, rfl, rfl, _, _, rfl, rfl, .inl ⟨_, rfl, _, _, rfl, rfl, (by show (2147483629 : Int) ≠ 0; decide), ?_⟩⟩⟩
    exact ⟨_, _, rfl, fmod_lo _ (by decide), fmod_hi _ (by decide), rfl⟩
  · rintro σ H' ⟨m, x, rfl, m0, m1, rfl⟩
    have s1 : Same H (upd H p (.lst (ms.map V.int))) := same_new np _
    refine ⟨_, rfl, 63, rfl, a, _, rfl, s1.seq hs, fun p2 np2 => ?_⟩
    rw [em]
    have s2 := same_new np2 (.lst (ms.map V.int))
    refine ⟨p2, _, rfl, .inl (.inl (.inl upd_same)), fun l nl => ?_⟩
    have s3 := same_new nl (.lst (ms.map V.int))
    refine ⟨_, rfl, (by show 5 ≤ sizeLine; decide), fun b nb => ?_⟩
    have s4 := same_new nb (.lst [.ref l, .int 0, .int 0, .int m, .int 0])
    have lb : l ≠ b := fun e => by
      rw [← e, upd_same] at nb
      cases nb
    refine q _ b l ms _ (s1.trans (s2.trans (s3.trans s4))) ((s1.trans (s2.trans s3)).free nb) ?_ (by omega) upd_same ⟨0, 0, m, 0, rfl, by omega, by omega, m0, m1⟩ lb
    exact s4 _ _ upd_same
theorem ok_bag : FnOk P w K mg base CX0 1 T.f__law_bag T.d__law_bag ["_law_script"] (spBag K) := bag_sealed (ok_bag0 T) rfl
end
end Kx
/-! part K00c -/
namespace Kx
open PySem PySem.Spec PyProof.Rows L2 My
section
variable {P : Program} {w : World} {K : PySem.W.Frag} {mg : Str → Option Value} {base : Heap} (T : Tx K mg)
theorem ok_same1 {n : Nat} (G__law_same : FnOk P w K mg base CX0 n T.f__law_same T.d__law_same ["_law_found", "_law_due"] (spSame K n)) : FnOk P w K mg base CX0 (n + 1) T.f__law_same T.d__law_same ["_law_found", "_law_due"] (spSame K (n + 1)) := by
  refine T.F__law_same.ok sc__law_same (fun vs H Q E h => ?_) (fun cdv A outer s H vs Q E hr h => ?_)
  · obtain ⟨v, w, rfl, _⟩ := h
    rfl
  obtain ⟨v, w, rfl, h, q⟩ := h
  refine ⟨_, (pss_cons (ps_if (pt_val (pe_callB call_isi (by rfl) T.z_isinstance (by decide +kernel) (pa_cons (pv 1) (pa_cons (pe_bltn (v := .ty "dict") (by rfl) T.z_dict (by decide +kernel) rfl) pa_nil))))
    (pss_cons (ps_if (PW.pt (pw_or (pt_not (pt_val (pe_callB call_isi (by rfl) T.z_isinstance (by decide +kernel) (pa_cons (pv 0) (pa_cons (pe_bltn (v := .ty "dict") (by rfl) T.z_dict (by decide +kernel) rfl) pa_nil))))) (pw_or (pt_cmpR op_ne (pe_callB call_len_seq (by rfl) T.z_len (by decide +kernel) (pa_cons (pv 0) pa_nil)) (pe_callB call_len_seq (by rfl) T.z_len (by decide +kernel) (pa_cons (pv 1) pa_nil)) (nomark _)) (pw_or1 (pt_not (pt_val (pe_callB (cr_all rfl) (by rfl) T.z_all (by decide +kernel) (pa_cons (pe_lc (own := [("_law_key", 2)]) (g := gName 2) (by rfl) sc__law_same.nd (pi_list (pe_callTy call_list_of (by rfl) T.z_list (by decide +kernel) (pa_cons (pv 1) pa_nil))) (blkOk_by (own := [("_law_key", 2)]) (N := N__law_same) (sc := defScope s__law_same) (by decide +kernel)) (fun _ _ _ _ _ => (pg_name (i := 2) sc__law_same.nd rfl (Or.inl rfl))) (fun _ _ _ _ _ => pts_nil) (fun _ _ _ _ _ => (pe_cmpR (k_op_in_seq K) (pv 2) (pv 0) (by rfl)))) pa_nil))))))))
      (pss_one (ps_ret pe_bl))
      pss_nil)
    (pss_one (ps_ret (pe_callB (cr_all rfl) (by rfl) T.z_all (by decide +kernel) (pa_cons (pe_lc (own := [("_law_key", 2)]) (g := gName 2) (by rfl) sc__law_same.nd (pi_list (pe_callTy call_list_of (by rfl) T.z_list (by decide +kernel) (pa_cons (pv 1) pa_nil))) (blkOk_by (own := [("_law_key", 2)]) (N := N__law_same) (sc := defScope s__law_same) (by decide +kernel)) (fun _ _ _ _ _ => (pg_name (i := 2) sc__law_same.nd rfl (Or.inl rfl))) (fun _ _ _ _ _ => pts_nil) (fun _ _ _ _ _ => (pe_call G__law_same hr (by rfl) T.g__law_same T.F__law_same.kp T.b__law_same .nil pass0 (pa_cons (pe_ix (k_ix_list K) (pv 0) (pv 2) (fun _ _ => rfl)) (pa_cons (pe_ix (k_ix_list K) (pv 1) (pv 2) (fun _ _ => rfl)) pa_nil))))) pa_nil)))))
    pss_nil)
  (pss_cons (ps_if (pt_val (pe_callB call_isiT (by rfl) T.z_isinstance (by decide +kernel) (pa_cons (pv 1) (pa_cons (pe_tup (pa_cons (pe_bltn (v := .ty "list") (by rfl) T.z_list (by decide +kernel) rfl) (pa_cons (pe_bltn (v := .ty "tuple") (by rfl) T.z_tuple (by decide +kernel) rfl) pa_nil))) pa_nil))))
    (pss_cons (ps_if (PW.pt (pw_or (pt_cmpR op_ne (pe_callB call_isi (by rfl) T.z_isinstance (by decide +kernel) (pa_cons (pv 0) (pa_cons (pe_bltn (v := .ty "list") (by rfl) T.z_list (by decide +kernel) rfl) pa_nil))) (pe_callB call_isi (by rfl) T.z_isinstance (by decide +kernel) (pa_cons (pv 1) (pa_cons (pe_bltn (v := .ty "list") (by rfl) T.z_list (by decide +kernel) rfl) pa_nil))) (nomark _)) (pw_or1 (pt_cmpR op_ne (pe_callB call_isi (by rfl) T.z_isinstance (by decide +kernel) (pa_cons (pv 0) (pa_cons (pe_bltn (v := .ty "tuple") (by rfl) T.z_tuple (by decide +kernel) rfl) pa_nil))) (pe_callB call_isi (by rfl) T.z_isinstance (by decide +kernel) (pa_cons (pv 1) (pa_cons (pe_bltn (v := .ty "tuple") (by rfl) T.z_tuple (by decide +kernel) rfl) pa_nil))) (nomark _)))))
      (pss_one (ps_ret pe_bl))
      pss_nil)
    (pss_one (ps_ret (pe_and (pe_cmpR op_eq (pe_callB call_len_seq (by rfl) T.z_len (by decide +kernel) (pa_cons (pv 0) pa_nil)) (pe_callB call_len_seq (by rfl) T.z_len (by decide +kernel) (pa_cons (pv 1) pa_nil)) (nomark _)) (pe_one (pe_callB (cr_all rfl) (by rfl) T.z_all (by decide +kernel) (pa_cons (pe_lc (own := [("_law_one", 3), ("_law_two", 4)]) (g := gTup K 2 (gCons (gName 3) (gCons (gName 4) gNil))) (by rfl) sc__law_same.nd (RZ.pi_zipA (by rfl) T.z_zip (pa_cons (pv 0) (pa_cons (pv 1) pa_nil))) (blkOk_by (own := [("_law_one", 3), ("_law_two", 4)]) (N := N__law_same) (sc := defScope s__law_same) (by decide +kernel)) (fun _ _ _ _ _ => (pg_tup (by rfl) (pgs_cons (pg_name (i := 3) sc__law_same.nd rfl (Or.inl rfl)) (pgs_cons (pg_name (i := 4) sc__law_same.nd rfl (Or.inl rfl)) pgs_nil)))) (fun _ _ _ _ _ => pts_nil) (fun _ _ _ _ _ => (pe_call G__law_same hr (by rfl) T.g__law_same T.F__law_same.kp T.b__law_same .nil pass0 (pa_cons (pv 3) (pa_cons (pv 4) pa_nil))))) pa_nil)))))))
    pss_nil)
  (pss_cons (ps_if (PW.pt (pw_or (pt_cmpR op_isN (pv 1) pe_non (nomark _)) (pw_or1 (pt_cmpR op_isN (pv 0) pe_non (nomark _)))))
    (pss_one (ps_ret (pe_and (pe_cmpR op_isN (pv 1) pe_non (nomark _)) (pe_one (pe_cmpR op_isN (pv 0) pe_non (nomark _))))))
    pss_nil)
  (pss_cons (ps_if (PW.pt (pw_or (pt_cmpR op_ne (pe_callB call_isi (by rfl) T.z_isinstance (by decide +kernel) (pa_cons (pv 0) (pa_cons (pe_bltn (v := .ty "bool") (by rfl) T.z_bool (by decide +kernel) rfl) pa_nil))) (pe_callB call_isi (by rfl) T.z_isinstance (by decide +kernel) (pa_cons (pv 1) (pa_cons (pe_bltn (v := .ty "bool") (by rfl) T.z_bool (by decide +kernel) rfl) pa_nil))) (nomark _)) (pw_or1 (pt_cmpR op_ne (pe_callB call_isi (by rfl) T.z_isinstance (by decide +kernel) (pa_cons (pv 0) (pa_cons (pe_bltn (v := .ty "int") (by rfl) T.z_int (by decide +kernel) rfl) pa_nil))) (pe_callB call_isi (by rfl) T.z_isinstance (by decide +kernel) (pa_cons (pv 1) (pa_cons (pe_bltn (v := .ty "int") (by rfl) T.z_int (by decide +kernel) rfl) pa_nil))) (nomark _)))))
    (pss_one (ps_ret pe_bl))
    pss_nil)
  (pss_one (ps_ret (pe_and (pe_cmpR op_eq (pe_callB call_isi (by rfl) T.z_isinstance (by decide +kernel) (pa_cons (pv 0) (pa_cons (pe_bltn (v := .ty "str") (by rfl) T.z_str (by decide +kernel) rfl) pa_nil))) (pe_callB call_isi (by rfl) T.z_isinstance (by decide +kernel) (pa_cons (pv 1) (pa_cons (pe_bltn (v := .ty "str") (by rfl) T.z_str (by decide +kernel) rfl) pa_nil))) (nomark _)) (pe_one (pe_cmpR op_eq (pv 0) (pv 1) (nomark _)))))))))), ?_⟩
  rcases h with ⟨rfl, hsc⟩ | ⟨a, b, xs, ys, rfl, rfl, h1, h2, hlen, hsz, hall⟩ | ⟨a, b, xs, ys, rfl, rfl, h1, h2, hlen, hsz, hall⟩
  · cases v with
    | non => 
      · -- none
        refine ⟨_, rfl, _, _, .type "NoneType", .type "dict", false, rfl, .ty _, .base .non, kit_ty (by decide +kernel), _, rfl, iteF ?_⟩
        refine ⟨_, rfl, (by show 2 ≤ sizeLine; decide), fun p np => ?_⟩
        refine ⟨_, p, _, .type "NoneType", [.type "list", .type "tuple"], false, rfl, upd_same, .cons (.ty _) (.cons (.ty _) .nil), .base .non, kitAny_cons (b := false) (kit_ty (by decide +kernel)) (fun _ => kitAny_cons (b := false) (kit_ty (by decide +kernel)) (fun _ => rfl) (fun z => nomatch z)) (fun z => nomatch z), _, rfl, iteF ?_⟩
        refine ⟨_, rfl, rfl, _, rfl, iteT ?_⟩
        refine iteT ?_
        refine ⟨_, rfl, rfl, _, rfl, iteT ?_⟩
        exact ⟨_, rfl, rfl, q _ (same_new np _)⟩
    | bl x => 
      · -- bool
        refine ⟨_, rfl, _, _, .type "bool", .type "dict", false, rfl, .ty _, .base (.bl _), kit_ty (by decide +kernel), _, rfl, iteF ?_⟩
        refine ⟨_, rfl, (by show 2 ≤ sizeLine; decide), fun p np => ?_⟩
        refine ⟨_, p, _, .type "bool", [.type "list", .type "tuple"], false, rfl, upd_same, .cons (.ty _) (.cons (.ty _) .nil), .base (.bl _), kitAny_cons (b := false) (kit_ty (by decide +kernel)) (fun _ => kitAny_cons (b := false) (kit_ty (by decide +kernel)) (fun _ => rfl) (fun z => nomatch z)) (fun z => nomatch z), _, rfl, iteF ?_⟩
        refine ⟨_, rfl, rfl, _, rfl, iteF ⟨_, rfl, rfl, _, rfl, iteF ?_⟩⟩
        refine ⟨_, rfl, _, _, .type "bool", .type "bool", true, rfl, .ty _, .base (.bl _), kit_ty (by decide +kernel), _, rfl, _, _, .type "bool", .type "bool", true, rfl, .ty _, .base (.bl _), kit_ty (by decide +kernel), rfl, _, rfl, iteF ?_⟩
        refine ⟨_, rfl, _, _, .type "bool", .type "int", true, rfl, .ty _, .base (.bl _), kit_ty (by decide +kernel), _, rfl, _, _, .type "bool", .type "int", true, rfl, .ty _, .base (.bl _), kit_ty (by decide +kernel), rfl, _, rfl, iteF ?_⟩
        refine ⟨_, rfl, _, _, .type "bool", .type "str", false, rfl, .ty _, .base (.bl _), kit_ty (by decide +kernel), _, rfl, _, _, .type "bool", .type "str", false, rfl, .ty _, .base (.bl _), kit_ty (by decide +kernel), rfl, _, rfl, iteT ?_⟩
        refine ⟨_, rfl, _, rfl, rfl, ?_⟩
        rw [decide_eq_true rfl]
        exact q _ (same_new np _)
    | int x => 
      · -- int
        refine ⟨_, rfl, _, _, .type "int", .type "dict", false, rfl, .ty _, .base (.int _), kit_ty (by decide +kernel), _, rfl, iteF ?_⟩
        refine ⟨_, rfl, (by show 2 ≤ sizeLine; decide), fun p np => ?_⟩
        refine ⟨_, p, _, .type "int", [.type "list", .type "tuple"], false, rfl, upd_same, .cons (.ty _) (.cons (.ty _) .nil), .base (.int _), kitAny_cons (b := false) (kit_ty (by decide +kernel)) (fun _ => kitAny_cons (b := false) (kit_ty (by decide +kernel)) (fun _ => rfl) (fun z => nomatch z)) (fun z => nomatch z), _, rfl, iteF ?_⟩
        refine ⟨_, rfl, rfl, _, rfl, iteF ⟨_, rfl, rfl, _, rfl, iteF ?_⟩⟩
        refine ⟨_, rfl, _, _, .type "int", .type "bool", false, rfl, .ty _, .base (.int _), kit_ty (by decide +kernel), _, rfl, _, _, .type "int", .type "bool", false, rfl, .ty _, .base (.int _), kit_ty (by decide +kernel), rfl, _, rfl, iteF ?_⟩
        refine ⟨_, rfl, _, _, .type "int", .type "int", true, rfl, .ty _, .base (.int _), kit_ty (by decide +kernel), _, rfl, _, _, .type "int", .type "int", true, rfl, .ty _, .base (.int _), kit_ty (by decide +kernel), rfl, _, rfl, iteF ?_⟩
        refine ⟨_, rfl, _, _, .type "int", .type "str", false, rfl, .ty _, .base (.int _), kit_ty (by decide +kernel), _, rfl, _, _, .type "int", .type "str", false, rfl, .ty _, .base (.int _), kit_ty (by decide +kernel), rfl, _, rfl, iteT ?_⟩
        refine ⟨_, rfl, _, rfl, rfl, ?_⟩
        rw [decide_eq_true rfl]
        exact q _ (same_new np _)
    | str x => 
      · -- str
        refine ⟨_, rfl, _, _, .type "str", .type "dict", false, rfl, .ty _, .base (.str _), kit_ty (by decide +kernel), _, rfl, iteF ?_⟩
        refine ⟨_, rfl, (by show 2 ≤ sizeLine; decide), fun p np => ?_⟩
        refine ⟨_, p, _, .type "str", [.type "list", .type "tuple"], false, rfl, upd_same, .cons (.ty _) (.cons (.ty _) .nil), .base (.str _), kitAny_cons (b := false) (kit_ty (by decide +kernel)) (fun _ => kitAny_cons (b := false) (kit_ty (by decide +kernel)) (fun _ => rfl) (fun z => nomatch z)) (fun z => nomatch z), _, rfl, iteF ?_⟩
        refine ⟨_, rfl, rfl, _, rfl, iteF ⟨_, rfl, rfl, _, rfl, iteF ?_⟩⟩
        refine ⟨_, rfl, _, _, .type "str", .type "bool", false, rfl, .ty _, .base (.str _), kit_ty (by decide +kernel), _, rfl, _, _, .type "str", .type "bool", false, rfl, .ty _, .base (.str _), kit_ty (by decide +kernel), rfl, _, rfl, iteF ?_⟩
        refine ⟨_, rfl, _, _, .type "str", .type "int", false, rfl, .ty _, .base (.str _), kit_ty (by decide +kernel), _, rfl, _, _, .type "str", .type "int", false, rfl, .ty _, .base (.str _), kit_ty (by decide +kernel), rfl, _, rfl, iteF ?_⟩
        refine ⟨_, rfl, _, _, .type "str", .type "str", true, rfl, .ty _, .base (.str _), kit_ty (by decide +kernel), _, rfl, _, _, .type "str", .type "str", true, rfl, .ty _, .base (.str _), kit_ty (by decide +kernel), rfl, _, rfl, iteT ?_⟩
        refine ⟨_, rfl, _, rfl, rfl, ?_⟩
        rw [decide_eq_true rfl]
        exact q _ (same_new np _)
    | _ => cases hsc
  · -- list
    refine ⟨_, rfl, _, _, .type "list", .type "dict", false, rfl, .ty _, (ty_list h2), kit_ty (by decide +kernel), _, rfl, iteF ?_⟩
    refine ⟨_, rfl, (by show 2 ≤ sizeLine; decide), fun p np => ?_⟩
    have g1 := h1
    have g2 := h2
    have sp := same_new np (.tup [.ty "list", .ty "tuple"])
    replace h1 := sp.seq h1
    replace h2 := sp.seq h2
    refine ⟨_, p, _, .type "list", [.type "list", .type "tuple"], true, rfl, upd_same, .cons (.ty _) (.cons (.ty _) .nil), (ty_list h2), kitAny_cons (b := true) (kit_ty (by decide +kernel)) (fun z => nomatch z) (fun _ => rfl), _, rfl, iteT ?_⟩
    refine ⟨_, rfl, _, _, .type "list", .type "list", true, rfl, .ty _, (ty_list h1), kit_ty (by decide +kernel), _, rfl, _, _, .type "list", .type "list", true, rfl, .ty _, (ty_list h2), kit_ty (by decide +kernel), rfl, _, rfl, iteF ?_⟩
    refine ⟨_, rfl, _, _, .type "list", .type "tuple", false, rfl, .ty _, (ty_list h1), kit_ty (by decide +kernel), _, rfl, _, _, .type "list", .type "tuple", false, rfl, .ty _, (ty_list h2), kit_ty (by decide +kernel), rfl, _, rfl, iteF ?_⟩
    refine ⟨_, rfl, _, _, rfl, .inl h1, _, rfl, _, _, rfl, .inl h2, rfl, ?_⟩
    refine ⟨_, rfl, ?_⟩
    rw [show decide (V.int (xs.length : Int) = V.int (ys.length : Int)) = true by rw [hlen]; exact decide_eq_true rfl]
    refine iteT ?_
    refine ⟨_, rfl, _, rfl, _, _, xs, ys, rfl, .inl ⟨h1, h2, fun D nD => ?_⟩⟩
    have sD := same_new nD (.lst [])
    refine lc_it (walk_zip (K := K) (a := a) (b := b) (xs := xs) (ys := ys) (n := xs.length) (by omega)) (fun i H' => Same H H' ∧ H' D = some (.lst ((List.replicate i true).map V.bl))) ⟨sp.trans sD, upd_same⟩ (fun i H' _ hp => ⟨hp.1.seq g1, hp.1.seq g2⟩) ?_ ?_
    · rintro i v H1 H2 hi ⟨hs1, hd1⟩ ⟨P, x, y, rfl, nP, rfl, hx, hy⟩
      have sP := same_new nP (.tup [x, y])
      refine ⟨P, _, rfl, .inl (.inl upd_same), rfl, _, _, rfl, _, _, rfl, rfl, rfl, ?_⟩

      refine ⟨_, rfl, _, rfl, x, y, rfl, (hall i x y hx hy).same (hs1.trans sP), fun H3 s3 => ?_⟩
      refine ⟨_, s3 _ _ (sP _ _ hd1), ?_, ?_, ?_⟩
      · rw [List.length_map, List.length_replicate]
        omega
      · intro c o e
        have nc : c ≠ D := ne_of_none (sp _ _ e) nD
        rw [upd_ne nc]
        exact s3 _ _ (sP _ _ (hs1 _ _ e))
      · rw [upd_same, List.replicate_succ', List.map_append]
        rfl
    · rintro H1 ⟨hs1, hd1⟩
      refine ⟨D, _, rfl, .inl (.inl hd1), ?_⟩
      rw [show (List.replicate xs.length true).all id = true by simp]
      exact q _ hs1
  · -- tuple
    refine ⟨_, rfl, _, _, .type "tuple", .type "dict", false, rfl, .ty _, (ty_tuple h2), kit_ty (by decide +kernel), _, rfl, iteF ?_⟩
    refine ⟨_, rfl, (by show 2 ≤ sizeLine; decide), fun p np => ?_⟩
    have g1 := h1
    have g2 := h2
    have sp := same_new np (.tup [.ty "list", .ty "tuple"])
    replace h1 := sp.seqT h1
    replace h2 := sp.seqT h2
    refine ⟨_, p, _, .type "tuple", [.type "list", .type "tuple"], true, rfl, upd_same, .cons (.ty _) (.cons (.ty _) .nil), (ty_tuple h2), kitAny_cons (b := false) (kit_ty (by decide +kernel)) (fun _ => kitAny_cons (b := true) (kit_ty (by decide +kernel)) (fun z => nomatch z) (fun _ => rfl)) (fun z => nomatch z), _, rfl, iteT ?_⟩
    refine ⟨_, rfl, _, _, .type "tuple", .type "list", false, rfl, .ty _, (ty_tuple h1), kit_ty (by decide +kernel), _, rfl, _, _, .type "tuple", .type "list", false, rfl, .ty _, (ty_tuple h2), kit_ty (by decide +kernel), rfl, _, rfl, iteF ?_⟩
    refine ⟨_, rfl, _, _, .type "tuple", .type "tuple", true, rfl, .ty _, (ty_tuple h1), kit_ty (by decide +kernel), _, rfl, _, _, .type "tuple", .type "tuple", true, rfl, .ty _, (ty_tuple h2), kit_ty (by decide +kernel), rfl, _, rfl, iteF ?_⟩
    refine ⟨_, rfl, _, _, rfl, .inr h1, _, rfl, _, _, rfl, .inr h2, rfl, ?_⟩
    refine ⟨_, rfl, ?_⟩
    rw [show decide (V.int (xs.length : Int) = V.int (ys.length : Int)) = true by rw [hlen]; exact decide_eq_true rfl]
    refine iteT ?_
    refine ⟨_, rfl, _, rfl, _, _, xs, ys, rfl, .inr ⟨h1, h2, fun D nD => ?_⟩⟩
    have sD := same_new nD (.lst [])
    refine lc_it (walk_zipT (K := K) (a := a) (b := b) (xs := xs) (ys := ys) (n := xs.length) (by omega)) (fun i H' => Same H H' ∧ H' D = some (.lst ((List.replicate i true).map V.bl))) ⟨sp.trans sD, upd_same⟩ (fun i H' _ hp => ⟨hp.1.seqT g1, hp.1.seqT g2⟩) ?_ ?_
    · rintro i v H1 H2 hi ⟨hs1, hd1⟩ ⟨P, x, y, rfl, nP, rfl, hx, hy⟩
      have sP := same_new nP (.tup [x, y])
      refine ⟨P, _, rfl, .inl (.inl upd_same), rfl, _, _, rfl, _, _, rfl, rfl, rfl, ?_⟩

      refine ⟨_, rfl, _, rfl, x, y, rfl, (hall i x y hx hy).same (hs1.trans sP), fun H3 s3 => ?_⟩
      refine ⟨_, s3 _ _ (sP _ _ hd1), ?_, ?_, ?_⟩
      · rw [List.length_map, List.length_replicate]
        omega
      · intro c o e
        have nc : c ≠ D := ne_of_none (sp _ _ e) nD
        rw [upd_ne nc]
        exact s3 _ _ (sP _ _ (hs1 _ _ e))
      · rw [upd_same, List.replicate_succ', List.map_append]
        rfl
    · rintro H1 ⟨hs1, hd1⟩
      refine ⟨D, _, rfl, .inl (.inl hd1), ?_⟩
      rw [show (List.replicate xs.length true).all id = true by simp]
      exact q _ hs1
end
end Kx
/-! part ExA -/
set_option maxHeartbeats 4000000
/-! an own exception class over any built-in one, called with keywords or without -/
namespace My
open PySem PySem.Spec PySem.W PySem.Calls PyProof.Rows
section
open Builtin Builtin.ObjectAttr
variable {M : Model} {prog : Program} {w : World} {A : Around} {E : Value → Shared → Prop} {R : Result → Shared → Prop} {h : Heap} {g : Array GenState} {d : Drawn} {t : Nat} {os : OsState}
variable {nm q : Str} {C N : Addr} {bs bm bmB : List Value} {hdct : Bool} {sn : List Str} {sub : List Value} {ab : Bool} {col : Option Bool} {dd : Option Addr} {k0 k1 k2 k3 k5 : Option Value} {B newId initId : String}
variable {rest : List Value} {kws : List (Str × Value)}
/-- the built-in __new__ takes what it is given -/
theorem exk_check {Q : Unit → Shared → Prop} (F : ExcBaseFacts B newId initId bmB) (hT : ∀ T : String, bm.contains (.type T) = bmB.contains (.type T))
    (cls : h.get? C = some (excClassObj nm q C N bs bm hdct sn sub ab col dd k0 k1 k2 k3 k5 newId)) (go : Q () ⟨h, g, d, t, os⟩) : wpAny M A (checkBuiltinCall newId ⟨.ref C :: rest, kws⟩) Q E ⟨h, g, d, t, os⟩ := by
  have inB : (Value.ref C :: bm).contains (.type B) = true := by
    rw [List.contains_cons, hT, F.hasB]
    exact Bool.or_true _
  have nst := F.noStar
  simp only [checkBuiltinCall, F.newKind, F.newSplit, F.newRow]
  repeat (first
    | refine wpAny_loadPart_at cls ?_
    | (refine wpAny_isSubtype_exc cls ?_; rw [inB])
    | refine wpAny_staticBase_exc cls ?_
    | refine wpAny_madeBy_exc cls ?_
    | simp only [bne_self_eq_false, Bool.false_eq_true, if_false]
    | wp_step)
  exact go

theorem exk_new (F : ExcBaseFacts B newId initId bmB) (hT : ∀ T : String, bm.contains (.type T) = bmB.contains (.type T)) (cls : h.get? C = some (excClassObj nm q C N bs bm hdct sn sub ab col dd k0 k1 k2 k3 k5 newId)) (few : rest.length ≤ sizeLine)
    (go : R (.ok (.ret (.ref (h.objs.size + 1)))) ⟨(h.push (kdv_tup rest)).push (PySem.HandSPX.excO C h.objs.size), g, d, t, os⟩) :
    codeAny (model prog w) A (.builtin newId ⟨.ref C :: rest, kws⟩) R ⟨h, g, d, t, os⟩ := by
  have fe := F.ends
  have isB : (Value.ref C :: bm).contains (.type B) = true := by
    rw [List.contains_cons, hT, F.hasB]
    exact Bool.or_true _
  have noA : (Value.ref C :: bm).contains (.type "AttributeError") = false := by
    rw [List.contains_cons, hT, F.noAttr] <;> rfl
  have noN : (Value.ref C :: bm).contains (.type "NameError") = false := by
    rw [List.contains_cons, hT, F.noName] <;> rfl
  refine codeAny_builtinAt F.entry ?_
  unfold Builtin.«BaseException.__new__»
  refine PySem.wpAt_bind ?_
  show PySem.wpAt _ _ _ (stack >>= _) _ _ _
  refine PySem.wpAt_bind (PySem.wpAt_stack fun p below => PySem.wpAt_of_wpAny ?_)
  wp_walk
  refine PySem.wpAt_of_wpAny ?_
  rw [F.owner]
  repeat (first
    | with_reducible refine wpAny_madeHere_exc F.canon cls ?_
    | with_reducible refine wpAny_loadPart_at cls ?_
    | (with_reducible refine wpAny_isSubtype_exc cls ?_; first | rw [isB] | rw [noA] | rw [noN])
    | wp_step)
  show R _ _
  rw [Heap.size_push]
  exact go
theorem exk_type (F : ExcBaseFacts B newId initId bmB) (hT : ∀ T : String, bm.contains (.type T) = bmB.contains (.type T)) {fI : Addr} {Q : Fin → Shared → Prop} (cls : h.get? C = some (excClassObj nm q C N bs bm hdct sn sub ab col dd k0 k1 k2 k3 k5 newId))
    (hi : Looks (model prog w) h (typeLookup (.ref C) "__init__") (some (.ref fI))) (hb : ∀ self, Looks (model prog w) h (bindSpecial (.ref fI) self) (.ref fI, [self])) (few : rest.length ≤ sizeLine)
    (go : codeAny (model prog w) A (.call (.ref fI) ⟨.ref (h.objs.size + 1) :: rest, kws⟩)
      (fun r s' => match r with | .ok (.ret v) => v = .none ∧ Q (.done (.ret (.ref (h.objs.size + 1)))) s' | .ok _ => False | .error e => E e s')
      ⟨(h.push (kdv_tup rest)).push (PySem.HandSPX.excO C h.objs.size), g, d, t, os⟩) :
    wpAny (model prog w) A (Builtin.«type.__call__» ⟨.ref C :: rest, kws⟩) Q E ⟨h, g, d, t, os⟩ := by
  repeat (first
    | with_reducible refine wpAny_loadPart_at cls ?_
    | with_reducible refine wpAny_madeBy_exc cls ?_
    | wp_step)
  refine codeAny_call_builtin_code (Code.quiet_builtin _ F.quiet) (exk_check F hT cls ?_)
  refine exk_new F hT cls few ?_
  show wpAny _ _ _ _ _ _
  have more : ∀ b o, h.get? b = some o → ((h.push (kdv_tup rest)).push (PySem.HandSPX.excO C h.objs.size)).get? b = some o := fun b o e => Heap.get?_push_of_some _ (Heap.get?_push_of_some _ e)
  have cls2 := more _ _ cls
  have made : ((h.push (kdv_tup rest)).push (PySem.HandSPX.excO C h.objs.size)).get? (h.objs.size + 1) = some (PySem.HandSPX.excO C h.objs.size) := by heap_get
  have isC : (Value.ref C :: bm).contains (.ref C) = true := by simp
  have i2 := hi.keeps more
  have b2 := (hb (.ref (h.objs.size + 1))).keeps more
  unfold isInstance
  repeat (first
    | with_reducible refine wpAny_loadPart_at made ?_
    | (with_reducible refine wpAny_isSubtype_exc cls2 ?_; rw [isC])
    | wp_step)
  show wpAny _ _ (typeLookup (.ref C) _) _ _ _
  refine i2.at ?_
  refine wpAny_holding (wpAny_bind (b2.at ?_))
  refine wpAny_bind (wpAny_call (codeAny_mono go fun r s' z => ?_))
  rcases r with e | (v | _ | _ | _) <;> first
    | exact z
    | exact z.elim
    | skip
  obtain ⟨rfl, z⟩ := z
  first
    | exact wpAny_pure (wpAny_pure z)
    | (wp_walk; exact z)
theorem exk_call (F : ExcBaseFacts B newId initId bmB) (hT : ∀ T : String, bm.contains (.type T) = bmB.contains (.type T)) {fI : Addr} (cls : h.get? C = some (excClassObj nm q C N bs bm hdct sn sub ab col dd k0 k1 k2 k3 k5 newId))
    (hi : Looks (model prog w) h (typeLookup (.ref C) "__init__") (some (.ref fI))) (hb : ∀ self, Looks (model prog w) h (bindSpecial (.ref fI) self) (.ref fI, [self])) (few : rest.length ≤ sizeLine)
    (go : codeAny (model prog w) (A.under (.builtin "type.__call__" ⟨.ref C :: rest, kws⟩)) (.call (.ref fI) ⟨.ref (h.objs.size + 1) :: rest, kws⟩) (InitBack (h.objs.size + 1) R)
      ⟨(h.push (kdv_tup rest)).push (PySem.HandSPX.excO C h.objs.size), g, d, t, os⟩) :
    codeAny (model prog w) A (.call (.ref C) ⟨rest, kws⟩) R ⟨h, g, d, t, os⟩ := by
  have l1 := tc_lookup
  have l2 := tc_bind (.ref C)
  have isTy : (⟨h, g, d, t, os⟩ : Shared).TypeIs (.ref C) "type" := ⟨_, cls, rfl⟩
  refine codeAny_of_tree ?_
  show wpAny _ _ (callAny (.ref C) _) _ _ _
  repeat (any_goals (first
    | assumption
    | with_reducible refine wpAny_loadPart_at cls ?_
    | wp_step))
  refine ⟨rfl, ?_⟩
  refine codeAny_call_builtin_at (Code.quiet_builtin _ (by decide +kernel)) entry_typeCall (wpAny_check_type_call_sub cls (exk_type F hT cls hi hb few ?_))
  refine codeAny_mono go fun r s' z => ?_
  rcases r with e | (v | _ | _ | _) <;> exact z
end
end My
/-! part ExB -/
set_option maxHeartbeats 4000000
namespace My
open PySem PySem.Spec PySem.W PySem.Calls PyProof.Rows
section
open Builtin Builtin.ObjectAttr
variable {prog : Program} {w : World} {A : Around} {R : Result → Shared → Prop} {hp : Heap} {g : Array GenState} {d : Drawn} {t : Nat} {os : OsState} {K : Frag} {name : Str} {tk : Tok} {v : Value} {x C : Addr} {fv : Array Value} {cd : ClassData} {bmB : List Value} {B : String}
/-- the way of a store past the classes, to the object's own dict -/
theorem exk_store {od : Option Obj} {dv : Option Addr} (SB : StoreFacts B bmB "object.__setattr__" "object") (X : K.In hp) (I : InstAt hp x { cls := .ref C, dict := dv, data := .fields fv } C od) (hcd : clsIn K C = some cd) (hm : excTail bmB cd.mro = true) (hne : cd.mro.isEmpty = false)
    (ha : findIn K (.ref C) name = some none)
    (go : wpAny (model prog w) A.in1 (storeInOwnDict (.ref x) (.ref C) (.str name tk) name v false) (fun fin s' => match fin with | .done f => R (.ok f) s' | .again c' => c'.quiet = true ∧ codeAny (model prog w) A c' R s') (fun e s' => R (.error e) s') ⟨hp, g, d, t, os⟩) :
    codeAny (model prog w) A (.call (.builtin "object.__setattr__") ⟨[.ref x, .str name tk, v], []⟩) R ⟨hp, g, d, t, os⟩ := by
  have SF := F.store_object
  have inO : cd.mro.contains (.type "object") = true := (excTail_contains "object" _ hm).trans SB.hasOwner
  have sb : Looks (model prog w) hp (isInstance (.ref x) (.type "object")) true := I.type.andThen (looks_mroIn X (by unfold mroIn; rw [hcd, Option.bind_some, if_neg (by rw [hne]; decide), inO]))
  refine codeAny_call_builtin SF.slot.plain SF.entry (@check_slot (model prog w) _ _ ⟨hp, g, d, t, os⟩ "object.__setattr__" "object" "__setattr__" (.ref x) [.str name tk, v] [] _ SF.kind SF.split sb (SF.args (.ref x) (.str name tk) v) ?_)
  have mr : Looks (model prog w) hp (mroOf (.ref C)) cd.mro := (looks_clsIn X hcd).andThen .now
  have st : Looks (model prog w) hp (storeTaker? none) none := .now
  rw [osa_eq, refuse_eq]
  refine wpAny_bind (wpAny_bind (I.type.at (wpAny_bind (mr.at ?_))))
  rw [excTail_pass _ (SB.passes _) _ hm]
  refine wpAny_pure (wpAny_bind (I.type.at (wpAny_bind ((looks_findIn X ha).at (wpAny_bind (st.at ?_))))))
  exact go
/-- the first store: the dict is laid -/
theorem exk_osa1 (SB : StoreFacts B bmB "object.__setattr__" "object") (X : K.In hp) (hx : hp.get? x = some { cls := .ref C, data := .fields fv }) (hcd : clsIn K C = some cd) (hm : excTail bmB cd.mro = true) (hne : cd.mro.isEmpty = false) (hh : cd.hasDict = true) (ha : findIn K (.ref C) name = some none)
    (go : ∀ h' tk' dx, (∀ b o, b ≠ x → hp.get? b = some o → h'.get? b = some o) → hp.objs.size ≤ dx → dx ≠ x → h'.get? x = some { cls := .ref C, dict := some dx, data := .fields fv } →
      h'.Ns1 dx (fun y => if y = name then some v else none) → R (.ok (.ret .none)) ⟨h', g, d, tk', os⟩) :
    codeAny (model prog w) A (.call (.builtin "object.__setattr__") ⟨[.ref x, .str name tk, v], []⟩) R ⟨hp, g, d, t, os⟩ := by
  refine exk_store (dv := none) (od := none) SB X ⟨hx, rfl, rfl, trivial⟩ hcd hm hne ha ?_
  have xs : x ≠ hp.objs.size := Nat.ne_of_lt (Heap.lt_size hx)
  have lc : Looks (model prog w) hp (classData C) cd := looks_clsIn X hcd
  obtain ⟨nm, bs, mro, ns, qn, hd, sn, sb, ab, col, del⟩ := cd
  dsimp only at hh
  subst hh
  unfold storeInOwnDict ownDictForStores
  repeat (first
    | with_reducible refine PySem.HandSPX.store_in_new ?_ ?_
    | with_reducible refine wpAny_loadPart_at hx ?_
    | with_reducible refine lc.at ?_
    | wp_step)
  · exact ⟨_, #[], _, (Heap.get?_update_ne _ _ _ _ xs.symm).trans (Heap.get?_push_at rfl rfl), rfl, fun e he => absurd he (by simp), fun _ => rfl⟩
  · intro h' tk' hn' hs
    have x1 : (hp.push { cls := .type "dict", data := .dict #[] }).get? x = some { cls := .ref C, data := .fields fv } := Heap.get?_push_of_some _ hx
    refine go h' tk' hp.objs.size (fun b o hb ho => ?_) (Nat.le_refl _) xs.symm ?_ hn'
    · refine (hs.2 b (Nat.ne_of_lt (Heap.lt_size ho))).trans ?_
      exact (Heap.get?_update_ne _ _ _ _ hb).trans (Heap.get?_push_of_some _ ho)
    · exact (hs.2 x xs).trans (Heap.get?_update_self _ x1 rfl)
/-- a later store -/
theorem exk_osa2 {dx : Addr} {m0 : Str → Option Value} {nl : List Str} (SB : StoreFacts B bmB "object.__setattr__" "object") (X : K.In hp) (hx : hp.get? x = some { cls := .ref C, dict := some dx, data := .fields fv }) (hns : hp.Ns1 dx m0) (hw : Within m0 nl) (hz : nl.length ≤ 1000)
    (hcd : clsIn K C = some cd) (hm : excTail bmB cd.mro = true) (hne : cd.mro.isEmpty = false) (hh : cd.hasDict = true) (ha : findIn K (.ref C) name = some none)
    (go : ∀ h' tk', (∀ b o, b ≠ dx → hp.get? b = some o → h'.get? b = some o) → h'.Ns1 dx (fun y => if y = name then some v else m0 y) → R (.ok (.ret .none)) ⟨h', g, d, tk', os⟩) :
    codeAny (model prog w) A (.call (.builtin "object.__setattr__") ⟨[.ref x, .str name tk, v], []⟩) R ⟨hp, g, d, t, os⟩ := by
  obtain ⟨oD, esD, epD, hoD, hdD, _⟩ := hns.count hw
  refine exk_store (dv := some dx) (od := some oD) SB X ⟨hx, rfl, rfl, hoD⟩ hcd hm hne ha ?_
  have lc : Looks (model prog w) hp (classData C) cd := looks_clsIn X hcd
  obtain ⟨nm, bs, mro, ns, qn, hd, sn, sb, ab, col, del⟩ := cd
  dsimp only at hh
  subst hh
  unfold storeInOwnDict ownDictForStores
  repeat (first
    | with_reducible refine PySem.OEX.store_in_old hns hw hz ?_
    | with_reducible refine wpAny_loadPart_at hx ?_
    | with_reducible refine lc.at ?_
    | wp_step)
  intro h' tk' hn' hs
  exact go h' tk' (fun b o hb ho => (hs.2 b hb).trans ho) hn'
end
end My
namespace My
open PySem PySem.Spec PyProof.Rows L2
/-- what the written part says of an own exception class at C, over the built-in B -/
structure XCls (K : PySem.W.Frag) (C : Addr) : Prop where
  cls : ∃ (B newId initId : String) (bmB : List Value), ExcBaseFacts B newId initId bmB ∧ PySem.StoreFacts B bmB "object.__setattr__" "object" ∧
    ∃ nm q N bs bm sn sub ab col dd k0 k1 k2 k3 k5, K.lookup C = some (excClassObj nm q C N bs bm true sn sub ab col dd k0 k1 k2 k3 k5 newId) ∧ PySem.W.excTail bmB bm = true
  sa : PySem.W.findIn K (.ref C) "__setattr__" = some (some (.builtin "object.__setattr__"))
  exC : PySem.W.subIn K (.ref C) (.type "BaseException") = some true
  tyC : PySem.W.typeIn K (.ref C) = some (.type "type")
  kC : PySem.W.keepIn K (.ref C) = true
  ga : PySem.W.findIn K (.ref C) "__getattribute__" = some (some (.builtin "BaseException.__getattribute__"))
  gt : PySem.W.findIn K (.ref C) "__getattr__" = some none
  ha : PySem.W.findIn K (.ref C) "__class__" = some (some (.builtin "object.__class__"))
  hn : PySem.W.specialIn K (.builtin "object.__class__") "__get__" = some (some (.builtin "getset_descriptor.__get__"))
  ht : PySem.W.takesIn K (.builtin "object.__class__") = some true
  hm : PySem.W.mroIn K C (.type "object") = some true
theorem XCls.data {K : PySem.W.Frag} {C : Addr} (T : XCls K C) : ∃ (B newId initId : String) (bmB : List Value) (cd : ClassData), ExcBaseFacts B newId initId bmB ∧ PySem.StoreFacts B bmB "object.__setattr__" "object" ∧ PySem.W.clsIn K C = some cd ∧ PySem.W.excTail bmB cd.mro = true ∧ cd.mro.isEmpty = false ∧ cd.hasDict = true := by
  obtain ⟨B, newId, initId, bmB, FB, SB, nm, q, N, bs, bm, sn, sub, ab, col, dd, k0, k1, k2, k3, k5, hC, hbm⟩ := T.cls
  refine ⟨B, newId, initId, bmB, { name := nm, bases := bs, mro := .ref C :: bm, ns := N, qualname := q, hasDict := true, slotNames := sn, subclasses := sub, abstract := ab, collection := col, hasDel := false }, FB, SB, ?_, hbm, rfl, rfl⟩
  unfold PySem.W.clsIn
  rw [hC] <;> rfl
theorem XCls.hd {K : PySem.W.Frag} {C : Addr} (T : XCls K C) : PySem.W.hasDictIn K C = true := by
  obtain ⟨_, _, _, _, cd, _, _, h, _, _, e⟩ := T.data
  unfold PySem.W.hasDictIn
  rw [h]
  exact e
/-- a made exception of the class at C, its fields fs -/
def ExV (H : Hp) (a C : Addr) (fs : List (Str × V)) : Prop := ∃ d, H a = some (exo a C (some d)) ∧ H d = some (exd d fs)
theorem ExV.same {H H' : Hp} {a C : Addr} {fs : List (Str × V)} (e : ExV H a C fs) (s : Same H H') : ExV H' a C fs := by
  obtain ⟨d, h1, h2⟩ := e
  exact ⟨d, s _ _ h1, s _ _ h2⟩
section
variable {X : Cx} {pins : List (Addr × Obj)} {σ : L2.St} {H : Hp} {s : Shared} {a C dx : Addr} {f : Str} {y : V} {u : Value} {fs : List (Str × V)} {Q : Unit → Shared → Prop} {E : Value → Shared → Prop} {A : Around}
/-- self.f = y, the first one -/
theorem xst_new (T : XCls X.K C) (I : Inv X pins σ H s) (e : H a = some (exo a C none)) (hno : PySem.W.findIn X.K (.ref C) f = some none) (ry : RelV y u)
    (h : ∀ dx s', H dx = none → dx ≠ a → Inv X pins σ (upd (upd H dx (exd dx [(f, y)])) a (exo a C (some dx))) s' → Q () s') : wpAny (model X.prog X.w) A (setAttr (.ref a) f u) Q E s := by
  obtain ⟨B, newId, initId, bmB, cd, FB, SB, hcl, hbm, hne, hhd⟩ := T.data
  obtain ⟨t1, ho⟩ := exo_at I.hok e
  obtain ⟨hp, g, d, t, os⟩ := s
  refine PySem.W.set_plain I.kIn (ox := { cls := .ref C, dict := none, data := .fields #[.ref t1, .none, .none, .none, .bool false, .none] }) (od := none) ⟨ho, rfl, rfl, trivial⟩ T.sa ?_
  refine exk_osa1 SB I.kIn ho hcl hbm hne hhd hno (fun h' tk' dx k dn dne hx hn => ?_)
  have hnd : H dx = none := I.hok.fresh dn
  have nd : ∀ {b : Addr} {o : Obj}, hp.get? b = some o → b ≠ dx := fun {b o} q => Nat.ne_of_lt (Nat.lt_of_lt_of_le (Heap.lt_size q) dn)
  have na : ∀ {b : Addr}, H b = none → b ≠ a := fun {b} n z => by
    rw [z, e] at n
    cases n
  have U : Un X.fs [] H (upd (upd H dx (exd dx [(f, y)])) a (exo a C (some dx))) hp h' := by
    refine ⟨fun b o q n _ _ => k b o (na n) q, fun b o q n _ _ => ⟨o.slots, k b o (na n) q⟩, fun b o q n _ => ?_, fun b o q _ => ?_, fun b xs q => ?_, fun b o v q => ?_, fun b ps q => ⟨#[], ?_⟩⟩
    · rw [upd_ne (na n), upd_ne (nd q)]
      exact n
    · by_cases hb : b = a
      · exact ⟨_, by rw [hb]; exact hx⟩
      · exact ⟨o, k b o hb q⟩
    · rw [upd_ne (at_ne e q exo_tup), upd_ne (ne_of_none q hnd)]
      exact q
    · rw [upd_ne (at_ne e q exo_frz), upd_ne (ne_of_none q hnd)]
      exact q
    · rw [upd_ne (at_ne e q exo_tbl), upd_ne (ne_of_none q hnd), q]
      simp
  refine h dx _ hnd dne (I.un (t' := tk') U fun b o q => ?_)
  by_cases hb : b = a
  · subst hb
    rw [upd_same] at q
    cases q
    exact exo_ok hx
  · rw [upd_ne hb] at q
    by_cases hd : b = dx
    · subst hd
      rw [upd_same] at q
      cases q
      exact exd_ok hn (relO_put (fs := []) ry fun g => True.intro)
    · rw [upd_ne hd] at q
      refine (I.hok b o q).stay (fun c v hc z => k c v ?_ z) (fun c hc => ?_) fun c xs hc => ?_
      · rcases hc with hc | hc
        · rw [hc]
          exact hb
        · exact at_ne e hc exo_own
      · rw [upd_ne (at_ne e hc exo_own), upd_ne (ne_of_none hc hnd)]
        exact hc
      · rw [upd_ne (at_ne e hc exo_tup), upd_ne (ne_of_none hc hnd)]
        exact hc
/-- self.f = y, a further one -/
theorem xst_old (T : XCls X.K C) (I : Inv X pins σ H s) (e : H a = some (exo a C (some dx))) (ed : H dx = some (exd dx fs)) (hl : fs.length ≤ 900) (hno : PySem.W.findIn X.K (.ref C) f = some none) (ry : RelV y u)
    (h : ∀ s', Inv X pins σ (upd H dx (exd dx ((f, y) :: fs))) s' → Q () s') : wpAny (model X.prog X.w) A (setAttr (.ref a) f u) Q E s := by
  obtain ⟨B, newId, initId, bmB, cd, FB, SB, hcl, hbm, hne, hhd⟩ := T.data
  obtain ⟨t1, ho⟩ := exo_at I.hok e
  obtain ⟨mA, hns, rel⟩ := exd_at I.hok ed
  have hw := within_of rel
  obtain ⟨hp, g, d, t, os⟩ := s
  obtain ⟨oD, _, _, hoD, _, _⟩ := hns.count hw
  refine PySem.W.set_plain I.kIn (ox := { cls := .ref C, dict := some dx, data := .fields #[.ref t1, .none, .none, .none, .bool false, .none] }) (od := some oD) ⟨ho, rfl, rfl, hoD⟩ T.sa ?_
  refine exk_osa2 SB I.kIn ho hns hw (by rw [List.length_map]; omega) hcl hbm hne hhd hno (fun h' tk' k hn => ?_)
  have hd : ∃ o, h'.get? dx = some o := by
    obtain ⟨o, _, _, e', _⟩ := hn
    exact ⟨o, e'⟩
  refine h _ ?_
  exact I.write (t' := tk') (x := dx) (e := dx) (o := exd dx ((f, y) :: fs)) (by rw [ed]; exact True.intro) (.inl rfl) k hd (exd_ok hn (relO_put ry rel))
end
end My
/-! part ExC -/
set_option maxHeartbeats 4000000
namespace My
open PySem PySem.Spec PyProof.Rows L2
/-- self.f = e in the __init__ of an own exception class -/
def tXst (K : PySem.W.Frag) (f : Str) (to te : TE) : TS := fun D σ H => te σ H fun y H1 => to σ H1 fun x H2 => ∃ a C : Addr, x = .ref a ∧ XCls K C ∧ PySem.W.findIn K (.ref C) f = some none ∧
  ((H2 a = some (exo a C none) ∧ ∀ dx, H2 dx = none → dx ≠ a → D.nx σ (upd (upd H2 dx (exd dx [(f, y)])) a (exo a C (some dx)))) ∨
    ∃ (dx : Addr) (fs : List (Str × V)), H2 a = some (exo a C (some dx)) ∧ H2 dx = some (exd dx fs) ∧ fs.length ≤ 900 ∧ D.nx σ (upd H2 dx (exd dx ((f, y) :: fs))))
section
variable {X : Cx} {o e : Expr} {es : List Expr} {to te : TE} {f : Str} {p p' pos : Pos}
theorem ps_xst (ho : PE X o to) (he : PE X e te) (hs : swapsWith e (some (.Attribute o f p')) pos.line X.env = pure false := by rfl) : PS X (.Assign [.Attribute o f p'] e pos) (tXst X.K f to te) := by
  refine ⟨fun pins s σ H D I h => ?_⟩
  refine plainObj_wpAny_Assign_Attribute (thn (he.run pins s σ H _ I h) fun v s1 ⟨y, H1, I1, r1, q1⟩ => ?_) hs
  refine thn (ho.run pins s1 σ H1 _ I1 q1) fun u s2 ⟨x, H2, I2, r2, a, C, ex, T, hno, q⟩ => ?_
  subst ex
  obtain rfl : u = Value.ref a := r2
  rcases q with ⟨ea, q⟩ | ⟨dx, fs, ea, ed, hl, q⟩
  · exact xst_new T I2 ea hno r1 fun dx s' n ne J => ⟨σ, _, J, q dx n ne⟩
  · exact xst_old T I2 ea ed hl hno r1 fun s' J => ⟨σ, _, J, q⟩
end
/-! ### the promise of such an __init__ -/
/-- the fields: the code, then the names in their order -/
def flds (code : Str) (names : List Str) (ws : List V) : List (Str × V) := (names.zip ws).reverse ++ [(("code" : Str), V.str code)]
structure XInit (K : PySem.W.Frag) (C : Addr) (names : List Str) : Prop where
  cls : XCls K C
  no : ∀ f ∈ ("code" : Str) :: names, PySem.W.findIn K (.ref C) f = some none
def spXI (K : PySem.W.Frag) (code : Str) (names : List Str) : Sp := fun vs H Q _ => ∃ (a C : Addr) (ws : List V), vs = .ref a :: ws ∧ ws.length = names.length ∧ XInit K C names ∧ H a = some (exo a C none) ∧
  ∀ H' d, (∀ b, b ≠ a → b ≠ d → H' b = H b) → H d = none → d ≠ a → H' a = some (exo a C (some d)) → H' d = some (exd d (flds code names ws)) → Q .non H'
/-- C(e, .., k = v, ..), its __init__ keeping that promise -/
theorem run_mkX {X : Cx} {k n : Nat} {C fI : Addr} {fd : FuncData} {ps ks : List Str} {code : Str} {names : List Str} {pins : List (Addr × Obj)} {σ : L2.St} {H : Hp} {s : Shared} {Q : VK} {us ws : List Value} {vs zs : List V} {g : List Value → List Value → List Value} {gV : List V → List V → List V}
    (T : XInit X.K C names) (iC : PySem.W.findIn X.K (.ref C) "__init__" = some (some (.ref fI))) (tI : PySem.W.typeIn X.K (.ref fI) = some (.type "function")) (F1 : FnOk X.prog X.w X.K X.mg X.base CX0 k fI fd ps (spXI X.K code names)) (hr : Room (k + 1) X.A)
    (hb : KBn X.K fd ps (n + 1) ks g gV) (I : Inv X pins σ H s) (r : Vals vs us) (rz : Vals zs ws) (l1 : vs.length = n) (l2 : zs.length = ks.length) (few : n ≤ 1000) (as : List V) (hv : ∀ a, gV (.ref a :: vs) zs = .ref a :: as) (hl : as.length = names.length)
    (h : ∀ H' a, Same H H' → H a = none → ExV H' a C (flds code names as) → Q (.ref a) H') : wpAny (model X.prog X.w) X.A (call (.ref C) us (ks.zip ws)) (EP X pins σ Q) X.xe s := by
  obtain ⟨B, newId, initId, bmB, FB, SB, nm, q, N, bs, bm, sn, sub, ab, col, dd, k0, k1, k2, k3, k5, hC, hbm⟩ := T.cls.cls
  obtain ⟨hp, g0, dr, tk, os⟩ := s
  have hsz : hp.objs.size ≤ hp.objs.size + 1 := Nat.le_succ _
  have hn : H (hp.objs.size + 1) = none := I.hok.fresh hsz
  have kk : ∀ b o, hp.get? b = some o → ((hp.push (PySem.W.kdv_tup us)).push (PySem.HandSPX.excO C hp.objs.size)).get? b = some o := fun b o e => Heap.get?_push_of_some _ (Heap.get?_push_of_some _ e)
  have hget : ((hp.push (PySem.W.kdv_tup us)).push (PySem.HandSPX.excO C hp.objs.size)).get? (hp.objs.size + 1) = some (PySem.HandSPX.excO C hp.objs.size) := by heap_get
  have I2 : Inv X pins σ (upd H (hp.objs.size + 1) (exo (hp.objs.size + 1) C none)) ⟨(hp.push (PySem.W.kdv_tup us)).push (PySem.HandSPX.excO C hp.objs.size), g0, dr, tk, os⟩ :=
    I.laid (t' := tk) (a := hp.objs.size + 1) (o := exo (hp.objs.size + 1) C none) (h' := (hp.push (PySem.W.kdv_tup us)).push (PySem.HandSPX.excO C hp.objs.size)) kk hsz (exo_ok hget)
  have r1 : Vals (V.ref (hp.objs.size + 1) :: vs) (Value.ref (hp.objs.size + 1) :: us) := .cons rfl r
  have r2 := hb.rel r1 rz
  have e1 : (Value.ref (hp.objs.size + 1) :: us).length = n + 1 := r1.length.symm.trans (congrArg Nat.succ l1)
  have e2 : ws.length = ks.length := rz.length.symm.trans l2
  have hus : us.length ≤ sizeLine := by
    rw [← Paired.length r, sizeLine_eq]
    omega
  have hq : spXI X.K code names (gV (.ref (hp.objs.size + 1) :: vs) zs) (upd H (hp.objs.size + 1) (exo (hp.objs.size + 1) C none)) (fun v H2 => v = .non ∧ Q (.ref (hp.objs.size + 1)) H2) (fun _ _ _ => False) := by
    refine ⟨hp.objs.size + 1, C, as, hv _, hl, T, upd_same, fun H' d kp nd ne ea ed => ⟨rfl, h _ _ (fun b o e => ?_) hn ⟨d, ea, ed⟩⟩⟩
    have b1 : b ≠ hp.objs.size + 1 := ne_of_none e hn
    have nd' : H d = none := by
      rw [upd_ne ne] at nd
      exact nd
    rw [kp b b1 (ne_of_none e nd'), upd_ne b1]
    exact e
  refine wpAny_call (exk_call (rest := us) (kws := ks.zip ws) FB (fun Y => PySem.W.excTail_contains Y bm hbm) (I.kIn _ _ hC) (PySem.W.looks_findIn I.kIn iC) (fun self => PySem.W.bind_fn I.kIn self tI) hus
    (codeAny_mono (F1.run _ X.stack _ _ ⟨Value.ref (hp.objs.size + 1) :: us, ks.zip ws⟩ (g (Value.ref (hp.objs.size + 1) :: us) ws) _ _ (fun _ _ _ => False) (hr.make C us (ks.zip ws)) (I2.env0.make C us (ks.zip ws)) (hb.to _ (Value.ref (hp.objs.size + 1) :: us) ws I2.kIn e1 e2) r2 hq) fun r s' hq' => ?_))
  cases r with
  | error er => exact False.elim hq'
  | ok fl =>
    cases fl with
    | ret u =>
      obtain ⟨v, H', I3, rv, ev, q3⟩ := I2.after hq'
      subst ev
      refine ⟨rv, V.ref (hp.objs.size + 1), H', ?_, rfl, q3⟩
      exact I3
    | next => exact False.elim hq'
    | brk => exact False.elim hq'
    | cont => exact False.elim hq'
end My
/-! part ExD -/
set_option maxHeartbeats 4000000
namespace My
open PySem PySem.Spec PyProof.Rows L2
theorem PE.imp {X : Cx} {e : Expr} {t t' : TE} (h : PE X e t) (i : ∀ σ H Q, t' σ H Q → t σ H Q) : PE X e t' := ⟨fun pins s σ H Q I q => h.run pins s σ H Q I (i σ H Q q)⟩
theorem PA.imp {X : Cx} {es : List Expr} {t t' : TA} (h : PA X es t) (i : ∀ σ H Q, t' σ H Q → t σ H Q) : PA X es t' := ⟨fun pos pins s σ H Q I q => h.run pos pins s σ H Q I (i σ H Q q)⟩
/-- what stands behind a call of such a class: a new exception, all else as it was -/
def tMkX (C : Addr) (code : Str) (names : List Str) (n m : Nat) (gV : List V → List V → List V) (t tk : TA) : TE := fun σ H Q => t σ H fun vs H1 => tk σ H1 fun zs H2 => vs.length = n ∧ zs.length = m ∧
  ∃ as : List V, (∀ a, gV (.ref a :: vs) zs = .ref a :: as) ∧ as.length = names.length ∧ ∀ H' a, Same H2 H' → H2 a = none → ExV H' a C (flds code names as) → Q (.ref a) H'
/-- what is known of the class that the name x means -/
structure XMk (P : Program) (w : World) (K : PySem.W.Frag) (mg : Str → Option Value) (base : Heap) (x : Str) (C fI : Addr) (fd : FuncData) (ps : List Str) (code : Str) (names : List Str) : Prop where
  T : XInit K C names
  g : mg x = some (.ref C)
  iC : PySem.W.findIn K (.ref C) "__init__" = some (some (.ref fI))
  tI : PySem.W.typeIn K (.ref fI) = some (.type "function")
  F : FnOk P w K mg base CX0 1 fI fd ps (spXI K code names)
section
variable {X : Cx} {x code : Str} {C fI : Addr} {fd : FuncData} {ps ks names : List Str} {p pos : Pos} {e : Expr} {es : List Expr} {kws : List Keyword} {t tk : TA} {n : Nat} {g : List Value → List Value → List Value} {gV : List V → List V → List V}
/-- C(e, ..) -/
theorem pe_mkX (M : XMk X.prog X.w X.K X.mg X.base x C fI fd ps code names) (hr : Room 2 X.A) (hg : Gl X x) (hb : KBn X.K fd ps (n + 1) [] g gV) (few : n ≤ 1000) (ha : PA X (e :: es) t)
    (hdb : (x == ("__debug__" : Str)) = false := by decide) (he : starEach (e :: es) X.env = (false, eval e X.env) :: starEach es X.env := by rfl) (hpl : (backTo pos (starEach es X.env)).any (·.1) = false := by rfl) :
    PE X (.Call (.Name x p) (e :: es) [] pos) (tMkX C code names n 0 gV t tNil) := by
  refine ⟨fun pins s σ H Q I h => ?_⟩
  refine wpAny_Call_Name_kw (ld_glob I hg M.g ?_ hdb)
  refine PySem.W.callWith_K (h₀ := X.base) I.ok.mod.kin M.T.cls.kC (thn (ha.run pos pins s σ H _ I h) fun us s1 ⟨vs, H1, I1, r1, l1, l2, as, hv, hl, q⟩ => ⟨I1.kIn, ?_⟩) he hpl
  exact run_mkX (ws := []) (zs := []) M.T M.iC M.tI M.F hr hb I1 r1 .nil l1 rfl few as hv hl q
/-- C() -/
theorem pe_mkX0 (M : XMk X.prog X.w X.K X.mg X.base x C fI fd ps code names) (hr : Room 2 X.A) (hg : Gl X x) (hb : KBn X.K fd ps 1 [] g gV) (hdb : (x == ("__debug__" : Str)) = false := by decide) :
    PE X (.Call (.Name x p) [] [] pos) (tMkX C code names 0 0 gV tNil tNil) := by
  refine ⟨fun pins s σ H Q I h => ?_⟩
  refine wpAny_Call_Name_kw (ld_glob I hg M.g ?_ hdb)
  obtain ⟨l1, l2, as, hv, hl, q⟩ := h
  refine PySem.W.callWith_K0 I.kIn M.T.cls.kC ?_
  exact run_mkX (n := 0) (us := []) (vs := []) (ws := []) (zs := []) M.T M.iC M.tI M.F hr hb I .nil .nil rfl rfl (by decide) as hv hl q
/-- C(k = v, ..) -/
theorem pe_mkXk (M : XMk X.prog X.w X.K X.mg X.base x C fI fd ps code names) (hr : Room 2 X.A) (hg : Gl X x) (hb : KBn X.K fd ps 1 ks g gV) (hkw : PK X kws tk) (hall : (backToKw pos (keywordEach kws X.env)).all (·.1.isSome) = true := by rfl)
    (hks : (backToKw pos (keywordEach kws X.env)).filterMap (·.1) = ks := by rfl) (hdb : (x == ("__debug__" : Str)) = false := by decide) (hpl : ((backTo pos (starEach [] X.env)).any (·.1) || (backToKw pos (keywordEach kws X.env)).any (·.1.isNone)) = false := by rfl) :
    PE X (.Call (.Name x p) [] kws pos) (tMkX C code names 0 ks.length gV tNil tk) := by
  refine ⟨fun pins s σ H Q I h => wpAny_Call_Name_kw (ld_glob I hg M.g (PySem.W.callWith_KW0 (h₀ := X.base) I.ok.mod.kin M.T.cls.kC hall ?_ hpl) hdb)⟩
  refine thn (hkw.run pos pins s σ H _ I h) fun ws s2 ⟨zs, H2, I2, rz, l1, l2, as, hv, hl, q⟩ => ⟨I2.kIn, ?_⟩
  rw [hks]
  exact run_mkX (n := 0) (us := []) (vs := []) M.T M.iC M.tI M.F hr hb I2 .nil rz rfl l2 (by decide) as hv hl q
/-- e.f, a field of a made exception -/
def tXFld (K : PySem.W.Frag) (f : Str) (te : TE) : TE := fun σ H Q => te σ H fun x H1 => ∃ (a C : Addr) (fs : List (Str × V)) (v : V), x = .ref a ∧ XCls K C ∧ PySem.W.findIn K (.ref C) f = some none ∧ ExV H1 a C fs ∧ fs.lookup f = some v ∧ Q v H1
theorem pe_xfld {f : Str} {te : TE} (he : PE X e te) (hb : attributeBase e f X.env (eval e X.env) = eval e X.env := by rfl) : PE X (.Attribute e f pos) (tXFld X.K f te) := by
  refine ⟨fun pins s σ H Q I h => ?_⟩
  refine attr_of hb (thn (he.run pins s σ H _ I h) fun u s1 hh => ?_)
  obtain ⟨x, H1, I1, rx, a, C, fs, v, ex, T, no, ⟨d, ea, ed⟩, l, q⟩ := hh
  subst ex
  obtain rfl : u = Value.ref a := rx
  obtain ⟨t1, ho⟩ := exo_at I1.hok ea
  obtain ⟨mA, hns, rel⟩ := exd_at I1.hok ed
  obtain ⟨od, hod, hl⟩ := lookIn_ns hns
  obtain ⟨u, hu, ru⟩ := RelO.some_of (v := v) (o := mA f) (by rw [← l]; exact rel f)
  have J : PySem.W.InstAt s1.heap a { cls := .ref C, dict := some d, data := .fields #[.ref t1, .none, .none, .none, .bool false, .none] } C (some od) := ⟨ho, rfl, rfl, hod⟩
  exact HandSPX.exc_get I1.kIn J T.ga T.gt T.exC (PySem.W.findObj_own T.hd no rfl (by rw [hl, hu])) (handed_of ru) ⟨v, H1, I1.tok _, ru, q⟩
/-- isinstance(e, c), e a made exception -/
def rIsX (K : PySem.W.Frag) : List V → Hp → VK → Prop := fun xs H Q => ∃ (a C : Addr) (fs : List (Str × V)) (c : V) (u : Value) (b : Bool), xs = [.ref a, c] ∧ ClsV c u ∧ XCls K C ∧ ExV H a C fs ∧ PySem.W.kitOne K (.ref C) u = some b ∧ Q (.bl b) H
theorem call_isX : CallR X (.builtin "isinstance") (rIsX X.K) := by
  intro pins s σ H xs us Q I r h
  obtain ⟨a, C, fs, c, u, b, rfl, hcv, T, ⟨d, ea, ed⟩, e, q⟩ := h
  cases r with
  | cons rx rr =>
    cases rr with
    | cons rt rr =>
      cases rr
      cases rx
      have ec := hcv.eq rt
      subst ec
      obtain ⟨t1, ho⟩ := exo_at I.hok ea
      obtain ⟨mA, hns, rel⟩ := exd_at I.hok ed
      obtain ⟨od, hod, hl⟩ := lookIn_ns hns
      have J : PySem.W.InstAt s.heap a { cls := .ref C, dict := some d, data := .fields #[.ref t1, .none, .none, .none, .bool false, .none] } C (some od) := ⟨ho, rfl, rfl, hod⟩
      obtain ⟨_, _, _, _, cd, _, _, hcl, _⟩ := T.data
      exact PySem.W.kia_one (PySem.W.kitx_exc (by rw [hcl]; rfl) T.ga T.gt T.exC T.ha T.hn T.ht T.hm) I.kIn J e (fun z => nomatch z) fun tk => ⟨.bl b, H, I.kept (t' := tk) fun _ _ z => z, rfl, q⟩
end
end My
/-! part ExE -/
set_option maxHeartbeats 4000000
namespace My
open PySem PySem.Spec PyProof.Rows L2
/-! ### the readings of such an __init__, by its number of parameters -/
abbrev tX0 (K : PySem.W.Frag) (code : Str) : TE × TS := (tC (.str code), tXst K "code" (tVar 0) (tC (.str code)))
section
variable {K : PySem.W.Frag} {code f1 f2 f3 f4 : Str} {vs : List V} {H : Hp} {Q : VK} {E : XK}
theorem upd_at3 {H : Hp} {a d : Addr} {o1 o2 o3 : HO} (ne : d ≠ a) : upd (upd (upd H d o1) a o2) d o3 = upd (upd H d o3) a o2 := by
  funext b
  by_cases hd : b = d
  · subst hd
    rw [upd_same, upd_ne ne, upd_same]
  · rw [upd_ne hd]
    by_cases ha : b = a
    · subst ha
      rw [upd_same, upd_same]
    · rw [upd_ne ha, upd_ne ha, upd_ne hd, upd_ne hd]
/-- what stands when the fields fs are stored -/
def XAt (H : Hp) (a C d : Addr) (fs : List (Str × V)) : Hp := upd (upd H d (exd d fs)) a (exo a C (some d))
theorem xat_o {H : Hp} {a C d : Addr} {fs : List (Str × V)} : XAt H a C d fs a = some (exo a C (some d)) := upd_same
theorem xat_d {H : Hp} {a C d : Addr} {fs : List (Str × V)} (ne : d ≠ a) : XAt H a C d fs d = some (exd d fs) := by
  unfold XAt
  rw [upd_ne ne, upd_same]
theorem xat_put {H : Hp} {a C d : Addr} {fs gs : List (Str × V)} (ne : d ≠ a) : upd (XAt H a C d fs) d (exd d gs) = XAt H a C d gs := upd_at3 ne
theorem xat_ne {H : Hp} {a C d b : Addr} {fs : List (Str × V)} (h1 : b ≠ a) (h2 : b ≠ d) : XAt H a C d fs b = H b := by
  unfold XAt
  rw [upd_ne h1, upd_ne h2]
/-- one more store -/
theorem xst_more {D : L2.Ends} {σ : L2.St} {H : Hp} {a C d : Addr} {f : Str} {y : V} {fs : List (Str × V)} {te : TE} (T : XCls K C) (no : PySem.W.findIn K (.ref C) f = some none) (ne : d ≠ a) (hl : fs.length ≤ 900) (h0 : σ[0]? = some (some (.ref a)))
    (hv : ∀ H Q, Q y H → te σ H Q) (h : D.nx σ (XAt H a C d ((f, y) :: fs))) : tXst K f (tVar 0) te D σ (XAt H a C d fs) :=
  hv _ _ ⟨_, h0, a, C, rfl, T, no, .inr ⟨d, fs, xat_o, xat_d ne, hl, by rw [xat_put ne]; exact h⟩⟩
theorem xst_first {D : L2.Ends} {σ : L2.St} {H : Hp} {a C : Addr} {code : Str} (T : XCls K C) (no : PySem.W.findIn K (.ref C) "code" = some none) (h0 : σ[0]? = some (some (.ref a))) (ea : H a = some (exo a C none))
    (h : ∀ d, H d = none → d ≠ a → D.nx σ (XAt H a C d [("code", .str code)])) : tXst K "code" (tVar 0) (tC (.str code)) D σ H :=
  ⟨_, h0, a, C, rfl, T, no, .inl ⟨ea, h⟩⟩
end
end My
/-! part K00d -/
namespace Kx
open PySem PySem.Spec PyProof.Rows L2 My
section
variable {P : Program} {w : World} {K : PySem.W.Frag} {mg : Str → Option Value} {base : Heap} {f : Addr} {fd : FuncData}
abbrev i_InvalidName : Stmt := inClass (topS 3) 0
theorem isc_InvalidName : FnScope ["self", "value"] ["self", "value"] (defScope i_InvalidName) := ⟨rfl, rfl, rfl, by decide +kernel, rfl, by decide +kernel, by decide +kernel⟩
theorem xk_InvalidName (F : Fun K "__init__" "InvalidName.__init__" i_InvalidName f fd) : FnOk P w K mg base CX0 1 f fd ["self", "value"] (spXI K "InvalidName" ["value"]) := by
  refine F.ok isc_InvalidName (fun vs H Q E h => ?_) (fun cdv A outer s H vs Q E hr h => ?_)
  · obtain ⟨a, C, ws, rfl, hl, _⟩ := h
    match ws, hl with
    | [_], _ => rfl
  obtain ⟨a, C, ws, rfl, hl, T, ea, q⟩ := h
  match ws, hl with
  | [w1], _ =>
  refine ⟨_, (pss_cons (ps_xst (pv 0) pe_str) (pss_one (ps_xst (pv 0) (pv 1)))), ?_⟩
  refine xst_first T.cls (T.no _ (.head _)) rfl ea fun d nd ne => ?_
  show tXst _ _ (tVar 0) (tVar 1) _ _ _
  refine xst_more T.cls (T.no _ (.tail _ (.head _))) ne (Nat.le_of_ble_eq_true rfl) rfl (fun _ _ h => ⟨_, rfl, h⟩) ?_
  exact q _ _ (fun b h1 h2 => xat_ne h1 h2) nd ne xat_o (xat_d ne)
theorem xb_InvalidName (F : Fun K "__init__" "InvalidName.__init__" i_InvalidName f fd) : KBn K fd ["self", "value"] 2 [] (fun us ws => us ++ My.pick [] ws) (fun vs zs => vs ++ My.pick [] zs) :=
  kbn_of F 2 [] fun _ _ _ _ _ _ us ws h1 h2 => match us, ws, h1, h2 with | [_, _], [], _, _ => rfl
theorem xq_InvalidName (F : Fun K "__init__" "InvalidName.__init__" i_InvalidName f fd) : KBn K fd ["self", "value"] 1 ["value"] (fun us ws => us ++ My.pick [0] ws) (fun vs zs => vs ++ My.pick [0] zs) :=
  kbn_of F 1 [0] fun _ _ _ _ _ _ us ws h1 h2 => match us, ws, h1, h2 with | [_], [_], _, _ => rfl
abbrev i_InvalidNumber : Stmt := inClass (topS 4) 0
theorem isc_InvalidNumber : FnScope ["self", "value"] ["self", "value"] (defScope i_InvalidNumber) := ⟨rfl, rfl, rfl, by decide +kernel, rfl, by decide +kernel, by decide +kernel⟩
theorem xk_InvalidNumber (F : Fun K "__init__" "InvalidNumber.__init__" i_InvalidNumber f fd) : FnOk P w K mg base CX0 1 f fd ["self", "value"] (spXI K "InvalidNumber" ["value"]) := by
  refine F.ok isc_InvalidNumber (fun vs H Q E h => ?_) (fun cdv A outer s H vs Q E hr h => ?_)
  · obtain ⟨a, C, ws, rfl, hl, _⟩ := h
    match ws, hl with
    | [_], _ => rfl
  obtain ⟨a, C, ws, rfl, hl, T, ea, q⟩ := h
  match ws, hl with
  | [w1], _ =>
  refine ⟨_, (pss_cons (ps_xst (pv 0) pe_str) (pss_one (ps_xst (pv 0) (pv 1)))), ?_⟩
  refine xst_first T.cls (T.no _ (.head _)) rfl ea fun d nd ne => ?_
  show tXst _ _ (tVar 0) (tVar 1) _ _ _
  refine xst_more T.cls (T.no _ (.tail _ (.head _))) ne (Nat.le_of_ble_eq_true rfl) rfl (fun _ _ h => ⟨_, rfl, h⟩) ?_
  exact q _ _ (fun b h1 h2 => xat_ne h1 h2) nd ne xat_o (xat_d ne)
theorem xb_InvalidNumber (F : Fun K "__init__" "InvalidNumber.__init__" i_InvalidNumber f fd) : KBn K fd ["self", "value"] 2 [] (fun us ws => us ++ My.pick [] ws) (fun vs zs => vs ++ My.pick [] zs) :=
  kbn_of F 2 [] fun _ _ _ _ _ _ us ws h1 h2 => match us, ws, h1, h2 with | [_, _], [], _, _ => rfl
theorem xq_InvalidNumber (F : Fun K "__init__" "InvalidNumber.__init__" i_InvalidNumber f fd) : KBn K fd ["self", "value"] 1 ["value"] (fun us ws => us ++ My.pick [0] ws) (fun vs zs => vs ++ My.pick [0] zs) :=
  kbn_of F 1 [0] fun _ _ _ _ _ _ us ws h1 h2 => match us, ws, h1, h2 with | [_], [_], _, _ => rfl
abbrev i_BadText : Stmt := inClass (topS 5) 0
theorem isc_BadText : FnScope ["self", "line", "place", "why"] ["self", "line", "place", "why"] (defScope i_BadText) := ⟨rfl, rfl, rfl, by decide +kernel, rfl, by decide +kernel, by decide +kernel⟩
theorem xk_BadText (F : Fun K "__init__" "BadText.__init__" i_BadText f fd) : FnOk P w K mg base CX0 1 f fd ["self", "line", "place", "why"] (spXI K "BadText" ["line", "place", "why"]) := by
  refine F.ok isc_BadText (fun vs H Q E h => ?_) (fun cdv A outer s H vs Q E hr h => ?_)
  · obtain ⟨a, C, ws, rfl, hl, _⟩ := h
    match ws, hl with
    | [_, _, _], _ => rfl
  obtain ⟨a, C, ws, rfl, hl, T, ea, q⟩ := h
  match ws, hl with
  | [w1, w2, w3], _ =>
  refine ⟨_, (pss_cons (ps_xst (pv 0) pe_str) (pss_cons (ps_xst (pv 0) (pv 1)) (pss_cons (ps_xst (pv 0) (pv 2)) (pss_one (ps_xst (pv 0) (pv 3)))))), ?_⟩
  refine xst_first T.cls (T.no _ (.head _)) rfl ea fun d nd ne => ?_
  show tXst _ _ (tVar 0) (tVar 1) _ _ _
  refine xst_more T.cls (T.no _ (.tail _ (.head _))) ne (Nat.le_of_ble_eq_true rfl) rfl (fun _ _ h => ⟨_, rfl, h⟩) ?_
  show tXst _ _ (tVar 0) (tVar 2) _ _ _
  refine xst_more T.cls (T.no _ (.tail _ (.tail _ (.head _)))) ne (Nat.le_of_ble_eq_true rfl) rfl (fun _ _ h => ⟨_, rfl, h⟩) ?_
  show tXst _ _ (tVar 0) (tVar 3) _ _ _
  refine xst_more T.cls (T.no _ (.tail _ (.tail _ (.tail _ (.head _))))) ne (Nat.le_of_ble_eq_true rfl) rfl (fun _ _ h => ⟨_, rfl, h⟩) ?_
  exact q _ _ (fun b h1 h2 => xat_ne h1 h2) nd ne xat_o (xat_d ne)
theorem xb_BadText (F : Fun K "__init__" "BadText.__init__" i_BadText f fd) : KBn K fd ["self", "line", "place", "why"] 4 [] (fun us ws => us ++ My.pick [] ws) (fun vs zs => vs ++ My.pick [] zs) :=
  kbn_of F 4 [] fun _ _ _ _ _ _ us ws h1 h2 => match us, ws, h1, h2 with | [_, _, _, _], [], _, _ => rfl
theorem xq_BadText (F : Fun K "__init__" "BadText.__init__" i_BadText f fd) : KBn K fd ["self", "line", "place", "why"] 1 ["why", "place", "line"] (fun us ws => us ++ My.pick [2, 1, 0] ws) (fun vs zs => vs ++ My.pick [2, 1, 0] zs) :=
  kbn_of F 1 [2, 1, 0] fun _ _ _ _ _ _ us ws h1 h2 => match us, ws, h1, h2 with | [_], [_, _, _], _, _ => rfl
abbrev i_DuplicateName : Stmt := inClass (topS 6) 0
theorem isc_DuplicateName : FnScope ["self", "name"] ["self", "name"] (defScope i_DuplicateName) := ⟨rfl, rfl, rfl, by decide +kernel, rfl, by decide +kernel, by decide +kernel⟩
theorem xk_DuplicateName (F : Fun K "__init__" "DuplicateName.__init__" i_DuplicateName f fd) : FnOk P w K mg base CX0 1 f fd ["self", "name"] (spXI K "DuplicateName" ["name"]) := by
  refine F.ok isc_DuplicateName (fun vs H Q E h => ?_) (fun cdv A outer s H vs Q E hr h => ?_)
  · obtain ⟨a, C, ws, rfl, hl, _⟩ := h
    match ws, hl with
    | [_], _ => rfl
  obtain ⟨a, C, ws, rfl, hl, T, ea, q⟩ := h
  match ws, hl with
  | [w1], _ =>
  refine ⟨_, (pss_cons (ps_xst (pv 0) pe_str) (pss_one (ps_xst (pv 0) (pv 1)))), ?_⟩
  refine xst_first T.cls (T.no _ (.head _)) rfl ea fun d nd ne => ?_
  show tXst _ _ (tVar 0) (tVar 1) _ _ _
  refine xst_more T.cls (T.no _ (.tail _ (.head _))) ne (Nat.le_of_ble_eq_true rfl) rfl (fun _ _ h => ⟨_, rfl, h⟩) ?_
  exact q _ _ (fun b h1 h2 => xat_ne h1 h2) nd ne xat_o (xat_d ne)
theorem xb_DuplicateName (F : Fun K "__init__" "DuplicateName.__init__" i_DuplicateName f fd) : KBn K fd ["self", "name"] 2 [] (fun us ws => us ++ My.pick [] ws) (fun vs zs => vs ++ My.pick [] zs) :=
  kbn_of F 2 [] fun _ _ _ _ _ _ us ws h1 h2 => match us, ws, h1, h2 with | [_, _], [], _, _ => rfl
theorem xq_DuplicateName (F : Fun K "__init__" "DuplicateName.__init__" i_DuplicateName f fd) : KBn K fd ["self", "name"] 1 ["name"] (fun us ws => us ++ My.pick [0] ws) (fun vs zs => vs ++ My.pick [0] zs) :=
  kbn_of F 1 [0] fun _ _ _ _ _ _ us ws h1 h2 => match us, ws, h1, h2 with | [_], [_], _, _ => rfl
abbrev i_Misused : Stmt := inClass (topS 7) 0
theorem isc_Misused : FnScope ["self", "use"] ["self", "use"] (defScope i_Misused) := ⟨rfl, rfl, rfl, by decide +kernel, rfl, by decide +kernel, by decide +kernel⟩
theorem xk_Misused (F : Fun K "__init__" "Misused.__init__" i_Misused f fd) : FnOk P w K mg base CX0 1 f fd ["self", "use"] (spXI K "Misused" ["use"]) := by
  refine F.ok isc_Misused (fun vs H Q E h => ?_) (fun cdv A outer s H vs Q E hr h => ?_)
  · obtain ⟨a, C, ws, rfl, hl, _⟩ := h
    match ws, hl with
    | [_], _ => rfl
  obtain ⟨a, C, ws, rfl, hl, T, ea, q⟩ := h
  match ws, hl with
  | [w1], _ =>
  refine ⟨_, (pss_cons (ps_xst (pv 0) pe_str) (pss_one (ps_xst (pv 0) (pv 1)))), ?_⟩
  refine xst_first T.cls (T.no _ (.head _)) rfl ea fun d nd ne => ?_
  show tXst _ _ (tVar 0) (tVar 1) _ _ _
  refine xst_more T.cls (T.no _ (.tail _ (.head _))) ne (Nat.le_of_ble_eq_true rfl) rfl (fun _ _ h => ⟨_, rfl, h⟩) ?_
  exact q _ _ (fun b h1 h2 => xat_ne h1 h2) nd ne xat_o (xat_d ne)
theorem xb_Misused (F : Fun K "__init__" "Misused.__init__" i_Misused f fd) : KBn K fd ["self", "use"] 2 [] (fun us ws => us ++ My.pick [] ws) (fun vs zs => vs ++ My.pick [] zs) :=
  kbn_of F 2 [] fun _ _ _ _ _ _ us ws h1 h2 => match us, ws, h1, h2 with | [_, _], [], _, _ => rfl
theorem xq_Misused (F : Fun K "__init__" "Misused.__init__" i_Misused f fd) : KBn K fd ["self", "use"] 1 ["use"] (fun us ws => us ++ My.pick [0] ws) (fun vs zs => vs ++ My.pick [0] zs) :=
  kbn_of F 1 [0] fun _ _ _ _ _ _ us ws h1 h2 => match us, ws, h1, h2 with | [_], [_], _, _ => rfl
abbrev i_OutOfReach : Stmt := inClass (topS 8) 0
theorem isc_OutOfReach : FnScope ["self", "use"] ["self", "use"] (defScope i_OutOfReach) := ⟨rfl, rfl, rfl, by decide +kernel, rfl, by decide +kernel, by decide +kernel⟩
theorem xk_OutOfReach (F : Fun K "__init__" "OutOfReach.__init__" i_OutOfReach f fd) : FnOk P w K mg base CX0 1 f fd ["self", "use"] (spXI K "OutOfReach" ["use"]) := by
  refine F.ok isc_OutOfReach (fun vs H Q E h => ?_) (fun cdv A outer s H vs Q E hr h => ?_)
  · obtain ⟨a, C, ws, rfl, hl, _⟩ := h
    match ws, hl with
    | [_], _ => rfl
  obtain ⟨a, C, ws, rfl, hl, T, ea, q⟩ := h
  match ws, hl with
  | [w1], _ =>
  refine ⟨_, (pss_cons (ps_xst (pv 0) pe_str) (pss_one (ps_xst (pv 0) (pv 1)))), ?_⟩
  refine xst_first T.cls (T.no _ (.head _)) rfl ea fun d nd ne => ?_
  show tXst _ _ (tVar 0) (tVar 1) _ _ _
  refine xst_more T.cls (T.no _ (.tail _ (.head _))) ne (Nat.le_of_ble_eq_true rfl) rfl (fun _ _ h => ⟨_, rfl, h⟩) ?_
  exact q _ _ (fun b h1 h2 => xat_ne h1 h2) nd ne xat_o (xat_d ne)
theorem xb_OutOfReach (F : Fun K "__init__" "OutOfReach.__init__" i_OutOfReach f fd) : KBn K fd ["self", "use"] 2 [] (fun us ws => us ++ My.pick [] ws) (fun vs zs => vs ++ My.pick [] zs) :=
  kbn_of F 2 [] fun _ _ _ _ _ _ us ws h1 h2 => match us, ws, h1, h2 with | [_, _], [], _, _ => rfl
theorem xq_OutOfReach (F : Fun K "__init__" "OutOfReach.__init__" i_OutOfReach f fd) : KBn K fd ["self", "use"] 1 ["use"] (fun us ws => us ++ My.pick [0] ws) (fun vs zs => vs ++ My.pick [0] zs) :=
  kbn_of F 1 [0] fun _ _ _ _ _ _ us ws h1 h2 => match us, ws, h1, h2 with | [_], [_], _, _ => rfl
abbrev i_Lost : Stmt := inClass (topS 9) 0
theorem isc_Lost : FnScope ["self", "use"] ["self", "use"] (defScope i_Lost) := ⟨rfl, rfl, rfl, by decide +kernel, rfl, by decide +kernel, by decide +kernel⟩
theorem xk_Lost (F : Fun K "__init__" "Lost.__init__" i_Lost f fd) : FnOk P w K mg base CX0 1 f fd ["self", "use"] (spXI K "Lost" ["use"]) := by
  refine F.ok isc_Lost (fun vs H Q E h => ?_) (fun cdv A outer s H vs Q E hr h => ?_)
  · obtain ⟨a, C, ws, rfl, hl, _⟩ := h
    match ws, hl with
    | [_], _ => rfl
  obtain ⟨a, C, ws, rfl, hl, T, ea, q⟩ := h
  match ws, hl with
  | [w1], _ =>
  refine ⟨_, (pss_cons (ps_xst (pv 0) pe_str) (pss_one (ps_xst (pv 0) (pv 1)))), ?_⟩
  refine xst_first T.cls (T.no _ (.head _)) rfl ea fun d nd ne => ?_
  show tXst _ _ (tVar 0) (tVar 1) _ _ _
  refine xst_more T.cls (T.no _ (.tail _ (.head _))) ne (Nat.le_of_ble_eq_true rfl) rfl (fun _ _ h => ⟨_, rfl, h⟩) ?_
  exact q _ _ (fun b h1 h2 => xat_ne h1 h2) nd ne xat_o (xat_d ne)
theorem xb_Lost (F : Fun K "__init__" "Lost.__init__" i_Lost f fd) : KBn K fd ["self", "use"] 2 [] (fun us ws => us ++ My.pick [] ws) (fun vs zs => vs ++ My.pick [] zs) :=
  kbn_of F 2 [] fun _ _ _ _ _ _ us ws h1 h2 => match us, ws, h1, h2 with | [_, _], [], _, _ => rfl
theorem xq_Lost (F : Fun K "__init__" "Lost.__init__" i_Lost f fd) : KBn K fd ["self", "use"] 1 ["use"] (fun us ws => us ++ My.pick [0] ws) (fun vs zs => vs ++ My.pick [0] zs) :=
  kbn_of F 1 [0] fun _ _ _ _ _ _ us ws h1 h2 => match us, ws, h1, h2 with | [_], [_], _, _ => rfl
abbrev i_Doubled : Stmt := inClass (topS 10) 0
theorem isc_Doubled : FnScope ["self", "first", "second", "block"] ["self", "first", "second", "block"] (defScope i_Doubled) := ⟨rfl, rfl, rfl, by decide +kernel, rfl, by decide +kernel, by decide +kernel⟩
theorem xk_Doubled (F : Fun K "__init__" "Doubled.__init__" i_Doubled f fd) : FnOk P w K mg base CX0 1 f fd ["self", "first", "second", "block"] (spXI K "Doubled" ["first", "second", "block"]) := by
  refine F.ok isc_Doubled (fun vs H Q E h => ?_) (fun cdv A outer s H vs Q E hr h => ?_)
  · obtain ⟨a, C, ws, rfl, hl, _⟩ := h
    match ws, hl with
    | [_, _, _], _ => rfl
  obtain ⟨a, C, ws, rfl, hl, T, ea, q⟩ := h
  match ws, hl with
  | [w1, w2, w3], _ =>
  refine ⟨_, (pss_cons (ps_xst (pv 0) pe_str) (pss_cons (ps_xst (pv 0) (pv 1)) (pss_cons (ps_xst (pv 0) (pv 2)) (pss_one (ps_xst (pv 0) (pv 3)))))), ?_⟩
  refine xst_first T.cls (T.no _ (.head _)) rfl ea fun d nd ne => ?_
  show tXst _ _ (tVar 0) (tVar 1) _ _ _
  refine xst_more T.cls (T.no _ (.tail _ (.head _))) ne (Nat.le_of_ble_eq_true rfl) rfl (fun _ _ h => ⟨_, rfl, h⟩) ?_
  show tXst _ _ (tVar 0) (tVar 2) _ _ _
  refine xst_more T.cls (T.no _ (.tail _ (.tail _ (.head _)))) ne (Nat.le_of_ble_eq_true rfl) rfl (fun _ _ h => ⟨_, rfl, h⟩) ?_
  show tXst _ _ (tVar 0) (tVar 3) _ _ _
  refine xst_more T.cls (T.no _ (.tail _ (.tail _ (.tail _ (.head _))))) ne (Nat.le_of_ble_eq_true rfl) rfl (fun _ _ h => ⟨_, rfl, h⟩) ?_
  exact q _ _ (fun b h1 h2 => xat_ne h1 h2) nd ne xat_o (xat_d ne)
theorem xb_Doubled (F : Fun K "__init__" "Doubled.__init__" i_Doubled f fd) : KBn K fd ["self", "first", "second", "block"] 4 [] (fun us ws => us ++ My.pick [] ws) (fun vs zs => vs ++ My.pick [] zs) :=
  kbn_of F 4 [] fun _ _ _ _ _ _ us ws h1 h2 => match us, ws, h1, h2 with | [_, _, _, _], [], _, _ => rfl
theorem xq_Doubled (F : Fun K "__init__" "Doubled.__init__" i_Doubled f fd) : KBn K fd ["self", "first", "second", "block"] 1 ["block", "second", "first"] (fun us ws => us ++ My.pick [2, 1, 0] ws) (fun vs zs => vs ++ My.pick [2, 1, 0] zs) :=
  kbn_of F 1 [2, 1, 0] fun _ _ _ _ _ _ us ws h1 h2 => match us, ws, h1, h2 with | [_], [_, _, _], _, _ => rfl
abbrev i_Caught : Stmt := inClass (topS 11) 0
theorem isc_Caught : FnScope ["self", "use", "own", "other", "block"] ["self", "use", "own", "other", "block"] (defScope i_Caught) := ⟨rfl, rfl, rfl, by decide +kernel, rfl, by decide +kernel, by decide +kernel⟩
theorem xk_Caught (F : Fun K "__init__" "Caught.__init__" i_Caught f fd) : FnOk P w K mg base CX0 1 f fd ["self", "use", "own", "other", "block"] (spXI K "Caught" ["use", "own", "other", "block"]) := by
  refine F.ok isc_Caught (fun vs H Q E h => ?_) (fun cdv A outer s H vs Q E hr h => ?_)
  · obtain ⟨a, C, ws, rfl, hl, _⟩ := h
    match ws, hl with
    | [_, _, _, _], _ => rfl
  obtain ⟨a, C, ws, rfl, hl, T, ea, q⟩ := h
  match ws, hl with
  | [w1, w2, w3, w4], _ =>
  refine ⟨_, (pss_cons (ps_xst (pv 0) pe_str) (pss_cons (ps_xst (pv 0) (pv 1)) (pss_cons (ps_xst (pv 0) (pv 2)) (pss_cons (ps_xst (pv 0) (pv 3)) (pss_one (ps_xst (pv 0) (pv 4))))))), ?_⟩
  refine xst_first T.cls (T.no _ (.head _)) rfl ea fun d nd ne => ?_
  show tXst _ _ (tVar 0) (tVar 1) _ _ _
  refine xst_more T.cls (T.no _ (.tail _ (.head _))) ne (Nat.le_of_ble_eq_true rfl) rfl (fun _ _ h => ⟨_, rfl, h⟩) ?_
  show tXst _ _ (tVar 0) (tVar 2) _ _ _
  refine xst_more T.cls (T.no _ (.tail _ (.tail _ (.head _)))) ne (Nat.le_of_ble_eq_true rfl) rfl (fun _ _ h => ⟨_, rfl, h⟩) ?_
  show tXst _ _ (tVar 0) (tVar 3) _ _ _
  refine xst_more T.cls (T.no _ (.tail _ (.tail _ (.tail _ (.head _))))) ne (Nat.le_of_ble_eq_true rfl) rfl (fun _ _ h => ⟨_, rfl, h⟩) ?_
  show tXst _ _ (tVar 0) (tVar 4) _ _ _
  refine xst_more T.cls (T.no _ (.tail _ (.tail _ (.tail _ (.tail _ (.head _)))))) ne (Nat.le_of_ble_eq_true rfl) rfl (fun _ _ h => ⟨_, rfl, h⟩) ?_
  exact q _ _ (fun b h1 h2 => xat_ne h1 h2) nd ne xat_o (xat_d ne)
theorem xb_Caught (F : Fun K "__init__" "Caught.__init__" i_Caught f fd) : KBn K fd ["self", "use", "own", "other", "block"] 5 [] (fun us ws => us ++ My.pick [] ws) (fun vs zs => vs ++ My.pick [] zs) :=
  kbn_of F 5 [] fun _ _ _ _ _ _ us ws h1 h2 => match us, ws, h1, h2 with | [_, _, _, _, _], [], _, _ => rfl
theorem xq_Caught (F : Fun K "__init__" "Caught.__init__" i_Caught f fd) : KBn K fd ["self", "use", "own", "other", "block"] 1 ["block", "other", "own", "use"] (fun us ws => us ++ My.pick [3, 2, 1, 0] ws) (fun vs zs => vs ++ My.pick [3, 2, 1, 0] zs) :=
  kbn_of F 1 [3, 2, 1, 0] fun _ _ _ _ _ _ us ws h1 h2 => match us, ws, h1, h2 with | [_], [_, _, _, _], _, _ => rfl
abbrev i_InvalidFixed : Stmt := inClass (topS 12) 0
theorem isc_InvalidFixed : FnScope ["self", "at"] ["self", "at"] (defScope i_InvalidFixed) := ⟨rfl, rfl, rfl, by decide +kernel, rfl, by decide +kernel, by decide +kernel⟩
theorem xk_InvalidFixed (F : Fun K "__init__" "InvalidFixed.__init__" i_InvalidFixed f fd) : FnOk P w K mg base CX0 1 f fd ["self", "at"] (spXI K "InvalidFixed" ["at"]) := by
  refine F.ok isc_InvalidFixed (fun vs H Q E h => ?_) (fun cdv A outer s H vs Q E hr h => ?_)
  · obtain ⟨a, C, ws, rfl, hl, _⟩ := h
    match ws, hl with
    | [_], _ => rfl
  obtain ⟨a, C, ws, rfl, hl, T, ea, q⟩ := h
  match ws, hl with
  | [w1], _ =>
  refine ⟨_, (pss_cons (ps_xst (pv 0) pe_str) (pss_one (ps_xst (pv 0) (pv 1)))), ?_⟩
  refine xst_first T.cls (T.no _ (.head _)) rfl ea fun d nd ne => ?_
  show tXst _ _ (tVar 0) (tVar 1) _ _ _
  refine xst_more T.cls (T.no _ (.tail _ (.head _))) ne (Nat.le_of_ble_eq_true rfl) rfl (fun _ _ h => ⟨_, rfl, h⟩) ?_
  exact q _ _ (fun b h1 h2 => xat_ne h1 h2) nd ne xat_o (xat_d ne)
theorem xb_InvalidFixed (F : Fun K "__init__" "InvalidFixed.__init__" i_InvalidFixed f fd) : KBn K fd ["self", "at"] 2 [] (fun us ws => us ++ My.pick [] ws) (fun vs zs => vs ++ My.pick [] zs) :=
  kbn_of F 2 [] fun _ _ _ _ _ _ us ws h1 h2 => match us, ws, h1, h2 with | [_, _], [], _, _ => rfl
theorem xq_InvalidFixed (F : Fun K "__init__" "InvalidFixed.__init__" i_InvalidFixed f fd) : KBn K fd ["self", "at"] 1 ["at"] (fun us ws => us ++ My.pick [0] ws) (fun vs zs => vs ++ My.pick [0] zs) :=
  kbn_of F 1 [0] fun _ _ _ _ _ _ us ws h1 h2 => match us, ws, h1, h2 with | [_], [_], _, _ => rfl
abbrev i_InvalidNaming : Stmt := inClass (topS 13) 0
theorem isc_InvalidNaming : FnScope ["self", "declaration"] ["self", "declaration"] (defScope i_InvalidNaming) := ⟨rfl, rfl, rfl, by decide +kernel, rfl, by decide +kernel, by decide +kernel⟩
theorem xk_InvalidNaming (F : Fun K "__init__" "InvalidNaming.__init__" i_InvalidNaming f fd) : FnOk P w K mg base CX0 1 f fd ["self", "declaration"] (spXI K "InvalidNaming" ["declaration"]) := by
  refine F.ok isc_InvalidNaming (fun vs H Q E h => ?_) (fun cdv A outer s H vs Q E hr h => ?_)
  · obtain ⟨a, C, ws, rfl, hl, _⟩ := h
    match ws, hl with
    | [_], _ => rfl
  obtain ⟨a, C, ws, rfl, hl, T, ea, q⟩ := h
  match ws, hl with
  | [w1], _ =>
  refine ⟨_, (pss_cons (ps_xst (pv 0) pe_str) (pss_one (ps_xst (pv 0) (pv 1)))), ?_⟩
  refine xst_first T.cls (T.no _ (.head _)) rfl ea fun d nd ne => ?_
  show tXst _ _ (tVar 0) (tVar 1) _ _ _
  refine xst_more T.cls (T.no _ (.tail _ (.head _))) ne (Nat.le_of_ble_eq_true rfl) rfl (fun _ _ h => ⟨_, rfl, h⟩) ?_
  exact q _ _ (fun b h1 h2 => xat_ne h1 h2) nd ne xat_o (xat_d ne)
theorem xb_InvalidNaming (F : Fun K "__init__" "InvalidNaming.__init__" i_InvalidNaming f fd) : KBn K fd ["self", "declaration"] 2 [] (fun us ws => us ++ My.pick [] ws) (fun vs zs => vs ++ My.pick [] zs) :=
  kbn_of F 2 [] fun _ _ _ _ _ _ us ws h1 h2 => match us, ws, h1, h2 with | [_, _], [], _, _ => rfl
theorem xq_InvalidNaming (F : Fun K "__init__" "InvalidNaming.__init__" i_InvalidNaming f fd) : KBn K fd ["self", "declaration"] 1 ["declaration"] (fun us ws => us ++ My.pick [0] ws) (fun vs zs => vs ++ My.pick [0] zs) :=
  kbn_of F 1 [0] fun _ _ _ _ _ _ us ws h1 h2 => match us, ws, h1, h2 with | [_], [_], _, _ => rfl
abbrev i_NoSpare : Stmt := inClass (topS 14) 0
theorem isc_NoSpare : FnScope ["self"] ["self"] (defScope i_NoSpare) := ⟨rfl, rfl, rfl, by decide +kernel, rfl, by decide +kernel, by decide +kernel⟩
theorem xk_NoSpare (F : Fun K "__init__" "NoSpare.__init__" i_NoSpare f fd) : FnOk P w K mg base CX0 1 f fd ["self"] (spXI K "NoSpare" []) := by
  refine F.ok isc_NoSpare (fun vs H Q E h => ?_) (fun cdv A outer s H vs Q E hr h => ?_)
  · obtain ⟨a, C, ws, rfl, hl, _⟩ := h
    match ws, hl with
    | [], _ => rfl
  obtain ⟨a, C, ws, rfl, hl, T, ea, q⟩ := h
  match ws, hl with
  | [], _ =>
  refine ⟨_, (pss_one (ps_xst (pv 0) pe_str)), ?_⟩
  refine xst_first T.cls (T.no _ (.head _)) rfl ea fun d nd ne => ?_
  exact q _ _ (fun b h1 h2 => xat_ne h1 h2) nd ne xat_o (xat_d ne)
theorem xb_NoSpare (F : Fun K "__init__" "NoSpare.__init__" i_NoSpare f fd) : KBn K fd ["self"] 1 [] (fun us ws => us ++ My.pick [] ws) (fun vs zs => vs ++ My.pick [] zs) :=
  kbn_of F 1 [] fun _ _ _ _ _ _ us ws h1 h2 => match us, ws, h1, h2 with | [_], [], _, _ => rfl
abbrev i_TooMany : Stmt := inClass (topS 15) 0
theorem isc_TooMany : FnScope ["self", "most"] ["self", "most"] (defScope i_TooMany) := ⟨rfl, rfl, rfl, by decide +kernel, rfl, by decide +kernel, by decide +kernel⟩
theorem xk_TooMany (F : Fun K "__init__" "TooMany.__init__" i_TooMany f fd) : FnOk P w K mg base CX0 1 f fd ["self", "most"] (spXI K "TooMany" ["most"]) := by
  refine F.ok isc_TooMany (fun vs H Q E h => ?_) (fun cdv A outer s H vs Q E hr h => ?_)
  · obtain ⟨a, C, ws, rfl, hl, _⟩ := h
    match ws, hl with
    | [_], _ => rfl
  obtain ⟨a, C, ws, rfl, hl, T, ea, q⟩ := h
  match ws, hl with
  | [w1], _ =>
  refine ⟨_, (pss_cons (ps_xst (pv 0) pe_str) (pss_one (ps_xst (pv 0) (pv 1)))), ?_⟩
  refine xst_first T.cls (T.no _ (.head _)) rfl ea fun d nd ne => ?_
  show tXst _ _ (tVar 0) (tVar 1) _ _ _
  refine xst_more T.cls (T.no _ (.tail _ (.head _))) ne (Nat.le_of_ble_eq_true rfl) rfl (fun _ _ h => ⟨_, rfl, h⟩) ?_
  exact q _ _ (fun b h1 h2 => xat_ne h1 h2) nd ne xat_o (xat_d ne)
theorem xb_TooMany (F : Fun K "__init__" "TooMany.__init__" i_TooMany f fd) : KBn K fd ["self", "most"] 2 [] (fun us ws => us ++ My.pick [] ws) (fun vs zs => vs ++ My.pick [] zs) :=
  kbn_of F 2 [] fun _ _ _ _ _ _ us ws h1 h2 => match us, ws, h1, h2 with | [_, _], [], _, _ => rfl
theorem xq_TooMany (F : Fun K "__init__" "TooMany.__init__" i_TooMany f fd) : KBn K fd ["self", "most"] 1 ["most"] (fun us ws => us ++ My.pick [0] ws) (fun vs zs => vs ++ My.pick [0] zs) :=
  kbn_of F 1 [0] fun _ _ _ _ _ _ us ws h1 h2 => match us, ws, h1, h2 with | [_], [_], _, _ => rfl
abbrev i_InvalidWorth : Stmt := inClass (topS 16) 0
theorem isc_InvalidWorth : FnScope ["self", "declaration"] ["self", "declaration"] (defScope i_InvalidWorth) := ⟨rfl, rfl, rfl, by decide +kernel, rfl, by decide +kernel, by decide +kernel⟩
theorem xk_InvalidWorth (F : Fun K "__init__" "InvalidWorth.__init__" i_InvalidWorth f fd) : FnOk P w K mg base CX0 1 f fd ["self", "declaration"] (spXI K "InvalidWorth" ["declaration"]) := by
  refine F.ok isc_InvalidWorth (fun vs H Q E h => ?_) (fun cdv A outer s H vs Q E hr h => ?_)
  · obtain ⟨a, C, ws, rfl, hl, _⟩ := h
    match ws, hl with
    | [_], _ => rfl
  obtain ⟨a, C, ws, rfl, hl, T, ea, q⟩ := h
  match ws, hl with
  | [w1], _ =>
  refine ⟨_, (pss_cons (ps_xst (pv 0) pe_str) (pss_one (ps_xst (pv 0) (pv 1)))), ?_⟩
  refine xst_first T.cls (T.no _ (.head _)) rfl ea fun d nd ne => ?_
  show tXst _ _ (tVar 0) (tVar 1) _ _ _
  refine xst_more T.cls (T.no _ (.tail _ (.head _))) ne (Nat.le_of_ble_eq_true rfl) rfl (fun _ _ h => ⟨_, rfl, h⟩) ?_
  exact q _ _ (fun b h1 h2 => xat_ne h1 h2) nd ne xat_o (xat_d ne)
theorem xb_InvalidWorth (F : Fun K "__init__" "InvalidWorth.__init__" i_InvalidWorth f fd) : KBn K fd ["self", "declaration"] 2 [] (fun us ws => us ++ My.pick [] ws) (fun vs zs => vs ++ My.pick [] zs) :=
  kbn_of F 2 [] fun _ _ _ _ _ _ us ws h1 h2 => match us, ws, h1, h2 with | [_, _], [], _, _ => rfl
theorem xq_InvalidWorth (F : Fun K "__init__" "InvalidWorth.__init__" i_InvalidWorth f fd) : KBn K fd ["self", "declaration"] 1 ["declaration"] (fun us ws => us ++ My.pick [0] ws) (fun vs zs => vs ++ My.pick [0] zs) :=
  kbn_of F 1 [0] fun _ _ _ _ _ _ us ws h1 h2 => match us, ws, h1, h2 with | [_], [_], _, _ => rfl
abbrev i_Beyond : Stmt := inClass (topS 17) 0
theorem isc_Beyond : FnScope ["self", "first", "second"] ["self", "first", "second"] (defScope i_Beyond) := ⟨rfl, rfl, rfl, by decide +kernel, rfl, by decide +kernel, by decide +kernel⟩
theorem xk_Beyond (F : Fun K "__init__" "Beyond.__init__" i_Beyond f fd) : FnOk P w K mg base CX0 1 f fd ["self", "first", "second"] (spXI K "Beyond" ["first", "second"]) := by
  refine F.ok isc_Beyond (fun vs H Q E h => ?_) (fun cdv A outer s H vs Q E hr h => ?_)
  · obtain ⟨a, C, ws, rfl, hl, _⟩ := h
    match ws, hl with
    | [_, _], _ => rfl
  obtain ⟨a, C, ws, rfl, hl, T, ea, q⟩ := h
  match ws, hl with
  | [w1, w2], _ =>
  refine ⟨_, (pss_cons (ps_xst (pv 0) pe_str) (pss_cons (ps_xst (pv 0) (pv 1)) (pss_one (ps_xst (pv 0) (pv 2))))), ?_⟩
  refine xst_first T.cls (T.no _ (.head _)) rfl ea fun d nd ne => ?_
  show tXst _ _ (tVar 0) (tVar 1) _ _ _
  refine xst_more T.cls (T.no _ (.tail _ (.head _))) ne (Nat.le_of_ble_eq_true rfl) rfl (fun _ _ h => ⟨_, rfl, h⟩) ?_
  show tXst _ _ (tVar 0) (tVar 2) _ _ _
  refine xst_more T.cls (T.no _ (.tail _ (.tail _ (.head _)))) ne (Nat.le_of_ble_eq_true rfl) rfl (fun _ _ h => ⟨_, rfl, h⟩) ?_
  exact q _ _ (fun b h1 h2 => xat_ne h1 h2) nd ne xat_o (xat_d ne)
theorem xb_Beyond (F : Fun K "__init__" "Beyond.__init__" i_Beyond f fd) : KBn K fd ["self", "first", "second"] 3 [] (fun us ws => us ++ My.pick [] ws) (fun vs zs => vs ++ My.pick [] zs) :=
  kbn_of F 3 [] fun _ _ _ _ _ _ us ws h1 h2 => match us, ws, h1, h2 with | [_, _, _], [], _, _ => rfl
theorem xq_Beyond (F : Fun K "__init__" "Beyond.__init__" i_Beyond f fd) : KBn K fd ["self", "first", "second"] 1 ["second", "first"] (fun us ws => us ++ My.pick [1, 0] ws) (fun vs zs => vs ++ My.pick [1, 0] zs) :=
  kbn_of F 1 [1, 0] fun _ _ _ _ _ _ us ws h1 h2 => match us, ws, h1, h2 with | [_], [_, _], _, _ => rfl
abbrev i_InvalidEdit : Stmt := inClass (topS 18) 0
theorem isc_InvalidEdit : FnScope ["self", "at"] ["self", "at"] (defScope i_InvalidEdit) := ⟨rfl, rfl, rfl, by decide +kernel, rfl, by decide +kernel, by decide +kernel⟩
theorem xk_InvalidEdit (F : Fun K "__init__" "InvalidEdit.__init__" i_InvalidEdit f fd) : FnOk P w K mg base CX0 1 f fd ["self", "at"] (spXI K "InvalidEdit" ["at"]) := by
  refine F.ok isc_InvalidEdit (fun vs H Q E h => ?_) (fun cdv A outer s H vs Q E hr h => ?_)
  · obtain ⟨a, C, ws, rfl, hl, _⟩ := h
    match ws, hl with
    | [_], _ => rfl
  obtain ⟨a, C, ws, rfl, hl, T, ea, q⟩ := h
  match ws, hl with
  | [w1], _ =>
  refine ⟨_, (pss_cons (ps_xst (pv 0) pe_str) (pss_one (ps_xst (pv 0) (pv 1)))), ?_⟩
  refine xst_first T.cls (T.no _ (.head _)) rfl ea fun d nd ne => ?_
  show tXst _ _ (tVar 0) (tVar 1) _ _ _
  refine xst_more T.cls (T.no _ (.tail _ (.head _))) ne (Nat.le_of_ble_eq_true rfl) rfl (fun _ _ h => ⟨_, rfl, h⟩) ?_
  exact q _ _ (fun b h1 h2 => xat_ne h1 h2) nd ne xat_o (xat_d ne)
theorem xb_InvalidEdit (F : Fun K "__init__" "InvalidEdit.__init__" i_InvalidEdit f fd) : KBn K fd ["self", "at"] 2 [] (fun us ws => us ++ My.pick [] ws) (fun vs zs => vs ++ My.pick [] zs) :=
  kbn_of F 2 [] fun _ _ _ _ _ _ us ws h1 h2 => match us, ws, h1, h2 with | [_, _], [], _, _ => rfl
theorem xq_InvalidEdit (F : Fun K "__init__" "InvalidEdit.__init__" i_InvalidEdit f fd) : KBn K fd ["self", "at"] 1 ["at"] (fun us ws => us ++ My.pick [0] ws) (fun vs zs => vs ++ My.pick [0] zs) :=
  kbn_of F 1 [0] fun _ _ _ _ _ _ us ws h1 h2 => match us, ws, h1, h2 with | [_], [_], _, _ => rfl
abbrev i_NotFit : Stmt := inClass (topS 19) 0
theorem isc_NotFit : FnScope ["self", "row"] ["self", "row"] (defScope i_NotFit) := ⟨rfl, rfl, rfl, by decide +kernel, rfl, by decide +kernel, by decide +kernel⟩
theorem xk_NotFit (F : Fun K "__init__" "NotFit.__init__" i_NotFit f fd) : FnOk P w K mg base CX0 1 f fd ["self", "row"] (spXI K "NotFit" ["row"]) := by
  refine F.ok isc_NotFit (fun vs H Q E h => ?_) (fun cdv A outer s H vs Q E hr h => ?_)
  · obtain ⟨a, C, ws, rfl, hl, _⟩ := h
    match ws, hl with
    | [_], _ => rfl
  obtain ⟨a, C, ws, rfl, hl, T, ea, q⟩ := h
  match ws, hl with
  | [w1], _ =>
  refine ⟨_, (pss_cons (ps_xst (pv 0) pe_str) (pss_one (ps_xst (pv 0) (pv 1)))), ?_⟩
  refine xst_first T.cls (T.no _ (.head _)) rfl ea fun d nd ne => ?_
  show tXst _ _ (tVar 0) (tVar 1) _ _ _
  refine xst_more T.cls (T.no _ (.tail _ (.head _))) ne (Nat.le_of_ble_eq_true rfl) rfl (fun _ _ h => ⟨_, rfl, h⟩) ?_
  exact q _ _ (fun b h1 h2 => xat_ne h1 h2) nd ne xat_o (xat_d ne)
theorem xb_NotFit (F : Fun K "__init__" "NotFit.__init__" i_NotFit f fd) : KBn K fd ["self", "row"] 2 [] (fun us ws => us ++ My.pick [] ws) (fun vs zs => vs ++ My.pick [] zs) :=
  kbn_of F 2 [] fun _ _ _ _ _ _ us ws h1 h2 => match us, ws, h1, h2 with | [_, _], [], _, _ => rfl
theorem xq_NotFit (F : Fun K "__init__" "NotFit.__init__" i_NotFit f fd) : KBn K fd ["self", "row"] 1 ["row"] (fun us ws => us ++ My.pick [0] ws) (fun vs zs => vs ++ My.pick [0] zs) :=
  kbn_of F 1 [0] fun _ _ _ _ _ _ us ws h1 h2 => match us, ws, h1, h2 with | [_], [_], _, _ => rfl
abbrev i_NotAbove : Stmt := inClass (topS 20) 0
theorem isc_NotAbove : FnScope ["self", "block"] ["self", "block"] (defScope i_NotAbove) := ⟨rfl, rfl, rfl, by decide +kernel, rfl, by decide +kernel, by decide +kernel⟩
theorem xk_NotAbove (F : Fun K "__init__" "NotAbove.__init__" i_NotAbove f fd) : FnOk P w K mg base CX0 1 f fd ["self", "block"] (spXI K "NotAbove" ["block"]) := by
  refine F.ok isc_NotAbove (fun vs H Q E h => ?_) (fun cdv A outer s H vs Q E hr h => ?_)
  · obtain ⟨a, C, ws, rfl, hl, _⟩ := h
    match ws, hl with
    | [_], _ => rfl
  obtain ⟨a, C, ws, rfl, hl, T, ea, q⟩ := h
  match ws, hl with
  | [w1], _ =>
  refine ⟨_, (pss_cons (ps_xst (pv 0) pe_str) (pss_one (ps_xst (pv 0) (pv 1)))), ?_⟩
  refine xst_first T.cls (T.no _ (.head _)) rfl ea fun d nd ne => ?_
  show tXst _ _ (tVar 0) (tVar 1) _ _ _
  refine xst_more T.cls (T.no _ (.tail _ (.head _))) ne (Nat.le_of_ble_eq_true rfl) rfl (fun _ _ h => ⟨_, rfl, h⟩) ?_
  exact q _ _ (fun b h1 h2 => xat_ne h1 h2) nd ne xat_o (xat_d ne)
theorem xb_NotAbove (F : Fun K "__init__" "NotAbove.__init__" i_NotAbove f fd) : KBn K fd ["self", "block"] 2 [] (fun us ws => us ++ My.pick [] ws) (fun vs zs => vs ++ My.pick [] zs) :=
  kbn_of F 2 [] fun _ _ _ _ _ _ us ws h1 h2 => match us, ws, h1, h2 with | [_, _], [], _, _ => rfl
theorem xq_NotAbove (F : Fun K "__init__" "NotAbove.__init__" i_NotAbove f fd) : KBn K fd ["self", "block"] 1 ["block"] (fun us ws => us ++ My.pick [0] ws) (fun vs zs => vs ++ My.pick [0] zs) :=
  kbn_of F 1 [0] fun _ _ _ _ _ _ us ws h1 h2 => match us, ws, h1, h2 with | [_], [_], _, _ => rfl
abbrev i_Ring : Stmt := inClass (topS 21) 0
theorem isc_Ring : FnScope ["self", "row"] ["self", "row"] (defScope i_Ring) := ⟨rfl, rfl, rfl, by decide +kernel, rfl, by decide +kernel, by decide +kernel⟩
theorem xk_Ring (F : Fun K "__init__" "Ring.__init__" i_Ring f fd) : FnOk P w K mg base CX0 1 f fd ["self", "row"] (spXI K "Ring" ["row"]) := by
  refine F.ok isc_Ring (fun vs H Q E h => ?_) (fun cdv A outer s H vs Q E hr h => ?_)
  · obtain ⟨a, C, ws, rfl, hl, _⟩ := h
    match ws, hl with
    | [_], _ => rfl
  obtain ⟨a, C, ws, rfl, hl, T, ea, q⟩ := h
  match ws, hl with
  | [w1], _ =>
  refine ⟨_, (pss_cons (ps_xst (pv 0) pe_str) (pss_one (ps_xst (pv 0) (pv 1)))), ?_⟩
  refine xst_first T.cls (T.no _ (.head _)) rfl ea fun d nd ne => ?_
  show tXst _ _ (tVar 0) (tVar 1) _ _ _
  refine xst_more T.cls (T.no _ (.tail _ (.head _))) ne (Nat.le_of_ble_eq_true rfl) rfl (fun _ _ h => ⟨_, rfl, h⟩) ?_
  exact q _ _ (fun b h1 h2 => xat_ne h1 h2) nd ne xat_o (xat_d ne)
theorem xb_Ring (F : Fun K "__init__" "Ring.__init__" i_Ring f fd) : KBn K fd ["self", "row"] 2 [] (fun us ws => us ++ My.pick [] ws) (fun vs zs => vs ++ My.pick [] zs) :=
  kbn_of F 2 [] fun _ _ _ _ _ _ us ws h1 h2 => match us, ws, h1, h2 with | [_, _], [], _, _ => rfl
theorem xq_Ring (F : Fun K "__init__" "Ring.__init__" i_Ring f fd) : KBn K fd ["self", "row"] 1 ["row"] (fun us ws => us ++ My.pick [0] ws) (fun vs zs => vs ++ My.pick [0] zs) :=
  kbn_of F 1 [0] fun _ _ _ _ _ _ us ws h1 h2 => match us, ws, h1, h2 with | [_], [_], _, _ => rfl
abbrev i_NoRoom : Stmt := inClass (topS 22) 0
theorem isc_NoRoom : FnScope ["self", "row"] ["self", "row"] (defScope i_NoRoom) := ⟨rfl, rfl, rfl, by decide +kernel, rfl, by decide +kernel, by decide +kernel⟩
theorem xk_NoRoom (F : Fun K "__init__" "NoRoom.__init__" i_NoRoom f fd) : FnOk P w K mg base CX0 1 f fd ["self", "row"] (spXI K "NoRoom" ["row"]) := by
  refine F.ok isc_NoRoom (fun vs H Q E h => ?_) (fun cdv A outer s H vs Q E hr h => ?_)
  · obtain ⟨a, C, ws, rfl, hl, _⟩ := h
    match ws, hl with
    | [_], _ => rfl
  obtain ⟨a, C, ws, rfl, hl, T, ea, q⟩ := h
  match ws, hl with
  | [w1], _ =>
  refine ⟨_, (pss_cons (ps_xst (pv 0) pe_str) (pss_one (ps_xst (pv 0) (pv 1)))), ?_⟩
  refine xst_first T.cls (T.no _ (.head _)) rfl ea fun d nd ne => ?_
  show tXst _ _ (tVar 0) (tVar 1) _ _ _
  refine xst_more T.cls (T.no _ (.tail _ (.head _))) ne (Nat.le_of_ble_eq_true rfl) rfl (fun _ _ h => ⟨_, rfl, h⟩) ?_
  exact q _ _ (fun b h1 h2 => xat_ne h1 h2) nd ne xat_o (xat_d ne)
theorem xb_NoRoom (F : Fun K "__init__" "NoRoom.__init__" i_NoRoom f fd) : KBn K fd ["self", "row"] 2 [] (fun us ws => us ++ My.pick [] ws) (fun vs zs => vs ++ My.pick [] zs) :=
  kbn_of F 2 [] fun _ _ _ _ _ _ us ws h1 h2 => match us, ws, h1, h2 with | [_, _], [], _, _ => rfl
theorem xq_NoRoom (F : Fun K "__init__" "NoRoom.__init__" i_NoRoom f fd) : KBn K fd ["self", "row"] 1 ["row"] (fun us ws => us ++ My.pick [0] ws) (fun vs zs => vs ++ My.pick [0] zs) :=
  kbn_of F 1 [0] fun _ _ _ _ _ _ us ws h1 h2 => match us, ws, h1, h2 with | [_], [_], _, _ => rfl
abbrev i_SamePerson : Stmt := inClass (topS 23) 0
theorem isc_SamePerson : FnScope ["self", "person"] ["self", "person"] (defScope i_SamePerson) := ⟨rfl, rfl, rfl, by decide +kernel, rfl, by decide +kernel, by decide +kernel⟩
theorem xk_SamePerson (F : Fun K "__init__" "SamePerson.__init__" i_SamePerson f fd) : FnOk P w K mg base CX0 1 f fd ["self", "person"] (spXI K "SamePerson" ["person"]) := by
  refine F.ok isc_SamePerson (fun vs H Q E h => ?_) (fun cdv A outer s H vs Q E hr h => ?_)
  · obtain ⟨a, C, ws, rfl, hl, _⟩ := h
    match ws, hl with
    | [_], _ => rfl
  obtain ⟨a, C, ws, rfl, hl, T, ea, q⟩ := h
  match ws, hl with
  | [w1], _ =>
  refine ⟨_, (pss_cons (ps_xst (pv 0) pe_str) (pss_one (ps_xst (pv 0) (pv 1)))), ?_⟩
  refine xst_first T.cls (T.no _ (.head _)) rfl ea fun d nd ne => ?_
  show tXst _ _ (tVar 0) (tVar 1) _ _ _
  refine xst_more T.cls (T.no _ (.tail _ (.head _))) ne (Nat.le_of_ble_eq_true rfl) rfl (fun _ _ h => ⟨_, rfl, h⟩) ?_
  exact q _ _ (fun b h1 h2 => xat_ne h1 h2) nd ne xat_o (xat_d ne)
theorem xb_SamePerson (F : Fun K "__init__" "SamePerson.__init__" i_SamePerson f fd) : KBn K fd ["self", "person"] 2 [] (fun us ws => us ++ My.pick [] ws) (fun vs zs => vs ++ My.pick [] zs) :=
  kbn_of F 2 [] fun _ _ _ _ _ _ us ws h1 h2 => match us, ws, h1, h2 with | [_, _], [], _, _ => rfl
theorem xq_SamePerson (F : Fun K "__init__" "SamePerson.__init__" i_SamePerson f fd) : KBn K fd ["self", "person"] 1 ["person"] (fun us ws => us ++ My.pick [0] ws) (fun vs zs => vs ++ My.pick [0] zs) :=
  kbn_of F 1 [0] fun _ _ _ _ _ _ us ws h1 h2 => match us, ws, h1, h2 with | [_], [_], _, _ => rfl
abbrev i_Unrelated : Stmt := inClass (topS 24) 0
theorem isc_Unrelated : FnScope ["self", "row"] ["self", "row"] (defScope i_Unrelated) := ⟨rfl, rfl, rfl, by decide +kernel, rfl, by decide +kernel, by decide +kernel⟩
theorem xk_Unrelated (F : Fun K "__init__" "Unrelated.__init__" i_Unrelated f fd) : FnOk P w K mg base CX0 1 f fd ["self", "row"] (spXI K "Unrelated" ["row"]) := by
  refine F.ok isc_Unrelated (fun vs H Q E h => ?_) (fun cdv A outer s H vs Q E hr h => ?_)
  · obtain ⟨a, C, ws, rfl, hl, _⟩ := h
    match ws, hl with
    | [_], _ => rfl
  obtain ⟨a, C, ws, rfl, hl, T, ea, q⟩ := h
  match ws, hl with
  | [w1], _ =>
  refine ⟨_, (pss_cons (ps_xst (pv 0) pe_str) (pss_one (ps_xst (pv 0) (pv 1)))), ?_⟩
  refine xst_first T.cls (T.no _ (.head _)) rfl ea fun d nd ne => ?_
  show tXst _ _ (tVar 0) (tVar 1) _ _ _
  refine xst_more T.cls (T.no _ (.tail _ (.head _))) ne (Nat.le_of_ble_eq_true rfl) rfl (fun _ _ h => ⟨_, rfl, h⟩) ?_
  exact q _ _ (fun b h1 h2 => xat_ne h1 h2) nd ne xat_o (xat_d ne)
theorem xb_Unrelated (F : Fun K "__init__" "Unrelated.__init__" i_Unrelated f fd) : KBn K fd ["self", "row"] 2 [] (fun us ws => us ++ My.pick [] ws) (fun vs zs => vs ++ My.pick [] zs) :=
  kbn_of F 2 [] fun _ _ _ _ _ _ us ws h1 h2 => match us, ws, h1, h2 with | [_, _], [], _, _ => rfl
theorem xq_Unrelated (F : Fun K "__init__" "Unrelated.__init__" i_Unrelated f fd) : KBn K fd ["self", "row"] 1 ["row"] (fun us ws => us ++ My.pick [0] ws) (fun vs zs => vs ++ My.pick [0] zs) :=
  kbn_of F 1 [0] fun _ _ _ _ _ _ us ws h1 h2 => match us, ws, h1, h2 with | [_], [_], _, _ => rfl
abbrev i_Argued : Stmt := inClass (topS 25) 0
theorem isc_Argued : FnScope ["self", "attribute"] ["self", "attribute"] (defScope i_Argued) := ⟨rfl, rfl, rfl, by decide +kernel, rfl, by decide +kernel, by decide +kernel⟩
theorem xk_Argued (F : Fun K "__init__" "Argued.__init__" i_Argued f fd) : FnOk P w K mg base CX0 1 f fd ["self", "attribute"] (spXI K "Argued" ["attribute"]) := by
  refine F.ok isc_Argued (fun vs H Q E h => ?_) (fun cdv A outer s H vs Q E hr h => ?_)
  · obtain ⟨a, C, ws, rfl, hl, _⟩ := h
    match ws, hl with
    | [_], _ => rfl
  obtain ⟨a, C, ws, rfl, hl, T, ea, q⟩ := h
  match ws, hl with
  | [w1], _ =>
  refine ⟨_, (pss_cons (ps_xst (pv 0) pe_str) (pss_one (ps_xst (pv 0) (pv 1)))), ?_⟩
  refine xst_first T.cls (T.no _ (.head _)) rfl ea fun d nd ne => ?_
  show tXst _ _ (tVar 0) (tVar 1) _ _ _
  refine xst_more T.cls (T.no _ (.tail _ (.head _))) ne (Nat.le_of_ble_eq_true rfl) rfl (fun _ _ h => ⟨_, rfl, h⟩) ?_
  exact q _ _ (fun b h1 h2 => xat_ne h1 h2) nd ne xat_o (xat_d ne)
theorem xb_Argued (F : Fun K "__init__" "Argued.__init__" i_Argued f fd) : KBn K fd ["self", "attribute"] 2 [] (fun us ws => us ++ My.pick [] ws) (fun vs zs => vs ++ My.pick [] zs) :=
  kbn_of F 2 [] fun _ _ _ _ _ _ us ws h1 h2 => match us, ws, h1, h2 with | [_, _], [], _, _ => rfl
theorem xq_Argued (F : Fun K "__init__" "Argued.__init__" i_Argued f fd) : KBn K fd ["self", "attribute"] 1 ["attribute"] (fun us ws => us ++ My.pick [0] ws) (fun vs zs => vs ++ My.pick [0] zs) :=
  kbn_of F 1 [0] fun _ _ _ _ _ _ us ws h1 h2 => match us, ws, h1, h2 with | [_], [_], _, _ => rfl
abbrev i_Unsound : Stmt := inClass (topS 26) 0
theorem isc_Unsound : FnScope ["self", "fault"] ["self", "fault"] (defScope i_Unsound) := ⟨rfl, rfl, rfl, by decide +kernel, rfl, by decide +kernel, by decide +kernel⟩
theorem xk_Unsound (F : Fun K "__init__" "Unsound.__init__" i_Unsound f fd) : FnOk P w K mg base CX0 1 f fd ["self", "fault"] (spXI K "Unsound" ["fault"]) := by
  refine F.ok isc_Unsound (fun vs H Q E h => ?_) (fun cdv A outer s H vs Q E hr h => ?_)
  · obtain ⟨a, C, ws, rfl, hl, _⟩ := h
    match ws, hl with
    | [_], _ => rfl
  obtain ⟨a, C, ws, rfl, hl, T, ea, q⟩ := h
  match ws, hl with
  | [w1], _ =>
  refine ⟨_, (pss_cons (ps_xst (pv 0) pe_str) (pss_one (ps_xst (pv 0) (pv 1)))), ?_⟩
  refine xst_first T.cls (T.no _ (.head _)) rfl ea fun d nd ne => ?_
  show tXst _ _ (tVar 0) (tVar 1) _ _ _
  refine xst_more T.cls (T.no _ (.tail _ (.head _))) ne (Nat.le_of_ble_eq_true rfl) rfl (fun _ _ h => ⟨_, rfl, h⟩) ?_
  exact q _ _ (fun b h1 h2 => xat_ne h1 h2) nd ne xat_o (xat_d ne)
theorem xb_Unsound (F : Fun K "__init__" "Unsound.__init__" i_Unsound f fd) : KBn K fd ["self", "fault"] 2 [] (fun us ws => us ++ My.pick [] ws) (fun vs zs => vs ++ My.pick [] zs) :=
  kbn_of F 2 [] fun _ _ _ _ _ _ us ws h1 h2 => match us, ws, h1, h2 with | [_, _], [], _, _ => rfl
theorem xq_Unsound (F : Fun K "__init__" "Unsound.__init__" i_Unsound f fd) : KBn K fd ["self", "fault"] 1 ["fault"] (fun us ws => us ++ My.pick [0] ws) (fun vs zs => vs ++ My.pick [0] zs) :=
  kbn_of F 1 [0] fun _ _ _ _ _ _ us ws h1 h2 => match us, ws, h1, h2 with | [_], [_], _, _ => rfl
abbrev i_Moved : Stmt := inClass (topS 27) 0
theorem isc_Moved : FnScope ["self", "attribute"] ["self", "attribute"] (defScope i_Moved) := ⟨rfl, rfl, rfl, by decide +kernel, rfl, by decide +kernel, by decide +kernel⟩
theorem xk_Moved (F : Fun K "__init__" "Moved.__init__" i_Moved f fd) : FnOk P w K mg base CX0 1 f fd ["self", "attribute"] (spXI K "Moved" ["attribute"]) := by
  refine F.ok isc_Moved (fun vs H Q E h => ?_) (fun cdv A outer s H vs Q E hr h => ?_)
  · obtain ⟨a, C, ws, rfl, hl, _⟩ := h
    match ws, hl with
    | [_], _ => rfl
  obtain ⟨a, C, ws, rfl, hl, T, ea, q⟩ := h
  match ws, hl with
  | [w1], _ =>
  refine ⟨_, (pss_cons (ps_xst (pv 0) pe_str) (pss_one (ps_xst (pv 0) (pv 1)))), ?_⟩
  refine xst_first T.cls (T.no _ (.head _)) rfl ea fun d nd ne => ?_
  show tXst _ _ (tVar 0) (tVar 1) _ _ _
  refine xst_more T.cls (T.no _ (.tail _ (.head _))) ne (Nat.le_of_ble_eq_true rfl) rfl (fun _ _ h => ⟨_, rfl, h⟩) ?_
  exact q _ _ (fun b h1 h2 => xat_ne h1 h2) nd ne xat_o (xat_d ne)
theorem xb_Moved (F : Fun K "__init__" "Moved.__init__" i_Moved f fd) : KBn K fd ["self", "attribute"] 2 [] (fun us ws => us ++ My.pick [] ws) (fun vs zs => vs ++ My.pick [] zs) :=
  kbn_of F 2 [] fun _ _ _ _ _ _ us ws h1 h2 => match us, ws, h1, h2 with | [_, _], [], _, _ => rfl
theorem xq_Moved (F : Fun K "__init__" "Moved.__init__" i_Moved f fd) : KBn K fd ["self", "attribute"] 1 ["attribute"] (fun us ws => us ++ My.pick [0] ws) (fun vs zs => vs ++ My.pick [0] zs) :=
  kbn_of F 1 [0] fun _ _ _ _ _ _ us ws h1 h2 => match us, ws, h1, h2 with | [_], [_], _, _ => rfl
abbrev i_NotFull : Stmt := inClass (topS 28) 0
theorem isc_NotFull : FnScope ["self", "attribute"] ["self", "attribute"] (defScope i_NotFull) := ⟨rfl, rfl, rfl, by decide +kernel, rfl, by decide +kernel, by decide +kernel⟩
theorem xk_NotFull (F : Fun K "__init__" "NotFull.__init__" i_NotFull f fd) : FnOk P w K mg base CX0 1 f fd ["self", "attribute"] (spXI K "NotFull" ["attribute"]) := by
  refine F.ok isc_NotFull (fun vs H Q E h => ?_) (fun cdv A outer s H vs Q E hr h => ?_)
  · obtain ⟨a, C, ws, rfl, hl, _⟩ := h
    match ws, hl with
    | [_], _ => rfl
  obtain ⟨a, C, ws, rfl, hl, T, ea, q⟩ := h
  match ws, hl with
  | [w1], _ =>
  refine ⟨_, (pss_cons (ps_xst (pv 0) pe_str) (pss_one (ps_xst (pv 0) (pv 1)))), ?_⟩
  refine xst_first T.cls (T.no _ (.head _)) rfl ea fun d nd ne => ?_
  show tXst _ _ (tVar 0) (tVar 1) _ _ _
  refine xst_more T.cls (T.no _ (.tail _ (.head _))) ne (Nat.le_of_ble_eq_true rfl) rfl (fun _ _ h => ⟨_, rfl, h⟩) ?_
  exact q _ _ (fun b h1 h2 => xat_ne h1 h2) nd ne xat_o (xat_d ne)
theorem xb_NotFull (F : Fun K "__init__" "NotFull.__init__" i_NotFull f fd) : KBn K fd ["self", "attribute"] 2 [] (fun us ws => us ++ My.pick [] ws) (fun vs zs => vs ++ My.pick [] zs) :=
  kbn_of F 2 [] fun _ _ _ _ _ _ us ws h1 h2 => match us, ws, h1, h2 with | [_, _], [], _, _ => rfl
theorem xq_NotFull (F : Fun K "__init__" "NotFull.__init__" i_NotFull f fd) : KBn K fd ["self", "attribute"] 1 ["attribute"] (fun us ws => us ++ My.pick [0] ws) (fun vs zs => vs ++ My.pick [0] zs) :=
  kbn_of F 1 [0] fun _ _ _ _ _ _ us ws h1 h2 => match us, ws, h1, h2 with | [_], [_], _, _ => rfl
abbrev i_InvalidWay : Stmt := inClass (topS 29) 0
theorem isc_InvalidWay : FnScope ["self", "value"] ["self", "value"] (defScope i_InvalidWay) := ⟨rfl, rfl, rfl, by decide +kernel, rfl, by decide +kernel, by decide +kernel⟩
theorem xk_InvalidWay (F : Fun K "__init__" "InvalidWay.__init__" i_InvalidWay f fd) : FnOk P w K mg base CX0 1 f fd ["self", "value"] (spXI K "InvalidWay" ["value"]) := by
  refine F.ok isc_InvalidWay (fun vs H Q E h => ?_) (fun cdv A outer s H vs Q E hr h => ?_)
  · obtain ⟨a, C, ws, rfl, hl, _⟩ := h
    match ws, hl with
    | [_], _ => rfl
  obtain ⟨a, C, ws, rfl, hl, T, ea, q⟩ := h
  match ws, hl with
  | [w1], _ =>
  refine ⟨_, (pss_cons (ps_xst (pv 0) pe_str) (pss_one (ps_xst (pv 0) (pv 1)))), ?_⟩
  refine xst_first T.cls (T.no _ (.head _)) rfl ea fun d nd ne => ?_
  show tXst _ _ (tVar 0) (tVar 1) _ _ _
  refine xst_more T.cls (T.no _ (.tail _ (.head _))) ne (Nat.le_of_ble_eq_true rfl) rfl (fun _ _ h => ⟨_, rfl, h⟩) ?_
  exact q _ _ (fun b h1 h2 => xat_ne h1 h2) nd ne xat_o (xat_d ne)
theorem xb_InvalidWay (F : Fun K "__init__" "InvalidWay.__init__" i_InvalidWay f fd) : KBn K fd ["self", "value"] 2 [] (fun us ws => us ++ My.pick [] ws) (fun vs zs => vs ++ My.pick [] zs) :=
  kbn_of F 2 [] fun _ _ _ _ _ _ us ws h1 h2 => match us, ws, h1, h2 with | [_, _], [], _, _ => rfl
theorem xq_InvalidWay (F : Fun K "__init__" "InvalidWay.__init__" i_InvalidWay f fd) : KBn K fd ["self", "value"] 1 ["value"] (fun us ws => us ++ My.pick [0] ws) (fun vs zs => vs ++ My.pick [0] zs) :=
  kbn_of F 1 [0] fun _ _ _ _ _ _ us ws h1 h2 => match us, ws, h1, h2 with | [_], [_], _, _ => rfl
abbrev i_InvalidItem : Stmt := inClass (topS 30) 0
theorem isc_InvalidItem : FnScope ["self", "at"] ["self", "at"] (defScope i_InvalidItem) := ⟨rfl, rfl, rfl, by decide +kernel, rfl, by decide +kernel, by decide +kernel⟩
theorem xk_InvalidItem (F : Fun K "__init__" "InvalidItem.__init__" i_InvalidItem f fd) : FnOk P w K mg base CX0 1 f fd ["self", "at"] (spXI K "InvalidItem" ["at"]) := by
  refine F.ok isc_InvalidItem (fun vs H Q E h => ?_) (fun cdv A outer s H vs Q E hr h => ?_)
  · obtain ⟨a, C, ws, rfl, hl, _⟩ := h
    match ws, hl with
    | [_], _ => rfl
  obtain ⟨a, C, ws, rfl, hl, T, ea, q⟩ := h
  match ws, hl with
  | [w1], _ =>
  refine ⟨_, (pss_cons (ps_xst (pv 0) pe_str) (pss_one (ps_xst (pv 0) (pv 1)))), ?_⟩
  refine xst_first T.cls (T.no _ (.head _)) rfl ea fun d nd ne => ?_
  show tXst _ _ (tVar 0) (tVar 1) _ _ _
  refine xst_more T.cls (T.no _ (.tail _ (.head _))) ne (Nat.le_of_ble_eq_true rfl) rfl (fun _ _ h => ⟨_, rfl, h⟩) ?_
  exact q _ _ (fun b h1 h2 => xat_ne h1 h2) nd ne xat_o (xat_d ne)
theorem xb_InvalidItem (F : Fun K "__init__" "InvalidItem.__init__" i_InvalidItem f fd) : KBn K fd ["self", "at"] 2 [] (fun us ws => us ++ My.pick [] ws) (fun vs zs => vs ++ My.pick [] zs) :=
  kbn_of F 2 [] fun _ _ _ _ _ _ us ws h1 h2 => match us, ws, h1, h2 with | [_, _], [], _, _ => rfl
theorem xq_InvalidItem (F : Fun K "__init__" "InvalidItem.__init__" i_InvalidItem f fd) : KBn K fd ["self", "at"] 1 ["at"] (fun us ws => us ++ My.pick [0] ws) (fun vs zs => vs ++ My.pick [0] zs) :=
  kbn_of F 1 [0] fun _ _ _ _ _ _ us ws h1 h2 => match us, ws, h1, h2 with | [_], [_], _, _ => rfl
abbrev i_InvalidCells : Stmt := inClass (topS 31) 0
theorem isc_InvalidCells : FnScope ["self", "declaration"] ["self", "declaration"] (defScope i_InvalidCells) := ⟨rfl, rfl, rfl, by decide +kernel, rfl, by decide +kernel, by decide +kernel⟩
theorem xk_InvalidCells (F : Fun K "__init__" "InvalidCells.__init__" i_InvalidCells f fd) : FnOk P w K mg base CX0 1 f fd ["self", "declaration"] (spXI K "InvalidCells" ["declaration"]) := by
  refine F.ok isc_InvalidCells (fun vs H Q E h => ?_) (fun cdv A outer s H vs Q E hr h => ?_)
  · obtain ⟨a, C, ws, rfl, hl, _⟩ := h
    match ws, hl with
    | [_], _ => rfl
  obtain ⟨a, C, ws, rfl, hl, T, ea, q⟩ := h
  match ws, hl with
  | [w1], _ =>
  refine ⟨_, (pss_cons (ps_xst (pv 0) pe_str) (pss_one (ps_xst (pv 0) (pv 1)))), ?_⟩
  refine xst_first T.cls (T.no _ (.head _)) rfl ea fun d nd ne => ?_
  show tXst _ _ (tVar 0) (tVar 1) _ _ _
  refine xst_more T.cls (T.no _ (.tail _ (.head _))) ne (Nat.le_of_ble_eq_true rfl) rfl (fun _ _ h => ⟨_, rfl, h⟩) ?_
  exact q _ _ (fun b h1 h2 => xat_ne h1 h2) nd ne xat_o (xat_d ne)
theorem xb_InvalidCells (F : Fun K "__init__" "InvalidCells.__init__" i_InvalidCells f fd) : KBn K fd ["self", "declaration"] 2 [] (fun us ws => us ++ My.pick [] ws) (fun vs zs => vs ++ My.pick [] zs) :=
  kbn_of F 2 [] fun _ _ _ _ _ _ us ws h1 h2 => match us, ws, h1, h2 with | [_, _], [], _, _ => rfl
theorem xq_InvalidCells (F : Fun K "__init__" "InvalidCells.__init__" i_InvalidCells f fd) : KBn K fd ["self", "declaration"] 1 ["declaration"] (fun us ws => us ++ My.pick [0] ws) (fun vs zs => vs ++ My.pick [0] zs) :=
  kbn_of F 1 [0] fun _ _ _ _ _ _ us ws h1 h2 => match us, ws, h1, h2 with | [_], [_], _, _ => rfl
abbrev i_SharedCell : Stmt := inClass (topS 32) 0
theorem isc_SharedCell : FnScope ["self", "first", "second"] ["self", "first", "second"] (defScope i_SharedCell) := ⟨rfl, rfl, rfl, by decide +kernel, rfl, by decide +kernel, by decide +kernel⟩
theorem xk_SharedCell (F : Fun K "__init__" "SharedCell.__init__" i_SharedCell f fd) : FnOk P w K mg base CX0 1 f fd ["self", "first", "second"] (spXI K "SharedCell" ["first", "second"]) := by
  refine F.ok isc_SharedCell (fun vs H Q E h => ?_) (fun cdv A outer s H vs Q E hr h => ?_)
  · obtain ⟨a, C, ws, rfl, hl, _⟩ := h
    match ws, hl with
    | [_, _], _ => rfl
  obtain ⟨a, C, ws, rfl, hl, T, ea, q⟩ := h
  match ws, hl with
  | [w1, w2], _ =>
  refine ⟨_, (pss_cons (ps_xst (pv 0) pe_str) (pss_cons (ps_xst (pv 0) (pv 1)) (pss_one (ps_xst (pv 0) (pv 2))))), ?_⟩
  refine xst_first T.cls (T.no _ (.head _)) rfl ea fun d nd ne => ?_
  show tXst _ _ (tVar 0) (tVar 1) _ _ _
  refine xst_more T.cls (T.no _ (.tail _ (.head _))) ne (Nat.le_of_ble_eq_true rfl) rfl (fun _ _ h => ⟨_, rfl, h⟩) ?_
  show tXst _ _ (tVar 0) (tVar 2) _ _ _
  refine xst_more T.cls (T.no _ (.tail _ (.tail _ (.head _)))) ne (Nat.le_of_ble_eq_true rfl) rfl (fun _ _ h => ⟨_, rfl, h⟩) ?_
  exact q _ _ (fun b h1 h2 => xat_ne h1 h2) nd ne xat_o (xat_d ne)
theorem xb_SharedCell (F : Fun K "__init__" "SharedCell.__init__" i_SharedCell f fd) : KBn K fd ["self", "first", "second"] 3 [] (fun us ws => us ++ My.pick [] ws) (fun vs zs => vs ++ My.pick [] zs) :=
  kbn_of F 3 [] fun _ _ _ _ _ _ us ws h1 h2 => match us, ws, h1, h2 with | [_, _, _], [], _, _ => rfl
theorem xq_SharedCell (F : Fun K "__init__" "SharedCell.__init__" i_SharedCell f fd) : KBn K fd ["self", "first", "second"] 1 ["second", "first"] (fun us ws => us ++ My.pick [1, 0] ws) (fun vs zs => vs ++ My.pick [1, 0] zs) :=
  kbn_of F 1 [1, 0] fun _ _ _ _ _ _ us ws h1 h2 => match us, ws, h1, h2 with | [_], [_, _], _, _ => rfl
abbrev i_Ended : Stmt := inClass (topS 33) 0
theorem isc_Ended : FnScope ["self"] ["self"] (defScope i_Ended) := ⟨rfl, rfl, rfl, by decide +kernel, rfl, by decide +kernel, by decide +kernel⟩
theorem xk_Ended (F : Fun K "__init__" "Ended.__init__" i_Ended f fd) : FnOk P w K mg base CX0 1 f fd ["self"] (spXI K "Ended" []) := by
  refine F.ok isc_Ended (fun vs H Q E h => ?_) (fun cdv A outer s H vs Q E hr h => ?_)
  · obtain ⟨a, C, ws, rfl, hl, _⟩ := h
    match ws, hl with
    | [], _ => rfl
  obtain ⟨a, C, ws, rfl, hl, T, ea, q⟩ := h
  match ws, hl with
  | [], _ =>
  refine ⟨_, (pss_one (ps_xst (pv 0) pe_str)), ?_⟩
  refine xst_first T.cls (T.no _ (.head _)) rfl ea fun d nd ne => ?_
  exact q _ _ (fun b h1 h2 => xat_ne h1 h2) nd ne xat_o (xat_d ne)
theorem xb_Ended (F : Fun K "__init__" "Ended.__init__" i_Ended f fd) : KBn K fd ["self"] 1 [] (fun us ws => us ++ My.pick [] ws) (fun vs zs => vs ++ My.pick [] zs) :=
  kbn_of F 1 [] fun _ _ _ _ _ _ us ws h1 h2 => match us, ws, h1, h2 with | [_], [], _, _ => rfl
abbrev i_InvalidDeed : Stmt := inClass (topS 34) 0
theorem isc_InvalidDeed : FnScope ["self", "at"] ["self", "at"] (defScope i_InvalidDeed) := ⟨rfl, rfl, rfl, by decide +kernel, rfl, by decide +kernel, by decide +kernel⟩
theorem xk_InvalidDeed (F : Fun K "__init__" "InvalidDeed.__init__" i_InvalidDeed f fd) : FnOk P w K mg base CX0 1 f fd ["self", "at"] (spXI K "InvalidDeed" ["at"]) := by
  refine F.ok isc_InvalidDeed (fun vs H Q E h => ?_) (fun cdv A outer s H vs Q E hr h => ?_)
  · obtain ⟨a, C, ws, rfl, hl, _⟩ := h
    match ws, hl with
    | [_], _ => rfl
  obtain ⟨a, C, ws, rfl, hl, T, ea, q⟩ := h
  match ws, hl with
  | [w1], _ =>
  refine ⟨_, (pss_cons (ps_xst (pv 0) pe_str) (pss_one (ps_xst (pv 0) (pv 1)))), ?_⟩
  refine xst_first T.cls (T.no _ (.head _)) rfl ea fun d nd ne => ?_
  show tXst _ _ (tVar 0) (tVar 1) _ _ _
  refine xst_more T.cls (T.no _ (.tail _ (.head _))) ne (Nat.le_of_ble_eq_true rfl) rfl (fun _ _ h => ⟨_, rfl, h⟩) ?_
  exact q _ _ (fun b h1 h2 => xat_ne h1 h2) nd ne xat_o (xat_d ne)
theorem xb_InvalidDeed (F : Fun K "__init__" "InvalidDeed.__init__" i_InvalidDeed f fd) : KBn K fd ["self", "at"] 2 [] (fun us ws => us ++ My.pick [] ws) (fun vs zs => vs ++ My.pick [] zs) :=
  kbn_of F 2 [] fun _ _ _ _ _ _ us ws h1 h2 => match us, ws, h1, h2 with | [_, _], [], _, _ => rfl
theorem xq_InvalidDeed (F : Fun K "__init__" "InvalidDeed.__init__" i_InvalidDeed f fd) : KBn K fd ["self", "at"] 1 ["at"] (fun us ws => us ++ My.pick [0] ws) (fun vs zs => vs ++ My.pick [0] zs) :=
  kbn_of F 1 [0] fun _ _ _ _ _ _ us ws h1 h2 => match us, ws, h1, h2 with | [_], [_], _, _ => rfl
abbrev i_BadJournal : Stmt := inClass (topS 35) 0
theorem isc_BadJournal : FnScope ["self", "line"] ["self", "line"] (defScope i_BadJournal) := ⟨rfl, rfl, rfl, by decide +kernel, rfl, by decide +kernel, by decide +kernel⟩
theorem xk_BadJournal (F : Fun K "__init__" "BadJournal.__init__" i_BadJournal f fd) : FnOk P w K mg base CX0 1 f fd ["self", "line"] (spXI K "BadJournal" ["line"]) := by
  refine F.ok isc_BadJournal (fun vs H Q E h => ?_) (fun cdv A outer s H vs Q E hr h => ?_)
  · obtain ⟨a, C, ws, rfl, hl, _⟩ := h
    match ws, hl with
    | [_], _ => rfl
  obtain ⟨a, C, ws, rfl, hl, T, ea, q⟩ := h
  match ws, hl with
  | [w1], _ =>
  refine ⟨_, (pss_cons (ps_xst (pv 0) pe_str) (pss_one (ps_xst (pv 0) (pv 1)))), ?_⟩
  refine xst_first T.cls (T.no _ (.head _)) rfl ea fun d nd ne => ?_
  show tXst _ _ (tVar 0) (tVar 1) _ _ _
  refine xst_more T.cls (T.no _ (.tail _ (.head _))) ne (Nat.le_of_ble_eq_true rfl) rfl (fun _ _ h => ⟨_, rfl, h⟩) ?_
  exact q _ _ (fun b h1 h2 => xat_ne h1 h2) nd ne xat_o (xat_d ne)
theorem xb_BadJournal (F : Fun K "__init__" "BadJournal.__init__" i_BadJournal f fd) : KBn K fd ["self", "line"] 2 [] (fun us ws => us ++ My.pick [] ws) (fun vs zs => vs ++ My.pick [] zs) :=
  kbn_of F 2 [] fun _ _ _ _ _ _ us ws h1 h2 => match us, ws, h1, h2 with | [_, _], [], _, _ => rfl
theorem xq_BadJournal (F : Fun K "__init__" "BadJournal.__init__" i_BadJournal f fd) : KBn K fd ["self", "line"] 1 ["line"] (fun us ws => us ++ My.pick [0] ws) (fun vs zs => vs ++ My.pick [0] zs) :=
  kbn_of F 1 [0] fun _ _ _ _ _ _ us ws h1 h2 => match us, ws, h1, h2 with | [_], [_], _, _ => rfl
abbrev i_Busy : Stmt := inClass (topS 36) 0
theorem isc_Busy : FnScope ["self"] ["self"] (defScope i_Busy) := ⟨rfl, rfl, rfl, by decide +kernel, rfl, by decide +kernel, by decide +kernel⟩
theorem xk_Busy (F : Fun K "__init__" "Busy.__init__" i_Busy f fd) : FnOk P w K mg base CX0 1 f fd ["self"] (spXI K "Busy" []) := by
  refine F.ok isc_Busy (fun vs H Q E h => ?_) (fun cdv A outer s H vs Q E hr h => ?_)
  · obtain ⟨a, C, ws, rfl, hl, _⟩ := h
    match ws, hl with
    | [], _ => rfl
  obtain ⟨a, C, ws, rfl, hl, T, ea, q⟩ := h
  match ws, hl with
  | [], _ =>
  refine ⟨_, (pss_one (ps_xst (pv 0) pe_str)), ?_⟩
  refine xst_first T.cls (T.no _ (.head _)) rfl ea fun d nd ne => ?_
  exact q _ _ (fun b h1 h2 => xat_ne h1 h2) nd ne xat_o (xat_d ne)
theorem xb_Busy (F : Fun K "__init__" "Busy.__init__" i_Busy f fd) : KBn K fd ["self"] 1 [] (fun us ws => us ++ My.pick [] ws) (fun vs zs => vs ++ My.pick [] zs) :=
  kbn_of F 1 [] fun _ _ _ _ _ _ us ws h1 h2 => match us, ws, h1, h2 with | [_], [], _, _ => rfl
abbrev i_NoDraft : Stmt := inClass (topS 37) 0
theorem isc_NoDraft : FnScope ["self", "person"] ["self", "person"] (defScope i_NoDraft) := ⟨rfl, rfl, rfl, by decide +kernel, rfl, by decide +kernel, by decide +kernel⟩
theorem xk_NoDraft (F : Fun K "__init__" "NoDraft.__init__" i_NoDraft f fd) : FnOk P w K mg base CX0 1 f fd ["self", "person"] (spXI K "NoDraft" ["person"]) := by
  refine F.ok isc_NoDraft (fun vs H Q E h => ?_) (fun cdv A outer s H vs Q E hr h => ?_)
  · obtain ⟨a, C, ws, rfl, hl, _⟩ := h
    match ws, hl with
    | [_], _ => rfl
  obtain ⟨a, C, ws, rfl, hl, T, ea, q⟩ := h
  match ws, hl with
  | [w1], _ =>
  refine ⟨_, (pss_cons (ps_xst (pv 0) pe_str) (pss_one (ps_xst (pv 0) (pv 1)))), ?_⟩
  refine xst_first T.cls (T.no _ (.head _)) rfl ea fun d nd ne => ?_
  show tXst _ _ (tVar 0) (tVar 1) _ _ _
  refine xst_more T.cls (T.no _ (.tail _ (.head _))) ne (Nat.le_of_ble_eq_true rfl) rfl (fun _ _ h => ⟨_, rfl, h⟩) ?_
  exact q _ _ (fun b h1 h2 => xat_ne h1 h2) nd ne xat_o (xat_d ne)
theorem xb_NoDraft (F : Fun K "__init__" "NoDraft.__init__" i_NoDraft f fd) : KBn K fd ["self", "person"] 2 [] (fun us ws => us ++ My.pick [] ws) (fun vs zs => vs ++ My.pick [] zs) :=
  kbn_of F 2 [] fun _ _ _ _ _ _ us ws h1 h2 => match us, ws, h1, h2 with | [_, _], [], _, _ => rfl
theorem xq_NoDraft (F : Fun K "__init__" "NoDraft.__init__" i_NoDraft f fd) : KBn K fd ["self", "person"] 1 ["person"] (fun us ws => us ++ My.pick [0] ws) (fun vs zs => vs ++ My.pick [0] zs) :=
  kbn_of F 1 [0] fun _ _ _ _ _ _ us ws h1 h2 => match us, ws, h1, h2 with | [_], [_], _, _ => rfl
abbrev i_HasDraft : Stmt := inClass (topS 38) 0
theorem isc_HasDraft : FnScope ["self", "person"] ["self", "person"] (defScope i_HasDraft) := ⟨rfl, rfl, rfl, by decide +kernel, rfl, by decide +kernel, by decide +kernel⟩
theorem xk_HasDraft (F : Fun K "__init__" "HasDraft.__init__" i_HasDraft f fd) : FnOk P w K mg base CX0 1 f fd ["self", "person"] (spXI K "HasDraft" ["person"]) := by
  refine F.ok isc_HasDraft (fun vs H Q E h => ?_) (fun cdv A outer s H vs Q E hr h => ?_)
  · obtain ⟨a, C, ws, rfl, hl, _⟩ := h
    match ws, hl with
    | [_], _ => rfl
  obtain ⟨a, C, ws, rfl, hl, T, ea, q⟩ := h
  match ws, hl with
  | [w1], _ =>
  refine ⟨_, (pss_cons (ps_xst (pv 0) pe_str) (pss_one (ps_xst (pv 0) (pv 1)))), ?_⟩
  refine xst_first T.cls (T.no _ (.head _)) rfl ea fun d nd ne => ?_
  show tXst _ _ (tVar 0) (tVar 1) _ _ _
  refine xst_more T.cls (T.no _ (.tail _ (.head _))) ne (Nat.le_of_ble_eq_true rfl) rfl (fun _ _ h => ⟨_, rfl, h⟩) ?_
  exact q _ _ (fun b h1 h2 => xat_ne h1 h2) nd ne xat_o (xat_d ne)
theorem xb_HasDraft (F : Fun K "__init__" "HasDraft.__init__" i_HasDraft f fd) : KBn K fd ["self", "person"] 2 [] (fun us ws => us ++ My.pick [] ws) (fun vs zs => vs ++ My.pick [] zs) :=
  kbn_of F 2 [] fun _ _ _ _ _ _ us ws h1 h2 => match us, ws, h1, h2 with | [_, _], [], _, _ => rfl
theorem xq_HasDraft (F : Fun K "__init__" "HasDraft.__init__" i_HasDraft f fd) : KBn K fd ["self", "person"] 1 ["person"] (fun us ws => us ++ My.pick [0] ws) (fun vs zs => vs ++ My.pick [0] zs) :=
  kbn_of F 1 [0] fun _ _ _ _ _ _ us ws h1 h2 => match us, ws, h1, h2 with | [_], [_], _, _ => rfl
abbrev i_NoMerge : Stmt := inClass (topS 39) 0
theorem isc_NoMerge : FnScope ["self"] ["self"] (defScope i_NoMerge) := ⟨rfl, rfl, rfl, by decide +kernel, rfl, by decide +kernel, by decide +kernel⟩
theorem xk_NoMerge (F : Fun K "__init__" "NoMerge.__init__" i_NoMerge f fd) : FnOk P w K mg base CX0 1 f fd ["self"] (spXI K "NoMerge" []) := by
  refine F.ok isc_NoMerge (fun vs H Q E h => ?_) (fun cdv A outer s H vs Q E hr h => ?_)
  · obtain ⟨a, C, ws, rfl, hl, _⟩ := h
    match ws, hl with
    | [], _ => rfl
  obtain ⟨a, C, ws, rfl, hl, T, ea, q⟩ := h
  match ws, hl with
  | [], _ =>
  refine ⟨_, (pss_one (ps_xst (pv 0) pe_str)), ?_⟩
  refine xst_first T.cls (T.no _ (.head _)) rfl ea fun d nd ne => ?_
  exact q _ _ (fun b h1 h2 => xat_ne h1 h2) nd ne xat_o (xat_d ne)
theorem xb_NoMerge (F : Fun K "__init__" "NoMerge.__init__" i_NoMerge f fd) : KBn K fd ["self"] 1 [] (fun us ws => us ++ My.pick [] ws) (fun vs zs => vs ++ My.pick [] zs) :=
  kbn_of F 1 [] fun _ _ _ _ _ _ us ws h1 h2 => match us, ws, h1, h2 with | [_], [], _, _ => rfl
abbrev i_UnknownId : Stmt := inClass (topS 40) 0
theorem isc_UnknownId : FnScope ["self", "thing"] ["self", "thing"] (defScope i_UnknownId) := ⟨rfl, rfl, rfl, by decide +kernel, rfl, by decide +kernel, by decide +kernel⟩
theorem xk_UnknownId (F : Fun K "__init__" "UnknownId.__init__" i_UnknownId f fd) : FnOk P w K mg base CX0 1 f fd ["self", "thing"] (spXI K "UnknownId" ["thing"]) := by
  refine F.ok isc_UnknownId (fun vs H Q E h => ?_) (fun cdv A outer s H vs Q E hr h => ?_)
  · obtain ⟨a, C, ws, rfl, hl, _⟩ := h
    match ws, hl with
    | [_], _ => rfl
  obtain ⟨a, C, ws, rfl, hl, T, ea, q⟩ := h
  match ws, hl with
  | [w1], _ =>
  refine ⟨_, (pss_cons (ps_xst (pv 0) pe_str) (pss_one (ps_xst (pv 0) (pv 1)))), ?_⟩
  refine xst_first T.cls (T.no _ (.head _)) rfl ea fun d nd ne => ?_
  show tXst _ _ (tVar 0) (tVar 1) _ _ _
  refine xst_more T.cls (T.no _ (.tail _ (.head _))) ne (Nat.le_of_ble_eq_true rfl) rfl (fun _ _ h => ⟨_, rfl, h⟩) ?_
  exact q _ _ (fun b h1 h2 => xat_ne h1 h2) nd ne xat_o (xat_d ne)
theorem xb_UnknownId (F : Fun K "__init__" "UnknownId.__init__" i_UnknownId f fd) : KBn K fd ["self", "thing"] 2 [] (fun us ws => us ++ My.pick [] ws) (fun vs zs => vs ++ My.pick [] zs) :=
  kbn_of F 2 [] fun _ _ _ _ _ _ us ws h1 h2 => match us, ws, h1, h2 with | [_, _], [], _, _ => rfl
theorem xq_UnknownId (F : Fun K "__init__" "UnknownId.__init__" i_UnknownId f fd) : KBn K fd ["self", "thing"] 1 ["thing"] (fun us ws => us ++ My.pick [0] ws) (fun vs zs => vs ++ My.pick [0] zs) :=
  kbn_of F 1 [0] fun _ _ _ _ _ _ us ws h1 h2 => match us, ws, h1, h2 with | [_], [_], _, _ => rfl
abbrev i_UnknownName : Stmt := inClass (topS 41) 0
theorem isc_UnknownName : FnScope ["self", "name"] ["self", "name"] (defScope i_UnknownName) := ⟨rfl, rfl, rfl, by decide +kernel, rfl, by decide +kernel, by decide +kernel⟩
theorem xk_UnknownName (F : Fun K "__init__" "UnknownName.__init__" i_UnknownName f fd) : FnOk P w K mg base CX0 1 f fd ["self", "name"] (spXI K "UnknownName" ["name"]) := by
  refine F.ok isc_UnknownName (fun vs H Q E h => ?_) (fun cdv A outer s H vs Q E hr h => ?_)
  · obtain ⟨a, C, ws, rfl, hl, _⟩ := h
    match ws, hl with
    | [_], _ => rfl
  obtain ⟨a, C, ws, rfl, hl, T, ea, q⟩ := h
  match ws, hl with
  | [w1], _ =>
  refine ⟨_, (pss_cons (ps_xst (pv 0) pe_str) (pss_one (ps_xst (pv 0) (pv 1)))), ?_⟩
  refine xst_first T.cls (T.no _ (.head _)) rfl ea fun d nd ne => ?_
  show tXst _ _ (tVar 0) (tVar 1) _ _ _
  refine xst_more T.cls (T.no _ (.tail _ (.head _))) ne (Nat.le_of_ble_eq_true rfl) rfl (fun _ _ h => ⟨_, rfl, h⟩) ?_
  exact q _ _ (fun b h1 h2 => xat_ne h1 h2) nd ne xat_o (xat_d ne)
theorem xb_UnknownName (F : Fun K "__init__" "UnknownName.__init__" i_UnknownName f fd) : KBn K fd ["self", "name"] 2 [] (fun us ws => us ++ My.pick [] ws) (fun vs zs => vs ++ My.pick [] zs) :=
  kbn_of F 2 [] fun _ _ _ _ _ _ us ws h1 h2 => match us, ws, h1, h2 with | [_, _], [], _, _ => rfl
theorem xq_UnknownName (F : Fun K "__init__" "UnknownName.__init__" i_UnknownName f fd) : KBn K fd ["self", "name"] 1 ["name"] (fun us ws => us ++ My.pick [0] ws) (fun vs zs => vs ++ My.pick [0] zs) :=
  kbn_of F 1 [0] fun _ _ _ _ _ _ us ws h1 h2 => match us, ws, h1, h2 with | [_], [_], _, _ => rfl
abbrev i_UnknownPerson : Stmt := inClass (topS 42) 0
theorem isc_UnknownPerson : FnScope ["self", "person"] ["self", "person"] (defScope i_UnknownPerson) := ⟨rfl, rfl, rfl, by decide +kernel, rfl, by decide +kernel, by decide +kernel⟩
theorem xk_UnknownPerson (F : Fun K "__init__" "UnknownPerson.__init__" i_UnknownPerson f fd) : FnOk P w K mg base CX0 1 f fd ["self", "person"] (spXI K "UnknownPerson" ["person"]) := by
  refine F.ok isc_UnknownPerson (fun vs H Q E h => ?_) (fun cdv A outer s H vs Q E hr h => ?_)
  · obtain ⟨a, C, ws, rfl, hl, _⟩ := h
    match ws, hl with
    | [_], _ => rfl
  obtain ⟨a, C, ws, rfl, hl, T, ea, q⟩ := h
  match ws, hl with
  | [w1], _ =>
  refine ⟨_, (pss_cons (ps_xst (pv 0) pe_str) (pss_one (ps_xst (pv 0) (pv 1)))), ?_⟩
  refine xst_first T.cls (T.no _ (.head _)) rfl ea fun d nd ne => ?_
  show tXst _ _ (tVar 0) (tVar 1) _ _ _
  refine xst_more T.cls (T.no _ (.tail _ (.head _))) ne (Nat.le_of_ble_eq_true rfl) rfl (fun _ _ h => ⟨_, rfl, h⟩) ?_
  exact q _ _ (fun b h1 h2 => xat_ne h1 h2) nd ne xat_o (xat_d ne)
theorem xb_UnknownPerson (F : Fun K "__init__" "UnknownPerson.__init__" i_UnknownPerson f fd) : KBn K fd ["self", "person"] 2 [] (fun us ws => us ++ My.pick [] ws) (fun vs zs => vs ++ My.pick [] zs) :=
  kbn_of F 2 [] fun _ _ _ _ _ _ us ws h1 h2 => match us, ws, h1, h2 with | [_, _], [], _, _ => rfl
theorem xq_UnknownPerson (F : Fun K "__init__" "UnknownPerson.__init__" i_UnknownPerson f fd) : KBn K fd ["self", "person"] 1 ["person"] (fun us ws => us ++ My.pick [0] ws) (fun vs zs => vs ++ My.pick [0] zs) :=
  kbn_of F 1 [0] fun _ _ _ _ _ _ us ws h1 h2 => match us, ws, h1, h2 with | [_], [_], _, _ => rfl
abbrev i_UnknownAttribute : Stmt := inClass (topS 43) 0
theorem isc_UnknownAttribute : FnScope ["self", "attribute"] ["self", "attribute"] (defScope i_UnknownAttribute) := ⟨rfl, rfl, rfl, by decide +kernel, rfl, by decide +kernel, by decide +kernel⟩
theorem xk_UnknownAttribute (F : Fun K "__init__" "UnknownAttribute.__init__" i_UnknownAttribute f fd) : FnOk P w K mg base CX0 1 f fd ["self", "attribute"] (spXI K "UnknownAttribute" ["attribute"]) := by
  refine F.ok isc_UnknownAttribute (fun vs H Q E h => ?_) (fun cdv A outer s H vs Q E hr h => ?_)
  · obtain ⟨a, C, ws, rfl, hl, _⟩ := h
    match ws, hl with
    | [_], _ => rfl
  obtain ⟨a, C, ws, rfl, hl, T, ea, q⟩ := h
  match ws, hl with
  | [w1], _ =>
  refine ⟨_, (pss_cons (ps_xst (pv 0) pe_str) (pss_one (ps_xst (pv 0) (pv 1)))), ?_⟩
  refine xst_first T.cls (T.no _ (.head _)) rfl ea fun d nd ne => ?_
  show tXst _ _ (tVar 0) (tVar 1) _ _ _
  refine xst_more T.cls (T.no _ (.tail _ (.head _))) ne (Nat.le_of_ble_eq_true rfl) rfl (fun _ _ h => ⟨_, rfl, h⟩) ?_
  exact q _ _ (fun b h1 h2 => xat_ne h1 h2) nd ne xat_o (xat_d ne)
theorem xb_UnknownAttribute (F : Fun K "__init__" "UnknownAttribute.__init__" i_UnknownAttribute f fd) : KBn K fd ["self", "attribute"] 2 [] (fun us ws => us ++ My.pick [] ws) (fun vs zs => vs ++ My.pick [] zs) :=
  kbn_of F 2 [] fun _ _ _ _ _ _ us ws h1 h2 => match us, ws, h1, h2 with | [_, _], [], _, _ => rfl
theorem xq_UnknownAttribute (F : Fun K "__init__" "UnknownAttribute.__init__" i_UnknownAttribute f fd) : KBn K fd ["self", "attribute"] 1 ["attribute"] (fun us ws => us ++ My.pick [0] ws) (fun vs zs => vs ++ My.pick [0] zs) :=
  kbn_of F 1 [0] fun _ _ _ _ _ _ us ws h1 h2 => match us, ws, h1, h2 with | [_], [_], _, _ => rfl
abbrev i_NoNaming : Stmt := inClass (topS 44) 0
theorem isc_NoNaming : FnScope ["self", "number"] ["self", "number"] (defScope i_NoNaming) := ⟨rfl, rfl, rfl, by decide +kernel, rfl, by decide +kernel, by decide +kernel⟩
theorem xk_NoNaming (F : Fun K "__init__" "NoNaming.__init__" i_NoNaming f fd) : FnOk P w K mg base CX0 1 f fd ["self", "number"] (spXI K "NoNaming" ["number"]) := by
  refine F.ok isc_NoNaming (fun vs H Q E h => ?_) (fun cdv A outer s H vs Q E hr h => ?_)
  · obtain ⟨a, C, ws, rfl, hl, _⟩ := h
    match ws, hl with
    | [_], _ => rfl
  obtain ⟨a, C, ws, rfl, hl, T, ea, q⟩ := h
  match ws, hl with
  | [w1], _ =>
  refine ⟨_, (pss_cons (ps_xst (pv 0) pe_str) (pss_one (ps_xst (pv 0) (pv 1)))), ?_⟩
  refine xst_first T.cls (T.no _ (.head _)) rfl ea fun d nd ne => ?_
  show tXst _ _ (tVar 0) (tVar 1) _ _ _
  refine xst_more T.cls (T.no _ (.tail _ (.head _))) ne (Nat.le_of_ble_eq_true rfl) rfl (fun _ _ h => ⟨_, rfl, h⟩) ?_
  exact q _ _ (fun b h1 h2 => xat_ne h1 h2) nd ne xat_o (xat_d ne)
theorem xb_NoNaming (F : Fun K "__init__" "NoNaming.__init__" i_NoNaming f fd) : KBn K fd ["self", "number"] 2 [] (fun us ws => us ++ My.pick [] ws) (fun vs zs => vs ++ My.pick [] zs) :=
  kbn_of F 2 [] fun _ _ _ _ _ _ us ws h1 h2 => match us, ws, h1, h2 with | [_, _], [], _, _ => rfl
theorem xq_NoNaming (F : Fun K "__init__" "NoNaming.__init__" i_NoNaming f fd) : KBn K fd ["self", "number"] 1 ["number"] (fun us ws => us ++ My.pick [0] ws) (fun vs zs => vs ++ My.pick [0] zs) :=
  kbn_of F 1 [0] fun _ _ _ _ _ _ us ws h1 h2 => match us, ws, h1, h2 with | [_], [_], _, _ => rfl
abbrev i_NothingLeft : Stmt := inClass (topS 45) 0
theorem isc_NothingLeft : FnScope ["self"] ["self"] (defScope i_NothingLeft) := ⟨rfl, rfl, rfl, by decide +kernel, rfl, by decide +kernel, by decide +kernel⟩
theorem xk_NothingLeft (F : Fun K "__init__" "NothingLeft.__init__" i_NothingLeft f fd) : FnOk P w K mg base CX0 1 f fd ["self"] (spXI K "NothingLeft" []) := by
  refine F.ok isc_NothingLeft (fun vs H Q E h => ?_) (fun cdv A outer s H vs Q E hr h => ?_)
  · obtain ⟨a, C, ws, rfl, hl, _⟩ := h
    match ws, hl with
    | [], _ => rfl
  obtain ⟨a, C, ws, rfl, hl, T, ea, q⟩ := h
  match ws, hl with
  | [], _ =>
  refine ⟨_, (pss_one (ps_xst (pv 0) pe_str)), ?_⟩
  refine xst_first T.cls (T.no _ (.head _)) rfl ea fun d nd ne => ?_
  exact q _ _ (fun b h1 h2 => xat_ne h1 h2) nd ne xat_o (xat_d ne)
theorem xb_NothingLeft (F : Fun K "__init__" "NothingLeft.__init__" i_NothingLeft f fd) : KBn K fd ["self"] 1 [] (fun us ws => us ++ My.pick [] ws) (fun vs zs => vs ++ My.pick [] zs) :=
  kbn_of F 1 [] fun _ _ _ _ _ _ us ws h1 h2 => match us, ws, h1, h2 with | [_], [], _, _ => rfl
end
end Kx
/-! part ExG -/
set_option maxHeartbeats 4000000
namespace My
open PySem PySem.Spec PyProof.Rows L2
/-! ### what the written part says of all such classes, as one test -/
/-- where the class of a name, and its __init__, stand -/
def cadr (K : PySem.W.Frag) (x : Str) : Addr := match PySem.W.nsIn K mainGlobals x with
  | some (some (.ref a)) => a
  | _ => 0
def iadr (K : PySem.W.Frag) (x : Str) : Addr := match PySem.W.findIn K (.ref (cadr K x)) "__init__" with
  | some (some (.ref a)) => a
  | _ => 0
def bases : Nat → Str × List Value
  | 0 => ("ValueError.__new__", [.type "ValueError", .type "Exception", .type "BaseException", .type "object"])
  | 1 => ("LookupError.__new__", [.type "LookupError", .type "Exception", .type "BaseException", .type "object"])
  | _ => ("IndexError.__new__", [.type "IndexError", .type "LookupError", .type "Exception", .type "BaseException", .type "object"])
def xclsIn (K : PySem.W.Frag) (C : Addr) (bmB : List Value) (newId : String) : Bool := match K.lookup C with
  | some ⟨.type "type", _, .cls cd, sl⟩ => (match cd.mro, sl.toList with
    | .ref C' :: bm, [_, _, _, _, some (.builtin n), _] => C' == C && n == newId && (cd.hasDict && !cd.hasDel) && PySem.W.excTail bmB bm
    | _, _ => false)
  | _ => false
theorem xcls_of {K : PySem.W.Frag} {C : Addr} {bmB : List Value} {newId : String} (q : xclsIn K C bmB newId = true) : ∃ nm q N bs bm sn sub ab col dd k0 k1 k2 k3 k5, K.lookup C = some (excClassObj nm q C N bs bm true sn sub ab col dd k0 k1 k2 k3 k5 newId) ∧ PySem.W.excTail bmB bm = true := by
  unfold xclsIn at q
  split at q
  · rename_i dd cd sl ho
    split at q
    · rename_i C' bm k0 k1 k2 k3 n k5 hm hs
      simp only [Bool.and_eq_true, beq_iff_eq, Bool.not_eq_true'] at q
      obtain ⟨⟨⟨rfl, rfl⟩, hdi, hdel⟩, ht⟩ := q
      obtain ⟨nm, bs, mro, ns, qn, hd, sn, sub, ab, col, del⟩ := cd
      dsimp only at hm hdel hdi
      subst hm hdel hdi
      have hsl : sl = #[k0, k1, k2, k3, some (.builtin n), k5] := by
        obtain ⟨l⟩ := sl
        simp only at hs
        rw [hs]
      subst hsl
      exact ⟨nm, qn, ns, bs, bm, sn, sub, ab, col, dd, k0, k1, k2, k3, k5, ho, ht⟩
    · cases q
  · cases q
def newIds : Nat → String
  | 0 => "ValueError.__new__"
  | 1 => "LookupError.__new__"
  | _ => "IndexError.__new__"
/-- the test of the class of the name x, over the b-th base -/
def clsOk (K : PySem.W.Frag) (x : Str) (names : List Str) (b : Nat) : Bool :=
  PySem.W.nsIn K mainGlobals x == some (some (.ref (cadr K x))) && (xclsIn K (cadr K x) (bases b).2 (newIds b) && (PySem.W.findIn K (.ref (cadr K x)) "__setattr__" == some (some (.builtin "object.__setattr__")) &&
  (PySem.W.subIn K (.ref (cadr K x)) (.type "BaseException") == some true && (PySem.W.typeIn K (.ref (cadr K x)) == some (.type "type") && (PySem.W.keepIn K (.ref (cadr K x)) &&
  (PySem.W.findIn K (.ref (cadr K x)) "__getattribute__" == some (some (.builtin "BaseException.__getattribute__")) && (PySem.W.findIn K (.ref (cadr K x)) "__getattr__" == some none &&
  (PySem.W.findIn K (.ref (cadr K x)) "__class__" == some (some (.builtin "object.__class__")) && (PySem.W.mroIn K (cadr K x) (.type "object") == some true &&
  (PySem.W.findIn K (.ref (cadr K x)) "__init__" == some (some (.ref (iadr K x))) && (PySem.W.typeIn K (.ref (iadr K x)) == some (.type "function") && (PySem.W.keepIn K (.ref (iadr K x)) &&
  (("code" : Str) :: names).all fun f => PySem.W.findIn K (.ref (cadr K x)) f == some none))))))))))))
structure ClsFacts (K : PySem.W.Frag) (x : Str) (names : List Str) : Prop where
  T : XInit K (cadr K x) names
  g : PySem.W.nsIn K mainGlobals x = some (some (.ref (cadr K x)))
  iC : PySem.W.findIn K (.ref (cadr K x)) "__init__" = some (some (.ref (iadr K x)))
  tI : PySem.W.typeIn K (.ref (iadr K x)) = some (.type "function")
  kI : PySem.W.keepIn K (.ref (iadr K x)) = true
theorem cls_facts {K : PySem.W.Frag} {x : Str} {names : List Str} {b : Nat} (hn : PySem.W.specialIn K (.builtin "object.__class__") "__get__" = some (some (.builtin "getset_descriptor.__get__"))) (ht : PySem.W.takesIn K (.builtin "object.__class__") = some true)
    (h : clsOk K x names b = true) : ClsFacts K x names := by
  unfold clsOk at h
  simp only [Bool.and_eq_true, beq_iff_eq] at h
  obtain ⟨g, xc, sa, eC, tC, kC, ga, gt, ha, hm, iC, tI, kI, no⟩ := h
  refine ⟨⟨⟨?_, sa, eC, tC, kC, ga, gt, ha, hn, ht, hm⟩, fun f hf => ?_⟩, g, iC, tI, kI⟩
  · match b, xc with
    | 0, xc => exact ⟨"ValueError", _, _, _, PySem.F.excBase_ValueError, PySem.F.store_ValueError, xcls_of xc⟩
    | 1, xc => exact ⟨"LookupError", _, _, _, PySem.F.excBase_LookupError, PySem.F.store_LookupError, xcls_of xc⟩
    | _ + 2, xc => exact ⟨"IndexError", _, _, _, PySem.F.excBase_IndexError, PySem.F.store_IndexError, xcls_of xc⟩
  · exact beq_iff_eq.mp (List.all_eq_true.mp no f hf)
end My
/-! part ExH -/
set_option maxHeartbeats 4000000
namespace My
open PySem PySem.Spec PyProof.Rows L2
/-- a call that makes an exception out of the first of four values -/
def tX4 (C : Addr) (code : Str) (names : List Str) : TE := fun σ H Q => ∃ v1 v2 v3 v4 : V, σ = [some v1, some v2, some v3, some v4] ∧ ∀ H' a, Same H H' → ExV H' a C (flds code names ([v1, v2, v3, v4].take names.length)) → Q (.ref a) H'
section
variable {X : Cx} {x code f1 f2 f3 f4 : Str} {C fI : Addr} {fd : FuncData} {ps ks : List Str} {p pos : Pos} {e1 e2 e3 e4 : Expr} {kws : List Keyword} {is : List Nat}
section
variable (hr : Room 2 X.A) (hg : Gl X x)
include hr hg
theorem pe_pl0 (M : XMk X.prog X.w X.K X.mg X.base x C fI fd ps code []) (hb : KBn X.K fd ps 1 [] (fun us ws => us ++ My.pick [] ws) (fun vs zs => vs ++ My.pick [] zs)) (hdb : (x == ("__debug__" : Str)) = false := by decide) : PE X (.Call (.Name x p) [] [] pos) (tX4 C code []) :=
  PE.imp (pe_mkX0 M hr hg hb hdb) fun σ H Q ⟨v1, v2, v3, v4, e, q⟩ => ⟨rfl, rfl, [], fun _ => rfl, rfl, fun H' a s _ x => q H' a s x⟩
theorem pe_pl1 (M : XMk X.prog X.w X.K X.mg X.base x C fI fd ps code [f1]) (hb : KBn X.K fd ps 2 [] (fun us ws => us ++ My.pick [] ws) (fun vs zs => vs ++ My.pick [] zs)) (ha : PA X [e1] (tCons (tVar 0) tNil)) (hdb : (x == ("__debug__" : Str)) = false := by decide)
    (he : starEach (e1 :: []) X.env = (false, eval e1 X.env) :: starEach [] X.env := by rfl) (hpl : (backTo pos (starEach [] X.env)).any (·.1) = false := by rfl) : PE X (.Call (.Name x p) [e1] [] pos) (tX4 C code [f1]) :=
  PE.imp (pe_mkX M hr hg hb (by decide) ha hdb he hpl) fun σ H Q ⟨v1, v2, v3, v4, e, q⟩ => by subst e; exact ⟨_, rfl, rfl, rfl, [v1], fun _ => rfl, rfl, fun H' a s _ x => q H' a s x⟩
theorem pe_pl2 (M : XMk X.prog X.w X.K X.mg X.base x C fI fd ps code [f1, f2]) (hb : KBn X.K fd ps 3 [] (fun us ws => us ++ My.pick [] ws) (fun vs zs => vs ++ My.pick [] zs)) (ha : PA X [e1, e2] (tCons (tVar 0) (tCons (tVar 1) tNil))) (hdb : (x == ("__debug__" : Str)) = false := by decide)
    (he : starEach (e1 :: [e2]) X.env = (false, eval e1 X.env) :: starEach [e2] X.env := by rfl) (hpl : (backTo pos (starEach [e2] X.env)).any (·.1) = false := by rfl) : PE X (.Call (.Name x p) [e1, e2] [] pos) (tX4 C code [f1, f2]) :=
  PE.imp (pe_mkX M hr hg hb (by decide) ha hdb he hpl) fun σ H Q ⟨v1, v2, v3, v4, e, q⟩ => by subst e; exact ⟨_, rfl, _, rfl, rfl, rfl, [v1, v2], fun _ => rfl, rfl, fun H' a s _ x => q H' a s x⟩
theorem pe_pl3 (M : XMk X.prog X.w X.K X.mg X.base x C fI fd ps code [f1, f2, f3]) (hb : KBn X.K fd ps 4 [] (fun us ws => us ++ My.pick [] ws) (fun vs zs => vs ++ My.pick [] zs)) (ha : PA X [e1, e2, e3] (tCons (tVar 0) (tCons (tVar 1) (tCons (tVar 2) tNil)))) (hdb : (x == ("__debug__" : Str)) = false := by decide)
    (he : starEach (e1 :: [e2, e3]) X.env = (false, eval e1 X.env) :: starEach [e2, e3] X.env := by rfl) (hpl : (backTo pos (starEach [e2, e3] X.env)).any (·.1) = false := by rfl) : PE X (.Call (.Name x p) [e1, e2, e3] [] pos) (tX4 C code [f1, f2, f3]) :=
  PE.imp (pe_mkX M hr hg hb (by decide) ha hdb he hpl) fun σ H Q ⟨v1, v2, v3, v4, e, q⟩ => by subst e; exact ⟨_, rfl, _, rfl, _, rfl, rfl, rfl, [v1, v2, v3], fun _ => rfl, rfl, fun H' a s _ x => q H' a s x⟩
theorem pe_pl4 (M : XMk X.prog X.w X.K X.mg X.base x C fI fd ps code [f1, f2, f3, f4]) (hb : KBn X.K fd ps 5 [] (fun us ws => us ++ My.pick [] ws) (fun vs zs => vs ++ My.pick [] zs)) (ha : PA X [e1, e2, e3, e4] (tCons (tVar 0) (tCons (tVar 1) (tCons (tVar 2) (tCons (tVar 3) tNil)))))
    (hdb : (x == ("__debug__" : Str)) = false := by decide) (he : starEach (e1 :: [e2, e3, e4]) X.env = (false, eval e1 X.env) :: starEach [e2, e3, e4] X.env := by rfl) (hpl : (backTo pos (starEach [e2, e3, e4] X.env)).any (·.1) = false := by rfl) : PE X (.Call (.Name x p) [e1, e2, e3, e4] [] pos) (tX4 C code [f1, f2, f3, f4]) :=
  PE.imp (pe_mkX M hr hg hb (by decide) ha hdb he hpl) fun σ H Q ⟨v1, v2, v3, v4, e, q⟩ => by subst e; exact ⟨_, rfl, _, rfl, _, rfl, _, rfl, rfl, rfl, [v1, v2, v3, v4], fun _ => rfl, rfl, fun H' a s _ x => q H' a s x⟩
theorem pe_kw1 {k1 : Str} (M : XMk X.prog X.w X.K X.mg X.base x C fI fd ps code [f1]) (hb : KBn X.K fd ps 1 [k1] (fun us ws => us ++ My.pick [0] ws) (fun vs zs => vs ++ My.pick [0] zs)) (ha : PK X kws (tCons (tVar 0) tNil)) (hall : (backToKw pos (keywordEach kws X.env)).all (·.1.isSome) = true := by rfl)
    (hks : (backToKw pos (keywordEach kws X.env)).filterMap (·.1) = [k1] := by rfl) (hdb : (x == ("__debug__" : Str)) = false := by decide) (hpl : ((backTo pos (starEach [] X.env)).any (·.1) || (backToKw pos (keywordEach kws X.env)).any (·.1.isNone)) = false := by rfl) : PE X (.Call (.Name x p) [] kws pos) (tX4 C code [f1]) :=
  PE.imp (pe_mkXk M hr hg hb ha hall hks hdb hpl) fun σ H Q ⟨v1, v2, v3, v4, e, q⟩ => by subst e; exact ⟨_, rfl, rfl, rfl, [v1], fun _ => rfl, rfl, fun H' a s _ x => q H' a s x⟩
theorem pe_kw2 {k1 k2 : Str} (M : XMk X.prog X.w X.K X.mg X.base x C fI fd ps code [f1, f2]) (hb : KBn X.K fd ps 1 [k2, k1] (fun us ws => us ++ My.pick [1, 0] ws) (fun vs zs => vs ++ My.pick [1, 0] zs)) (ha : PK X kws (tCons (tVar 1) (tCons (tVar 0) tNil))) (hall : (backToKw pos (keywordEach kws X.env)).all (·.1.isSome) = true := by rfl)
    (hks : (backToKw pos (keywordEach kws X.env)).filterMap (·.1) = [k2, k1] := by rfl) (hdb : (x == ("__debug__" : Str)) = false := by decide) (hpl : ((backTo pos (starEach [] X.env)).any (·.1) || (backToKw pos (keywordEach kws X.env)).any (·.1.isNone)) = false := by rfl) : PE X (.Call (.Name x p) [] kws pos) (tX4 C code [f1, f2]) :=
  PE.imp (pe_mkXk M hr hg hb ha hall hks hdb hpl) fun σ H Q ⟨v1, v2, v3, v4, e, q⟩ => by subst e; exact ⟨_, rfl, _, rfl, rfl, rfl, [v1, v2], fun _ => rfl, rfl, fun H' a s _ x => q H' a s x⟩
theorem pe_kw3 {k1 k2 k3 : Str} (M : XMk X.prog X.w X.K X.mg X.base x C fI fd ps code [f1, f2, f3]) (hb : KBn X.K fd ps 1 [k3, k2, k1] (fun us ws => us ++ My.pick [2, 1, 0] ws) (fun vs zs => vs ++ My.pick [2, 1, 0] zs)) (ha : PK X kws (tCons (tVar 2) (tCons (tVar 1) (tCons (tVar 0) tNil))))
    (hall : (backToKw pos (keywordEach kws X.env)).all (·.1.isSome) = true := by rfl) (hks : (backToKw pos (keywordEach kws X.env)).filterMap (·.1) = [k3, k2, k1] := by rfl) (hdb : (x == ("__debug__" : Str)) = false := by decide)
    (hpl : ((backTo pos (starEach [] X.env)).any (·.1) || (backToKw pos (keywordEach kws X.env)).any (·.1.isNone)) = false := by rfl) : PE X (.Call (.Name x p) [] kws pos) (tX4 C code [f1, f2, f3]) :=
  PE.imp (pe_mkXk M hr hg hb ha hall hks hdb hpl) fun σ H Q ⟨v1, v2, v3, v4, e, q⟩ => by subst e; exact ⟨_, rfl, _, rfl, _, rfl, rfl, rfl, [v1, v2, v3], fun _ => rfl, rfl, fun H' a s _ x => q H' a s x⟩
theorem pe_kw4 {k1 k2 k3 k4 : Str} (M : XMk X.prog X.w X.K X.mg X.base x C fI fd ps code [f1, f2, f3, f4]) (hb : KBn X.K fd ps 1 [k4, k3, k2, k1] (fun us ws => us ++ My.pick [3, 2, 1, 0] ws) (fun vs zs => vs ++ My.pick [3, 2, 1, 0] zs))
    (ha : PK X kws (tCons (tVar 3) (tCons (tVar 2) (tCons (tVar 1) (tCons (tVar 0) tNil))))) (hall : (backToKw pos (keywordEach kws X.env)).all (·.1.isSome) = true := by rfl) (hks : (backToKw pos (keywordEach kws X.env)).filterMap (·.1) = [k4, k3, k2, k1] := by rfl)
    (hdb : (x == ("__debug__" : Str)) = false := by decide) (hpl : ((backTo pos (starEach [] X.env)).any (·.1) || (backToKw pos (keywordEach kws X.env)).any (·.1.isNone)) = false := by rfl) : PE X (.Call (.Name x p) [] kws pos) (tX4 C code [f1, f2, f3, f4]) :=
  PE.imp (pe_mkXk M hr hg hb ha hall hks hdb hpl) fun σ H Q ⟨v1, v2, v3, v4, e, q⟩ => by subst e; exact ⟨_, rfl, _, rfl, _, rfl, _, rfl, rfl, rfl, [v1, v2, v3, v4], fun _ => rfl, rfl, fun H' a s _ x => q H' a s x⟩
end
/-- the rows: name, fields, base -/
abbrev XRow := Str × List Str × Nat
def XsAt (K : PySem.W.Frag) (H : Hp) (vs : List V) : List Addr → List XRow → Prop := Paired fun a r => ExV H a (cadr K r.1) (flds r.1 r.2.1 (vs.take r.2.1.length))
def taX (K : PySem.W.Frag) (rows : List XRow) : TA := fun σ H Q => ∃ v1 v2 v3 v4 : V, σ = [some v1, some v2, some v3, some v4] ∧ ∀ H' as, Same H H' → XsAt K H' [v1, v2, v3, v4] as rows → Q (as.map V.ref) H'
theorem XsAt.same {K : PySem.W.Frag} {H H' : Hp} {vs : List V} (s : Same H H') {as : List Addr} {rows : List XRow} (h : XsAt K H vs as rows) : XsAt K H' vs as rows := Paired.mapP h fun _ _ z => z.same s
theorem pa_xnil {K : PySem.W.Frag} : PA X [] (taX K []) := PA.imp pa_nil fun σ H Q ⟨v1, v2, v3, v4, e, q⟩ => q H [] (Same.refl H) .nil
theorem pa_xcons {K : PySem.W.Frag} {e : Expr} {es : List Expr} {r : XRow} {rows : List XRow} (he : PE X e (tX4 (cadr K r.1) r.1 r.2.1)) (hr : PA X es (taX K rows)) (hs : starEach (e :: es) X.env = (false, eval e X.env) :: starEach es X.env := by rfl) : PA X (e :: es) (taX K (r :: rows)) :=
  PA.imp (pa_cons he hr hs) fun σ H Q ⟨v1, v2, v3, v4, e, q⟩ => ⟨v1, v2, v3, v4, e, fun H1 a s1 x => ⟨v1, v2, v3, v4, e, fun H2 as s2 xs => q H2 (a :: as) (s1.trans s2) (.cons (x.same s2) xs)⟩⟩
end
end My
/-! part K00e -/
namespace Kx
open PySem PySem.Spec PyProof.Rows L2 My
def rws : List XRow := [(("InvalidName" : Str), [("value" : Str)], 0),
  (("InvalidNumber" : Str), [("value" : Str)], 0),
  (("BadText" : Str), [("line" : Str), ("place" : Str), ("why" : Str)], 0),
  (("DuplicateName" : Str), [("name" : Str)], 0),
  (("Misused" : Str), [("use" : Str)], 0),
  (("OutOfReach" : Str), [("use" : Str)], 0),
  (("Lost" : Str), [("use" : Str)], 0),
  (("Doubled" : Str), [("first" : Str), ("second" : Str), ("block" : Str)], 0),
  (("Caught" : Str), [("use" : Str), ("own" : Str), ("other" : Str), ("block" : Str)], 0),
  (("InvalidFixed" : Str), [("at" : Str)], 0),
  (("InvalidNaming" : Str), [("declaration" : Str)], 0),
  (("NoSpare" : Str), [], 0),
  (("TooMany" : Str), [("most" : Str)], 0),
  (("InvalidWorth" : Str), [("declaration" : Str)], 0),
  (("Beyond" : Str), [("first" : Str), ("second" : Str)], 0),
  (("InvalidEdit" : Str), [("at" : Str)], 0),
  (("NotFit" : Str), [("row" : Str)], 0),
  (("NotAbove" : Str), [("block" : Str)], 0),
  (("Ring" : Str), [("row" : Str)], 0),
  (("NoRoom" : Str), [("row" : Str)], 0),
  (("SamePerson" : Str), [("person" : Str)], 0),
  (("Unrelated" : Str), [("row" : Str)], 0),
  (("Argued" : Str), [("attribute" : Str)], 0),
  (("Unsound" : Str), [("fault" : Str)], 0),
  (("Moved" : Str), [("attribute" : Str)], 0),
  (("NotFull" : Str), [("attribute" : Str)], 0),
  (("InvalidWay" : Str), [("value" : Str)], 0),
  (("InvalidItem" : Str), [("at" : Str)], 0),
  (("InvalidCells" : Str), [("declaration" : Str)], 0),
  (("SharedCell" : Str), [("first" : Str), ("second" : Str)], 0),
  (("Ended" : Str), [], 0),
  (("InvalidDeed" : Str), [("at" : Str)], 0),
  (("BadJournal" : Str), [("line" : Str)], 0),
  (("Busy" : Str), [], 0),
  (("NoDraft" : Str), [("person" : Str)], 0),
  (("HasDraft" : Str), [("person" : Str)], 0),
  (("NoMerge" : Str), [], 0),
  (("UnknownId" : Str), [("thing" : Str)], 1),
  (("UnknownName" : Str), [("name" : Str)], 1),
  (("UnknownPerson" : Str), [("person" : Str)], 1),
  (("UnknownAttribute" : Str), [("attribute" : Str)], 1),
  (("NoNaming" : Str), [("number" : Str)], 2),
  (("NothingLeft" : Str), [], 2)]
structure Ty (K : PySem.W.Frag) (mg : Str → Option Value) where
  tab : (rws.all fun r => clsOk K r.1 r.2.1 r.2.2) = true
  hn : PySem.W.specialIn K (.builtin "object.__class__") "__get__" = some (some (.builtin "getset_descriptor.__get__"))
  ht : PySem.W.takesIn K (.builtin "object.__class__") = some true
  kinds : (rws.all fun r => rws.all fun u => PySem.W.kitOne K (.ref (cadr K r.1)) (.ref (cadr K u.1)) == some (decide (r.1 = u.1))) = true
  low : (rws.all fun r => PySem.W.kitOne K (.ref (cadr K r.1)) (.ref (cadr K "NamesError")) == some (decide (r.2.2 = 0)) && (PySem.W.kitOne K (.ref (cadr K r.1)) (.type "ValueError") == some (decide (r.2.2 = 0)) &&
    (PySem.W.kitOne K (.ref (cadr K r.1)) (.ref (cadr K "Missing")) == some (decide (r.2.2 = 1)) && (PySem.W.kitOne K (.ref (cadr K r.1)) (.type "LookupError") == some (decide (1 ≤ r.2.2)) && PySem.W.kitOne K (.ref (cadr K r.1)) (.type "IndexError") == some (decide (2 ≤ r.2.2)))))) = true
  gl : ∀ x v, PySem.W.nsIn K mainGlobals x = some (some v) → mg x = some v
  gN : mg "NamesError" = some (.ref (cadr K "NamesError"))
  gM : mg "Missing" = some (.ref (cadr K "Missing"))
  d_InvalidName : FuncData
  F_InvalidName : Fun K "__init__" "InvalidName.__init__" i_InvalidName (iadr K "InvalidName") d_InvalidName
  d_InvalidNumber : FuncData
  F_InvalidNumber : Fun K "__init__" "InvalidNumber.__init__" i_InvalidNumber (iadr K "InvalidNumber") d_InvalidNumber
  d_BadText : FuncData
  F_BadText : Fun K "__init__" "BadText.__init__" i_BadText (iadr K "BadText") d_BadText
  d_DuplicateName : FuncData
  F_DuplicateName : Fun K "__init__" "DuplicateName.__init__" i_DuplicateName (iadr K "DuplicateName") d_DuplicateName
  d_Misused : FuncData
  F_Misused : Fun K "__init__" "Misused.__init__" i_Misused (iadr K "Misused") d_Misused
  d_OutOfReach : FuncData
  F_OutOfReach : Fun K "__init__" "OutOfReach.__init__" i_OutOfReach (iadr K "OutOfReach") d_OutOfReach
  d_Lost : FuncData
  F_Lost : Fun K "__init__" "Lost.__init__" i_Lost (iadr K "Lost") d_Lost
  d_Doubled : FuncData
  F_Doubled : Fun K "__init__" "Doubled.__init__" i_Doubled (iadr K "Doubled") d_Doubled
  d_Caught : FuncData
  F_Caught : Fun K "__init__" "Caught.__init__" i_Caught (iadr K "Caught") d_Caught
  d_InvalidFixed : FuncData
  F_InvalidFixed : Fun K "__init__" "InvalidFixed.__init__" i_InvalidFixed (iadr K "InvalidFixed") d_InvalidFixed
  d_InvalidNaming : FuncData
  F_InvalidNaming : Fun K "__init__" "InvalidNaming.__init__" i_InvalidNaming (iadr K "InvalidNaming") d_InvalidNaming
  d_NoSpare : FuncData
  F_NoSpare : Fun K "__init__" "NoSpare.__init__" i_NoSpare (iadr K "NoSpare") d_NoSpare
  d_TooMany : FuncData
  F_TooMany : Fun K "__init__" "TooMany.__init__" i_TooMany (iadr K "TooMany") d_TooMany
  d_InvalidWorth : FuncData
  F_InvalidWorth : Fun K "__init__" "InvalidWorth.__init__" i_InvalidWorth (iadr K "InvalidWorth") d_InvalidWorth
  d_Beyond : FuncData
  F_Beyond : Fun K "__init__" "Beyond.__init__" i_Beyond (iadr K "Beyond") d_Beyond
  d_InvalidEdit : FuncData
  F_InvalidEdit : Fun K "__init__" "InvalidEdit.__init__" i_InvalidEdit (iadr K "InvalidEdit") d_InvalidEdit
  d_NotFit : FuncData
  F_NotFit : Fun K "__init__" "NotFit.__init__" i_NotFit (iadr K "NotFit") d_NotFit
  d_NotAbove : FuncData
  F_NotAbove : Fun K "__init__" "NotAbove.__init__" i_NotAbove (iadr K "NotAbove") d_NotAbove
  d_Ring : FuncData
  F_Ring : Fun K "__init__" "Ring.__init__" i_Ring (iadr K "Ring") d_Ring
  d_NoRoom : FuncData
  F_NoRoom : Fun K "__init__" "NoRoom.__init__" i_NoRoom (iadr K "NoRoom") d_NoRoom
  d_SamePerson : FuncData
  F_SamePerson : Fun K "__init__" "SamePerson.__init__" i_SamePerson (iadr K "SamePerson") d_SamePerson
  d_Unrelated : FuncData
  F_Unrelated : Fun K "__init__" "Unrelated.__init__" i_Unrelated (iadr K "Unrelated") d_Unrelated
  d_Argued : FuncData
  F_Argued : Fun K "__init__" "Argued.__init__" i_Argued (iadr K "Argued") d_Argued
  d_Unsound : FuncData
  F_Unsound : Fun K "__init__" "Unsound.__init__" i_Unsound (iadr K "Unsound") d_Unsound
  d_Moved : FuncData
  F_Moved : Fun K "__init__" "Moved.__init__" i_Moved (iadr K "Moved") d_Moved
  d_NotFull : FuncData
  F_NotFull : Fun K "__init__" "NotFull.__init__" i_NotFull (iadr K "NotFull") d_NotFull
  d_InvalidWay : FuncData
  F_InvalidWay : Fun K "__init__" "InvalidWay.__init__" i_InvalidWay (iadr K "InvalidWay") d_InvalidWay
  d_InvalidItem : FuncData
  F_InvalidItem : Fun K "__init__" "InvalidItem.__init__" i_InvalidItem (iadr K "InvalidItem") d_InvalidItem
  d_InvalidCells : FuncData
  F_InvalidCells : Fun K "__init__" "InvalidCells.__init__" i_InvalidCells (iadr K "InvalidCells") d_InvalidCells
  d_SharedCell : FuncData
  F_SharedCell : Fun K "__init__" "SharedCell.__init__" i_SharedCell (iadr K "SharedCell") d_SharedCell
  d_Ended : FuncData
  F_Ended : Fun K "__init__" "Ended.__init__" i_Ended (iadr K "Ended") d_Ended
  d_InvalidDeed : FuncData
  F_InvalidDeed : Fun K "__init__" "InvalidDeed.__init__" i_InvalidDeed (iadr K "InvalidDeed") d_InvalidDeed
  d_BadJournal : FuncData
  F_BadJournal : Fun K "__init__" "BadJournal.__init__" i_BadJournal (iadr K "BadJournal") d_BadJournal
  d_Busy : FuncData
  F_Busy : Fun K "__init__" "Busy.__init__" i_Busy (iadr K "Busy") d_Busy
  d_NoDraft : FuncData
  F_NoDraft : Fun K "__init__" "NoDraft.__init__" i_NoDraft (iadr K "NoDraft") d_NoDraft
  d_HasDraft : FuncData
  F_HasDraft : Fun K "__init__" "HasDraft.__init__" i_HasDraft (iadr K "HasDraft") d_HasDraft
  d_NoMerge : FuncData
  F_NoMerge : Fun K "__init__" "NoMerge.__init__" i_NoMerge (iadr K "NoMerge") d_NoMerge
  d_UnknownId : FuncData
  F_UnknownId : Fun K "__init__" "UnknownId.__init__" i_UnknownId (iadr K "UnknownId") d_UnknownId
  d_UnknownName : FuncData
  F_UnknownName : Fun K "__init__" "UnknownName.__init__" i_UnknownName (iadr K "UnknownName") d_UnknownName
  d_UnknownPerson : FuncData
  F_UnknownPerson : Fun K "__init__" "UnknownPerson.__init__" i_UnknownPerson (iadr K "UnknownPerson") d_UnknownPerson
  d_UnknownAttribute : FuncData
  F_UnknownAttribute : Fun K "__init__" "UnknownAttribute.__init__" i_UnknownAttribute (iadr K "UnknownAttribute") d_UnknownAttribute
  d_NoNaming : FuncData
  F_NoNaming : Fun K "__init__" "NoNaming.__init__" i_NoNaming (iadr K "NoNaming") d_NoNaming
  d_NothingLeft : FuncData
  F_NothingLeft : Fun K "__init__" "NothingLeft.__init__" i_NothingLeft (iadr K "NothingLeft") d_NothingLeft
section
variable {P : Program} {w : World} {K : PySem.W.Frag} {mg : Str → Option Value} {base : Heap} (U : Ty K mg)
theorem Ty.row {K : PySem.W.Frag} {mg : Str → Option Value} (U : Ty K mg) {i : Nat} {r : XRow} (h : rws[i]? = some r) : ClsFacts K r.1 r.2.1 := cls_facts U.hn U.ht (List.all_eq_true.mp U.tab r (List.mem_of_getElem? h))
theorem Ty.mk1 {K : PySem.W.Frag} {mg : Str → Option Value} (U : Ty K mg) {i : Nat} {x : Str} {names ps : List Str} {b : Nat} {fd : FuncData} (h : rws[i]? = some (x, names, b)) (F : FnOk P w K mg base CX0 1 (iadr K x) fd ps (spXI K x names)) : XMk P w K mg base x (cadr K x) (iadr K x) fd ps x names :=
  have T := U.row h
  ⟨T.T, U.gl _ _ T.g, T.iC, T.tI, F⟩
theorem M_InvalidName : XMk P w K mg base "InvalidName" (cadr K "InvalidName") (iadr K "InvalidName") U.d_InvalidName ["self", "value"] "InvalidName" ["value"] := U.mk1 (i := 0) rfl (xk_InvalidName U.F_InvalidName)
theorem M_InvalidNumber : XMk P w K mg base "InvalidNumber" (cadr K "InvalidNumber") (iadr K "InvalidNumber") U.d_InvalidNumber ["self", "value"] "InvalidNumber" ["value"] := U.mk1 (i := 1) rfl (xk_InvalidNumber U.F_InvalidNumber)
theorem M_BadText : XMk P w K mg base "BadText" (cadr K "BadText") (iadr K "BadText") U.d_BadText ["self", "line", "place", "why"] "BadText" ["line", "place", "why"] := U.mk1 (i := 2) rfl (xk_BadText U.F_BadText)
theorem M_DuplicateName : XMk P w K mg base "DuplicateName" (cadr K "DuplicateName") (iadr K "DuplicateName") U.d_DuplicateName ["self", "name"] "DuplicateName" ["name"] := U.mk1 (i := 3) rfl (xk_DuplicateName U.F_DuplicateName)
theorem M_Misused : XMk P w K mg base "Misused" (cadr K "Misused") (iadr K "Misused") U.d_Misused ["self", "use"] "Misused" ["use"] := U.mk1 (i := 4) rfl (xk_Misused U.F_Misused)
theorem M_OutOfReach : XMk P w K mg base "OutOfReach" (cadr K "OutOfReach") (iadr K "OutOfReach") U.d_OutOfReach ["self", "use"] "OutOfReach" ["use"] := U.mk1 (i := 5) rfl (xk_OutOfReach U.F_OutOfReach)
theorem M_Lost : XMk P w K mg base "Lost" (cadr K "Lost") (iadr K "Lost") U.d_Lost ["self", "use"] "Lost" ["use"] := U.mk1 (i := 6) rfl (xk_Lost U.F_Lost)
theorem M_Doubled : XMk P w K mg base "Doubled" (cadr K "Doubled") (iadr K "Doubled") U.d_Doubled ["self", "first", "second", "block"] "Doubled" ["first", "second", "block"] := U.mk1 (i := 7) rfl (xk_Doubled U.F_Doubled)
theorem M_Caught : XMk P w K mg base "Caught" (cadr K "Caught") (iadr K "Caught") U.d_Caught ["self", "use", "own", "other", "block"] "Caught" ["use", "own", "other", "block"] := U.mk1 (i := 8) rfl (xk_Caught U.F_Caught)
theorem M_InvalidFixed : XMk P w K mg base "InvalidFixed" (cadr K "InvalidFixed") (iadr K "InvalidFixed") U.d_InvalidFixed ["self", "at"] "InvalidFixed" ["at"] := U.mk1 (i := 9) rfl (xk_InvalidFixed U.F_InvalidFixed)
theorem M_InvalidNaming : XMk P w K mg base "InvalidNaming" (cadr K "InvalidNaming") (iadr K "InvalidNaming") U.d_InvalidNaming ["self", "declaration"] "InvalidNaming" ["declaration"] := U.mk1 (i := 10) rfl (xk_InvalidNaming U.F_InvalidNaming)
theorem M_NoSpare : XMk P w K mg base "NoSpare" (cadr K "NoSpare") (iadr K "NoSpare") U.d_NoSpare ["self"] "NoSpare" [] := U.mk1 (i := 11) rfl (xk_NoSpare U.F_NoSpare)
theorem M_TooMany : XMk P w K mg base "TooMany" (cadr K "TooMany") (iadr K "TooMany") U.d_TooMany ["self", "most"] "TooMany" ["most"] := U.mk1 (i := 12) rfl (xk_TooMany U.F_TooMany)
theorem M_InvalidWorth : XMk P w K mg base "InvalidWorth" (cadr K "InvalidWorth") (iadr K "InvalidWorth") U.d_InvalidWorth ["self", "declaration"] "InvalidWorth" ["declaration"] := U.mk1 (i := 13) rfl (xk_InvalidWorth U.F_InvalidWorth)
theorem M_Beyond : XMk P w K mg base "Beyond" (cadr K "Beyond") (iadr K "Beyond") U.d_Beyond ["self", "first", "second"] "Beyond" ["first", "second"] := U.mk1 (i := 14) rfl (xk_Beyond U.F_Beyond)
theorem M_InvalidEdit : XMk P w K mg base "InvalidEdit" (cadr K "InvalidEdit") (iadr K "InvalidEdit") U.d_InvalidEdit ["self", "at"] "InvalidEdit" ["at"] := U.mk1 (i := 15) rfl (xk_InvalidEdit U.F_InvalidEdit)
theorem M_NotFit : XMk P w K mg base "NotFit" (cadr K "NotFit") (iadr K "NotFit") U.d_NotFit ["self", "row"] "NotFit" ["row"] := U.mk1 (i := 16) rfl (xk_NotFit U.F_NotFit)
theorem M_NotAbove : XMk P w K mg base "NotAbove" (cadr K "NotAbove") (iadr K "NotAbove") U.d_NotAbove ["self", "block"] "NotAbove" ["block"] := U.mk1 (i := 17) rfl (xk_NotAbove U.F_NotAbove)
theorem M_Ring : XMk P w K mg base "Ring" (cadr K "Ring") (iadr K "Ring") U.d_Ring ["self", "row"] "Ring" ["row"] := U.mk1 (i := 18) rfl (xk_Ring U.F_Ring)
theorem M_NoRoom : XMk P w K mg base "NoRoom" (cadr K "NoRoom") (iadr K "NoRoom") U.d_NoRoom ["self", "row"] "NoRoom" ["row"] := U.mk1 (i := 19) rfl (xk_NoRoom U.F_NoRoom)
theorem M_SamePerson : XMk P w K mg base "SamePerson" (cadr K "SamePerson") (iadr K "SamePerson") U.d_SamePerson ["self", "person"] "SamePerson" ["person"] := U.mk1 (i := 20) rfl (xk_SamePerson U.F_SamePerson)
theorem M_Unrelated : XMk P w K mg base "Unrelated" (cadr K "Unrelated") (iadr K "Unrelated") U.d_Unrelated ["self", "row"] "Unrelated" ["row"] := U.mk1 (i := 21) rfl (xk_Unrelated U.F_Unrelated)
theorem M_Argued : XMk P w K mg base "Argued" (cadr K "Argued") (iadr K "Argued") U.d_Argued ["self", "attribute"] "Argued" ["attribute"] := U.mk1 (i := 22) rfl (xk_Argued U.F_Argued)
theorem M_Unsound : XMk P w K mg base "Unsound" (cadr K "Unsound") (iadr K "Unsound") U.d_Unsound ["self", "fault"] "Unsound" ["fault"] := U.mk1 (i := 23) rfl (xk_Unsound U.F_Unsound)
theorem M_Moved : XMk P w K mg base "Moved" (cadr K "Moved") (iadr K "Moved") U.d_Moved ["self", "attribute"] "Moved" ["attribute"] := U.mk1 (i := 24) rfl (xk_Moved U.F_Moved)
theorem M_NotFull : XMk P w K mg base "NotFull" (cadr K "NotFull") (iadr K "NotFull") U.d_NotFull ["self", "attribute"] "NotFull" ["attribute"] := U.mk1 (i := 25) rfl (xk_NotFull U.F_NotFull)
theorem M_InvalidWay : XMk P w K mg base "InvalidWay" (cadr K "InvalidWay") (iadr K "InvalidWay") U.d_InvalidWay ["self", "value"] "InvalidWay" ["value"] := U.mk1 (i := 26) rfl (xk_InvalidWay U.F_InvalidWay)
theorem M_InvalidItem : XMk P w K mg base "InvalidItem" (cadr K "InvalidItem") (iadr K "InvalidItem") U.d_InvalidItem ["self", "at"] "InvalidItem" ["at"] := U.mk1 (i := 27) rfl (xk_InvalidItem U.F_InvalidItem)
theorem M_InvalidCells : XMk P w K mg base "InvalidCells" (cadr K "InvalidCells") (iadr K "InvalidCells") U.d_InvalidCells ["self", "declaration"] "InvalidCells" ["declaration"] := U.mk1 (i := 28) rfl (xk_InvalidCells U.F_InvalidCells)
theorem M_SharedCell : XMk P w K mg base "SharedCell" (cadr K "SharedCell") (iadr K "SharedCell") U.d_SharedCell ["self", "first", "second"] "SharedCell" ["first", "second"] := U.mk1 (i := 29) rfl (xk_SharedCell U.F_SharedCell)
theorem M_Ended : XMk P w K mg base "Ended" (cadr K "Ended") (iadr K "Ended") U.d_Ended ["self"] "Ended" [] := U.mk1 (i := 30) rfl (xk_Ended U.F_Ended)
theorem M_InvalidDeed : XMk P w K mg base "InvalidDeed" (cadr K "InvalidDeed") (iadr K "InvalidDeed") U.d_InvalidDeed ["self", "at"] "InvalidDeed" ["at"] := U.mk1 (i := 31) rfl (xk_InvalidDeed U.F_InvalidDeed)
theorem M_BadJournal : XMk P w K mg base "BadJournal" (cadr K "BadJournal") (iadr K "BadJournal") U.d_BadJournal ["self", "line"] "BadJournal" ["line"] := U.mk1 (i := 32) rfl (xk_BadJournal U.F_BadJournal)
theorem M_Busy : XMk P w K mg base "Busy" (cadr K "Busy") (iadr K "Busy") U.d_Busy ["self"] "Busy" [] := U.mk1 (i := 33) rfl (xk_Busy U.F_Busy)
theorem M_NoDraft : XMk P w K mg base "NoDraft" (cadr K "NoDraft") (iadr K "NoDraft") U.d_NoDraft ["self", "person"] "NoDraft" ["person"] := U.mk1 (i := 34) rfl (xk_NoDraft U.F_NoDraft)
theorem M_HasDraft : XMk P w K mg base "HasDraft" (cadr K "HasDraft") (iadr K "HasDraft") U.d_HasDraft ["self", "person"] "HasDraft" ["person"] := U.mk1 (i := 35) rfl (xk_HasDraft U.F_HasDraft)
theorem M_NoMerge : XMk P w K mg base "NoMerge" (cadr K "NoMerge") (iadr K "NoMerge") U.d_NoMerge ["self"] "NoMerge" [] := U.mk1 (i := 36) rfl (xk_NoMerge U.F_NoMerge)
theorem M_UnknownId : XMk P w K mg base "UnknownId" (cadr K "UnknownId") (iadr K "UnknownId") U.d_UnknownId ["self", "thing"] "UnknownId" ["thing"] := U.mk1 (i := 37) rfl (xk_UnknownId U.F_UnknownId)
theorem M_UnknownName : XMk P w K mg base "UnknownName" (cadr K "UnknownName") (iadr K "UnknownName") U.d_UnknownName ["self", "name"] "UnknownName" ["name"] := U.mk1 (i := 38) rfl (xk_UnknownName U.F_UnknownName)
theorem M_UnknownPerson : XMk P w K mg base "UnknownPerson" (cadr K "UnknownPerson") (iadr K "UnknownPerson") U.d_UnknownPerson ["self", "person"] "UnknownPerson" ["person"] := U.mk1 (i := 39) rfl (xk_UnknownPerson U.F_UnknownPerson)
theorem M_UnknownAttribute : XMk P w K mg base "UnknownAttribute" (cadr K "UnknownAttribute") (iadr K "UnknownAttribute") U.d_UnknownAttribute ["self", "attribute"] "UnknownAttribute" ["attribute"] := U.mk1 (i := 40) rfl (xk_UnknownAttribute U.F_UnknownAttribute)
theorem M_NoNaming : XMk P w K mg base "NoNaming" (cadr K "NoNaming") (iadr K "NoNaming") U.d_NoNaming ["self", "number"] "NoNaming" ["number"] := U.mk1 (i := 41) rfl (xk_NoNaming U.F_NoNaming)
theorem M_NothingLeft : XMk P w K mg base "NothingLeft" (cadr K "NothingLeft") (iadr K "NothingLeft") U.d_NothingLeft ["self"] "NothingLeft" [] := U.mk1 (i := 42) rfl (xk_NothingLeft U.F_NothingLeft)
theorem fst_eq {i j : Nat} {r u : XRow} (h1 : rws[i]? = some r) (h2 : rws[j]? = some u) : decide (r.1 = u.1) = decide (i = j) := by
  have a : ∀ i j : Fin 43, decide ((rws.map (·.1))[i.1]? = (rws.map (·.1))[j.1]?) = decide (i.1 = j.1) := by decide +kernel
  have l : rws.length = 43 := rfl
  have hi : i < 43 := by rw [← l]; exact (List.getElem?_eq_some_iff.mp h1).1
  have hj : j < 43 := by rw [← l]; exact (List.getElem?_eq_some_iff.mp h2).1
  have z := a ⟨i, hi⟩ ⟨j, hj⟩
  rw [List.getElem?_map, List.getElem?_map, h1, h2] at z
  rw [← z]
  have e : (Option.map (·.1) (some r) = Option.map (·.1) (some u)) ↔ r.1 = u.1 := ⟨fun z => Option.some.inj z, fun z => congrArg some z⟩
  simp only [e]
end
end Kx
/-! part KitT -/
/-! sugar: rules with simpler readings -/
namespace My
open PySem PySem.Spec PyProof.Rows L2
theorem PT.imp {X : Cx} {e : Expr} {t t' : TT} (h : PT X e t) (i : ∀ σ H Q, t' σ H Q → t σ H Q) : PT X e t' := ⟨fun pins s σ H Q I q => h.run pins s σ H Q I (i σ H Q q)⟩
theorem PSs.imp {X : Cx} {e : List Stmt} {t t' : TS} (h : PSs X e t) (i : ∀ D σ H, t' D σ H → t D σ H) : PSs X e t' := ⟨fun pins s σ H D I q => h.run pins s σ H D I (i D σ H q)⟩
theorem PS.imp {X : Cx} {e : Stmt} {t t' : TS} (h : PS X e t) (i : ∀ D σ H, t' D σ H → t D σ H) : PS X e t' := ⟨fun pins s σ H D I q => h.run pins s σ H D I (i D σ H q)⟩
/-- the same reading, its end weakened -/
def tLax (t : TE) : TE := fun σ H Q => ∃ Mid : V → Hp → Prop, t σ H Mid ∧ ∀ v H', Mid v H' → Q v H'
theorem pe_lax {X : Cx} {e : Expr} {t : TE} (h : PE X e t) : PE X e (tLax t) := by
  refine ⟨fun pins s σ H Q I ⟨Mid, hm, hu⟩ => ?_⟩
  refine thn (h.run pins s σ H Mid I hm) fun v s1 ⟨x, H1, I1, r1, q1⟩ => ⟨x, H1, I1, r1, hu _ _ q1⟩
def taLax (t : TA) : TA := fun σ H Q => ∃ Mid : List V → Hp → Prop, t σ H Mid ∧ ∀ v H', Mid v H' → Q v H'
theorem pa_lax {X : Cx} {es : List Expr} {t : TA} (h : PA X es t) : PA X es (taLax t) := by
  refine ⟨fun pos pins s σ H Q I ⟨Mid, hm, hu⟩ => ?_⟩
  refine thn (h.run pos pins s σ H Mid I hm) fun v s1 ⟨x, H1, I1, r1, q1⟩ => ⟨x, H1, I1, r1, hu _ _ q1⟩
/-- an argument list of written texts -/
def TexT (l : List Str) (ta : TA) : Prop := ∀ σ H Q, Q (l.map V.str) H → ta σ H Q
theorem texT_nil : TexT [] tNil := fun _ _ _ h => h
theorem texT_cons {z : Str} {l : List Str} {ta : TA} (h : TexT l ta) : TexT (z :: l) (tCons (tC (.str z)) ta) := fun σ H Q q => h σ H (fun xs H' => Q (.str z :: xs) H') q
/-- x in (written texts) -/
def tInS (l : List Str) (te : TE) : TT := fun σ H k => te σ H fun x H1 => ∃ z, x = .str z ∧ ∀ H2, Same H1 H2 → k (l.contains z) H2
section
variable {X : Cx} {e : Expr} {es : List Expr} {te : TE} {ta : TA} {l : List Str} {p pos : Pos}
theorem ins_read (neg : Bool) {K : PySem.W.Frag} {Q : VK} {z : Str} {H1 : Hp} {σ : L2.St} (hT : TexT l ta) (few : l.length ≤ 1000) (q : ∀ H2, Same H1 H2 → Q (.bl (if neg = true then !l.contains z else l.contains z)) H2) :
    tTup ta σ H1 fun y H2 => rIn K neg (.str z) y H2 Q := by
  refine hT σ H1 _ ⟨by rw [List.length_map]; exact small63 few, fun p np => ⟨p, _, rfl, .inr (.inl (.inl upd_same)), rfl, flat_strs l, ?_⟩⟩
  rw [inV_strs]
  exact q _ (same_new np _)
theorem pt_inS {x1} (he : PE X e te) (ha : PA X es ta) (hT : TexT l ta) (few : l.length ≤ 1000 := by decide) : PT X (.Compare e [.In] [.Tuple es x1 p] pos) (tInS l te) :=
  PT.imp (pt_cmpR op_in_seq (pe_lax he) (pe_tup ha) rfl) fun σ H k h => ⟨_, h, fun x H1 ⟨z, ex, q⟩ => by
    subst ex
    exact ins_read false hT few fun H2 s => ⟨_, rfl, q H2 s⟩⟩
end
end My
/-! part K00f -/
namespace Kx
open PySem PySem.Spec PyProof.Rows L2 My
def spBy (K : PySem.W.Frag) : Sp := fun vs H Q _ => ∃ v1 v2 v3 v4, vs = [v1, v2, v3, v4] ∧ ∀ H' p as, Same H H' → H' p = some (.lst (as.map V.ref)) → XsAt K H' [v1, v2, v3, v4] as rws → Q (.ref p) H'
theorem by_end {K : PySem.W.Frag} {v1 v2 v3 v4 : V} {H : Hp} {Q : VK} (q : ∀ H' p as, Same H H' → H' p = some (.lst (as.map V.ref)) → XsAt K H' [v1, v2, v3, v4] as rws → Q (.ref p) H') : tLst (taX K rws) [some v1, some v2, some v3, some v4] H Q := by
  refine ⟨v1, v2, v3, v4, rfl, fun H' as s x => ?_⟩
  have l : as.length = 43 := Paired.length x
  refine ⟨by rw [List.length_map, l]; decide, fun p np => ?_⟩
  exact q _ p as (same_over s (by cases e : H p with | none => rfl | some o => exact absurd (s _ _ e) (by rw [np]; exact fun z => nomatch z)) _) upd_same (XsAt.same (same_new np _) x)
section
variable {P : Program} {w : World} {K : PySem.W.Frag} {mg : Str → Option Value} {base : Heap} (T : Tx K mg) (U : Ty K mg)
include U
theorem ok_by_place : FnOk P w K mg base CX0 3 T.f__law_by_place T.d__law_by_place ["_law_one", "_law_two", "_law_three", "_law_four"] (spBy K) := by
  refine T.F__law_by_place.ok sc__law_by_place (fun vs H Q E h => ?_) (fun cdv A outer s H vs Q E hr h => ?_)
  · obtain ⟨v1, v2, v3, v4, rfl, _⟩ := h
    rfl
  obtain ⟨v1, v2, v3, v4, rfl, q⟩ := h
  refine ⟨_, (pss_one (ps_ret (pe_lst (pa_xcons (r := (("InvalidName" : Str), [("value" : Str)], 0)) (pe_pl1 (hr.mono (by decide)) (by rfl) (M_InvalidName U) (xb_InvalidName U.F_InvalidName) (pa_cons (pv 0) pa_nil))
    (pa_xcons (r := (("InvalidNumber" : Str), [("value" : Str)], 0)) (pe_pl1 (hr.mono (by decide)) (by rfl) (M_InvalidNumber U) (xb_InvalidNumber U.F_InvalidNumber) (pa_cons (pv 0) pa_nil))
    (pa_xcons (r := (("BadText" : Str), [("line" : Str), ("place" : Str), ("why" : Str)], 0)) (pe_pl3 (hr.mono (by decide)) (by rfl) (M_BadText U) (xb_BadText U.F_BadText) (pa_cons (pv 0) (pa_cons (pv 1) (pa_cons (pv 2) pa_nil))))
    (pa_xcons (r := (("DuplicateName" : Str), [("name" : Str)], 0)) (pe_pl1 (hr.mono (by decide)) (by rfl) (M_DuplicateName U) (xb_DuplicateName U.F_DuplicateName) (pa_cons (pv 0) pa_nil))
    (pa_xcons (r := (("Misused" : Str), [("use" : Str)], 0)) (pe_pl1 (hr.mono (by decide)) (by rfl) (M_Misused U) (xb_Misused U.F_Misused) (pa_cons (pv 0) pa_nil))
    (pa_xcons (r := (("OutOfReach" : Str), [("use" : Str)], 0)) (pe_pl1 (hr.mono (by decide)) (by rfl) (M_OutOfReach U) (xb_OutOfReach U.F_OutOfReach) (pa_cons (pv 0) pa_nil))
    (pa_xcons (r := (("Lost" : Str), [("use" : Str)], 0)) (pe_pl1 (hr.mono (by decide)) (by rfl) (M_Lost U) (xb_Lost U.F_Lost) (pa_cons (pv 0) pa_nil))
    (pa_xcons (r := (("Doubled" : Str), [("first" : Str), ("second" : Str), ("block" : Str)], 0)) (pe_pl3 (hr.mono (by decide)) (by rfl) (M_Doubled U) (xb_Doubled U.F_Doubled) (pa_cons (pv 0) (pa_cons (pv 1) (pa_cons (pv 2) pa_nil))))
    (pa_xcons (r := (("Caught" : Str), [("use" : Str), ("own" : Str), ("other" : Str), ("block" : Str)], 0)) (pe_pl4 (hr.mono (by decide)) (by rfl) (M_Caught U) (xb_Caught U.F_Caught) (pa_cons (pv 0) (pa_cons (pv 1) (pa_cons (pv 2) (pa_cons (pv 3) pa_nil)))))
    (pa_xcons (r := (("InvalidFixed" : Str), [("at" : Str)], 0)) (pe_pl1 (hr.mono (by decide)) (by rfl) (M_InvalidFixed U) (xb_InvalidFixed U.F_InvalidFixed) (pa_cons (pv 0) pa_nil))
    (pa_xcons (r := (("InvalidNaming" : Str), [("declaration" : Str)], 0)) (pe_pl1 (hr.mono (by decide)) (by rfl) (M_InvalidNaming U) (xb_InvalidNaming U.F_InvalidNaming) (pa_cons (pv 0) pa_nil))
    (pa_xcons (r := (("NoSpare" : Str), [], 0)) (pe_pl0 (hr.mono (by decide)) (by rfl) (M_NoSpare U) (xb_NoSpare U.F_NoSpare))
    (pa_xcons (r := (("TooMany" : Str), [("most" : Str)], 0)) (pe_pl1 (hr.mono (by decide)) (by rfl) (M_TooMany U) (xb_TooMany U.F_TooMany) (pa_cons (pv 0) pa_nil))
    (pa_xcons (r := (("InvalidWorth" : Str), [("declaration" : Str)], 0)) (pe_pl1 (hr.mono (by decide)) (by rfl) (M_InvalidWorth U) (xb_InvalidWorth U.F_InvalidWorth) (pa_cons (pv 0) pa_nil))
    (pa_xcons (r := (("Beyond" : Str), [("first" : Str), ("second" : Str)], 0)) (pe_pl2 (hr.mono (by decide)) (by rfl) (M_Beyond U) (xb_Beyond U.F_Beyond) (pa_cons (pv 0) (pa_cons (pv 1) pa_nil)))
    (pa_xcons (r := (("InvalidEdit" : Str), [("at" : Str)], 0)) (pe_pl1 (hr.mono (by decide)) (by rfl) (M_InvalidEdit U) (xb_InvalidEdit U.F_InvalidEdit) (pa_cons (pv 0) pa_nil))
    (pa_xcons (r := (("NotFit" : Str), [("row" : Str)], 0)) (pe_pl1 (hr.mono (by decide)) (by rfl) (M_NotFit U) (xb_NotFit U.F_NotFit) (pa_cons (pv 0) pa_nil))
    (pa_xcons (r := (("NotAbove" : Str), [("block" : Str)], 0)) (pe_pl1 (hr.mono (by decide)) (by rfl) (M_NotAbove U) (xb_NotAbove U.F_NotAbove) (pa_cons (pv 0) pa_nil))
    (pa_xcons (r := (("Ring" : Str), [("row" : Str)], 0)) (pe_pl1 (hr.mono (by decide)) (by rfl) (M_Ring U) (xb_Ring U.F_Ring) (pa_cons (pv 0) pa_nil))
    (pa_xcons (r := (("NoRoom" : Str), [("row" : Str)], 0)) (pe_pl1 (hr.mono (by decide)) (by rfl) (M_NoRoom U) (xb_NoRoom U.F_NoRoom) (pa_cons (pv 0) pa_nil))
    (pa_xcons (r := (("SamePerson" : Str), [("person" : Str)], 0)) (pe_pl1 (hr.mono (by decide)) (by rfl) (M_SamePerson U) (xb_SamePerson U.F_SamePerson) (pa_cons (pv 0) pa_nil))
    (pa_xcons (r := (("Unrelated" : Str), [("row" : Str)], 0)) (pe_pl1 (hr.mono (by decide)) (by rfl) (M_Unrelated U) (xb_Unrelated U.F_Unrelated) (pa_cons (pv 0) pa_nil))
    (pa_xcons (r := (("Argued" : Str), [("attribute" : Str)], 0)) (pe_pl1 (hr.mono (by decide)) (by rfl) (M_Argued U) (xb_Argued U.F_Argued) (pa_cons (pv 0) pa_nil))
    (pa_xcons (r := (("Unsound" : Str), [("fault" : Str)], 0)) (pe_pl1 (hr.mono (by decide)) (by rfl) (M_Unsound U) (xb_Unsound U.F_Unsound) (pa_cons (pv 0) pa_nil))
    (pa_xcons (r := (("Moved" : Str), [("attribute" : Str)], 0)) (pe_pl1 (hr.mono (by decide)) (by rfl) (M_Moved U) (xb_Moved U.F_Moved) (pa_cons (pv 0) pa_nil))
    (pa_xcons (r := (("NotFull" : Str), [("attribute" : Str)], 0)) (pe_pl1 (hr.mono (by decide)) (by rfl) (M_NotFull U) (xb_NotFull U.F_NotFull) (pa_cons (pv 0) pa_nil))
    (pa_xcons (r := (("InvalidWay" : Str), [("value" : Str)], 0)) (pe_pl1 (hr.mono (by decide)) (by rfl) (M_InvalidWay U) (xb_InvalidWay U.F_InvalidWay) (pa_cons (pv 0) pa_nil))
    (pa_xcons (r := (("InvalidItem" : Str), [("at" : Str)], 0)) (pe_pl1 (hr.mono (by decide)) (by rfl) (M_InvalidItem U) (xb_InvalidItem U.F_InvalidItem) (pa_cons (pv 0) pa_nil))
    (pa_xcons (r := (("InvalidCells" : Str), [("declaration" : Str)], 0)) (pe_pl1 (hr.mono (by decide)) (by rfl) (M_InvalidCells U) (xb_InvalidCells U.F_InvalidCells) (pa_cons (pv 0) pa_nil))
    (pa_xcons (r := (("SharedCell" : Str), [("first" : Str), ("second" : Str)], 0)) (pe_pl2 (hr.mono (by decide)) (by rfl) (M_SharedCell U) (xb_SharedCell U.F_SharedCell) (pa_cons (pv 0) (pa_cons (pv 1) pa_nil)))
    (pa_xcons (r := (("Ended" : Str), [], 0)) (pe_pl0 (hr.mono (by decide)) (by rfl) (M_Ended U) (xb_Ended U.F_Ended))
    (pa_xcons (r := (("InvalidDeed" : Str), [("at" : Str)], 0)) (pe_pl1 (hr.mono (by decide)) (by rfl) (M_InvalidDeed U) (xb_InvalidDeed U.F_InvalidDeed) (pa_cons (pv 0) pa_nil))
    (pa_xcons (r := (("BadJournal" : Str), [("line" : Str)], 0)) (pe_pl1 (hr.mono (by decide)) (by rfl) (M_BadJournal U) (xb_BadJournal U.F_BadJournal) (pa_cons (pv 0) pa_nil))
    (pa_xcons (r := (("Busy" : Str), [], 0)) (pe_pl0 (hr.mono (by decide)) (by rfl) (M_Busy U) (xb_Busy U.F_Busy))
    (pa_xcons (r := (("NoDraft" : Str), [("person" : Str)], 0)) (pe_pl1 (hr.mono (by decide)) (by rfl) (M_NoDraft U) (xb_NoDraft U.F_NoDraft) (pa_cons (pv 0) pa_nil))
    (pa_xcons (r := (("HasDraft" : Str), [("person" : Str)], 0)) (pe_pl1 (hr.mono (by decide)) (by rfl) (M_HasDraft U) (xb_HasDraft U.F_HasDraft) (pa_cons (pv 0) pa_nil))
    (pa_xcons (r := (("NoMerge" : Str), [], 0)) (pe_pl0 (hr.mono (by decide)) (by rfl) (M_NoMerge U) (xb_NoMerge U.F_NoMerge))
    (pa_xcons (r := (("UnknownId" : Str), [("thing" : Str)], 1)) (pe_pl1 (hr.mono (by decide)) (by rfl) (M_UnknownId U) (xb_UnknownId U.F_UnknownId) (pa_cons (pv 0) pa_nil))
    (pa_xcons (r := (("UnknownName" : Str), [("name" : Str)], 1)) (pe_pl1 (hr.mono (by decide)) (by rfl) (M_UnknownName U) (xb_UnknownName U.F_UnknownName) (pa_cons (pv 0) pa_nil))
    (pa_xcons (r := (("UnknownPerson" : Str), [("person" : Str)], 1)) (pe_pl1 (hr.mono (by decide)) (by rfl) (M_UnknownPerson U) (xb_UnknownPerson U.F_UnknownPerson) (pa_cons (pv 0) pa_nil))
    (pa_xcons (r := (("UnknownAttribute" : Str), [("attribute" : Str)], 1)) (pe_pl1 (hr.mono (by decide)) (by rfl) (M_UnknownAttribute U) (xb_UnknownAttribute U.F_UnknownAttribute) (pa_cons (pv 0) pa_nil))
    (pa_xcons (r := (("NoNaming" : Str), [("number" : Str)], 2)) (pe_pl1 (hr.mono (by decide)) (by rfl) (M_NoNaming U) (xb_NoNaming U.F_NoNaming) (pa_cons (pv 0) pa_nil))
    (pa_xcons (r := (("NothingLeft" : Str), [], 2)) (pe_pl0 (hr.mono (by decide)) (by rfl) (M_NothingLeft U) (xb_NothingLeft U.F_NothingLeft))
    pa_xnil)))))))))))))))))))))))))))))))))))))))))))))), ?_⟩
  exact by_end q
theorem ok_by_name : FnOk P w K mg base CX0 3 T.f__law_by_name T.d__law_by_name ["_law_one", "_law_two", "_law_three", "_law_four"] (spBy K) := by
  refine T.F__law_by_name.ok sc__law_by_name (fun vs H Q E h => ?_) (fun cdv A outer s H vs Q E hr h => ?_)
  · obtain ⟨v1, v2, v3, v4, rfl, _⟩ := h
    rfl
  obtain ⟨v1, v2, v3, v4, rfl, q⟩ := h
  refine ⟨_, (pss_one (ps_ret (pe_lst (pa_xcons (r := (("InvalidName" : Str), [("value" : Str)], 0)) (pe_kw1 (hr.mono (by decide)) (by rfl) (M_InvalidName U) (xq_InvalidName U.F_InvalidName) (pk_cons (pv 0) pk_nil))
    (pa_xcons (r := (("InvalidNumber" : Str), [("value" : Str)], 0)) (pe_kw1 (hr.mono (by decide)) (by rfl) (M_InvalidNumber U) (xq_InvalidNumber U.F_InvalidNumber) (pk_cons (pv 0) pk_nil))
    (pa_xcons (r := (("BadText" : Str), [("line" : Str), ("place" : Str), ("why" : Str)], 0)) (pe_kw3 (hr.mono (by decide)) (by rfl) (M_BadText U) (xq_BadText U.F_BadText) (pk_cons (pv 2) (pk_cons (pv 1) (pk_cons (pv 0) pk_nil))))
    (pa_xcons (r := (("DuplicateName" : Str), [("name" : Str)], 0)) (pe_kw1 (hr.mono (by decide)) (by rfl) (M_DuplicateName U) (xq_DuplicateName U.F_DuplicateName) (pk_cons (pv 0) pk_nil))
    (pa_xcons (r := (("Misused" : Str), [("use" : Str)], 0)) (pe_kw1 (hr.mono (by decide)) (by rfl) (M_Misused U) (xq_Misused U.F_Misused) (pk_cons (pv 0) pk_nil))
    (pa_xcons (r := (("OutOfReach" : Str), [("use" : Str)], 0)) (pe_kw1 (hr.mono (by decide)) (by rfl) (M_OutOfReach U) (xq_OutOfReach U.F_OutOfReach) (pk_cons (pv 0) pk_nil))
    (pa_xcons (r := (("Lost" : Str), [("use" : Str)], 0)) (pe_kw1 (hr.mono (by decide)) (by rfl) (M_Lost U) (xq_Lost U.F_Lost) (pk_cons (pv 0) pk_nil))
    (pa_xcons (r := (("Doubled" : Str), [("first" : Str), ("second" : Str), ("block" : Str)], 0)) (pe_kw3 (hr.mono (by decide)) (by rfl) (M_Doubled U) (xq_Doubled U.F_Doubled) (pk_cons (pv 2) (pk_cons (pv 1) (pk_cons (pv 0) pk_nil))))
    (pa_xcons (r := (("Caught" : Str), [("use" : Str), ("own" : Str), ("other" : Str), ("block" : Str)], 0)) (pe_kw4 (hr.mono (by decide)) (by rfl) (M_Caught U) (xq_Caught U.F_Caught) (pk_cons (pv 3) (pk_cons (pv 2) (pk_cons (pv 1) (pk_cons (pv 0) pk_nil)))))
    (pa_xcons (r := (("InvalidFixed" : Str), [("at" : Str)], 0)) (pe_kw1 (hr.mono (by decide)) (by rfl) (M_InvalidFixed U) (xq_InvalidFixed U.F_InvalidFixed) (pk_cons (pv 0) pk_nil))
    (pa_xcons (r := (("InvalidNaming" : Str), [("declaration" : Str)], 0)) (pe_kw1 (hr.mono (by decide)) (by rfl) (M_InvalidNaming U) (xq_InvalidNaming U.F_InvalidNaming) (pk_cons (pv 0) pk_nil))
    (pa_xcons (r := (("NoSpare" : Str), [], 0)) (pe_pl0 (hr.mono (by decide)) (by rfl) (M_NoSpare U) (xb_NoSpare U.F_NoSpare))
    (pa_xcons (r := (("TooMany" : Str), [("most" : Str)], 0)) (pe_kw1 (hr.mono (by decide)) (by rfl) (M_TooMany U) (xq_TooMany U.F_TooMany) (pk_cons (pv 0) pk_nil))
    (pa_xcons (r := (("InvalidWorth" : Str), [("declaration" : Str)], 0)) (pe_kw1 (hr.mono (by decide)) (by rfl) (M_InvalidWorth U) (xq_InvalidWorth U.F_InvalidWorth) (pk_cons (pv 0) pk_nil))
    (pa_xcons (r := (("Beyond" : Str), [("first" : Str), ("second" : Str)], 0)) (pe_kw2 (hr.mono (by decide)) (by rfl) (M_Beyond U) (xq_Beyond U.F_Beyond) (pk_cons (pv 1) (pk_cons (pv 0) pk_nil)))
    (pa_xcons (r := (("InvalidEdit" : Str), [("at" : Str)], 0)) (pe_kw1 (hr.mono (by decide)) (by rfl) (M_InvalidEdit U) (xq_InvalidEdit U.F_InvalidEdit) (pk_cons (pv 0) pk_nil))
    (pa_xcons (r := (("NotFit" : Str), [("row" : Str)], 0)) (pe_kw1 (hr.mono (by decide)) (by rfl) (M_NotFit U) (xq_NotFit U.F_NotFit) (pk_cons (pv 0) pk_nil))
    (pa_xcons (r := (("NotAbove" : Str), [("block" : Str)], 0)) (pe_kw1 (hr.mono (by decide)) (by rfl) (M_NotAbove U) (xq_NotAbove U.F_NotAbove) (pk_cons (pv 0) pk_nil))
    (pa_xcons (r := (("Ring" : Str), [("row" : Str)], 0)) (pe_kw1 (hr.mono (by decide)) (by rfl) (M_Ring U) (xq_Ring U.F_Ring) (pk_cons (pv 0) pk_nil))
    (pa_xcons (r := (("NoRoom" : Str), [("row" : Str)], 0)) (pe_kw1 (hr.mono (by decide)) (by rfl) (M_NoRoom U) (xq_NoRoom U.F_NoRoom) (pk_cons (pv 0) pk_nil))
    (pa_xcons (r := (("SamePerson" : Str), [("person" : Str)], 0)) (pe_kw1 (hr.mono (by decide)) (by rfl) (M_SamePerson U) (xq_SamePerson U.F_SamePerson) (pk_cons (pv 0) pk_nil))
    (pa_xcons (r := (("Unrelated" : Str), [("row" : Str)], 0)) (pe_kw1 (hr.mono (by decide)) (by rfl) (M_Unrelated U) (xq_Unrelated U.F_Unrelated) (pk_cons (pv 0) pk_nil))
    (pa_xcons (r := (("Argued" : Str), [("attribute" : Str)], 0)) (pe_kw1 (hr.mono (by decide)) (by rfl) (M_Argued U) (xq_Argued U.F_Argued) (pk_cons (pv 0) pk_nil))
    (pa_xcons (r := (("Unsound" : Str), [("fault" : Str)], 0)) (pe_kw1 (hr.mono (by decide)) (by rfl) (M_Unsound U) (xq_Unsound U.F_Unsound) (pk_cons (pv 0) pk_nil))
    (pa_xcons (r := (("Moved" : Str), [("attribute" : Str)], 0)) (pe_kw1 (hr.mono (by decide)) (by rfl) (M_Moved U) (xq_Moved U.F_Moved) (pk_cons (pv 0) pk_nil))
    (pa_xcons (r := (("NotFull" : Str), [("attribute" : Str)], 0)) (pe_kw1 (hr.mono (by decide)) (by rfl) (M_NotFull U) (xq_NotFull U.F_NotFull) (pk_cons (pv 0) pk_nil))
    (pa_xcons (r := (("InvalidWay" : Str), [("value" : Str)], 0)) (pe_kw1 (hr.mono (by decide)) (by rfl) (M_InvalidWay U) (xq_InvalidWay U.F_InvalidWay) (pk_cons (pv 0) pk_nil))
    (pa_xcons (r := (("InvalidItem" : Str), [("at" : Str)], 0)) (pe_kw1 (hr.mono (by decide)) (by rfl) (M_InvalidItem U) (xq_InvalidItem U.F_InvalidItem) (pk_cons (pv 0) pk_nil))
    (pa_xcons (r := (("InvalidCells" : Str), [("declaration" : Str)], 0)) (pe_kw1 (hr.mono (by decide)) (by rfl) (M_InvalidCells U) (xq_InvalidCells U.F_InvalidCells) (pk_cons (pv 0) pk_nil))
    (pa_xcons (r := (("SharedCell" : Str), [("first" : Str), ("second" : Str)], 0)) (pe_kw2 (hr.mono (by decide)) (by rfl) (M_SharedCell U) (xq_SharedCell U.F_SharedCell) (pk_cons (pv 1) (pk_cons (pv 0) pk_nil)))
    (pa_xcons (r := (("Ended" : Str), [], 0)) (pe_pl0 (hr.mono (by decide)) (by rfl) (M_Ended U) (xb_Ended U.F_Ended))
    (pa_xcons (r := (("InvalidDeed" : Str), [("at" : Str)], 0)) (pe_kw1 (hr.mono (by decide)) (by rfl) (M_InvalidDeed U) (xq_InvalidDeed U.F_InvalidDeed) (pk_cons (pv 0) pk_nil))
    (pa_xcons (r := (("BadJournal" : Str), [("line" : Str)], 0)) (pe_kw1 (hr.mono (by decide)) (by rfl) (M_BadJournal U) (xq_BadJournal U.F_BadJournal) (pk_cons (pv 0) pk_nil))
    (pa_xcons (r := (("Busy" : Str), [], 0)) (pe_pl0 (hr.mono (by decide)) (by rfl) (M_Busy U) (xb_Busy U.F_Busy))
    (pa_xcons (r := (("NoDraft" : Str), [("person" : Str)], 0)) (pe_kw1 (hr.mono (by decide)) (by rfl) (M_NoDraft U) (xq_NoDraft U.F_NoDraft) (pk_cons (pv 0) pk_nil))
    (pa_xcons (r := (("HasDraft" : Str), [("person" : Str)], 0)) (pe_kw1 (hr.mono (by decide)) (by rfl) (M_HasDraft U) (xq_HasDraft U.F_HasDraft) (pk_cons (pv 0) pk_nil))
    (pa_xcons (r := (("NoMerge" : Str), [], 0)) (pe_pl0 (hr.mono (by decide)) (by rfl) (M_NoMerge U) (xb_NoMerge U.F_NoMerge))
    (pa_xcons (r := (("UnknownId" : Str), [("thing" : Str)], 1)) (pe_kw1 (hr.mono (by decide)) (by rfl) (M_UnknownId U) (xq_UnknownId U.F_UnknownId) (pk_cons (pv 0) pk_nil))
    (pa_xcons (r := (("UnknownName" : Str), [("name" : Str)], 1)) (pe_kw1 (hr.mono (by decide)) (by rfl) (M_UnknownName U) (xq_UnknownName U.F_UnknownName) (pk_cons (pv 0) pk_nil))
    (pa_xcons (r := (("UnknownPerson" : Str), [("person" : Str)], 1)) (pe_kw1 (hr.mono (by decide)) (by rfl) (M_UnknownPerson U) (xq_UnknownPerson U.F_UnknownPerson) (pk_cons (pv 0) pk_nil))
    (pa_xcons (r := (("UnknownAttribute" : Str), [("attribute" : Str)], 1)) (pe_kw1 (hr.mono (by decide)) (by rfl) (M_UnknownAttribute U) (xq_UnknownAttribute U.F_UnknownAttribute) (pk_cons (pv 0) pk_nil))
    (pa_xcons (r := (("NoNaming" : Str), [("number" : Str)], 2)) (pe_kw1 (hr.mono (by decide)) (by rfl) (M_NoNaming U) (xq_NoNaming U.F_NoNaming) (pk_cons (pv 0) pk_nil))
    (pa_xcons (r := (("NothingLeft" : Str), [], 2)) (pe_pl0 (hr.mono (by decide)) (by rfl) (M_NothingLeft U) (xb_NothingLeft U.F_NothingLeft))
    pa_xnil)))))))))))))))))))))))))))))))))))))))))))))), ?_⟩
  exact by_end q
end
end Kx
/-! part K00g -/
namespace Kx
open PySem PySem.Spec PyProof.Rows L2 My
/-- an exception stands at a: the fields of its row, with the values ws -/
structure XIs (K : PySem.W.Frag) (H : Hp) (a : Addr) (r : XRow) (ws : List V) : Prop where
  v : ExV H a (cadr K r.1) (flds r.1 r.2.1 ws)
  l : ws.length = r.2.1.length
  m : r ∈ rws
theorem XIs.same {K : PySem.W.Frag} {H H' : Hp} {a : Addr} {r : XRow} {ws : List V} (h : XIs K H a r ws) (s : Same H H') : XIs K H' a r ws := ⟨h.v.same s, h.l, h.m⟩
/-- isinstance of it of all classes of the rows -/
def taK (K : PySem.W.Frag) (rows : List XRow) : TA := fun σ H Q => ∃ a r ws, σ = [some (.ref a)] ∧ XIs K H a r ws ∧ Q (rows.map fun u => .bl (decide (r.1 = u.1))) H
section
variable {X : Cx} {K : PySem.W.Frag}
theorem pa_knil : PA X [] (taK K []) := PA.imp pa_nil fun σ H Q ⟨a, r, ws, e, x, q⟩ => q
/-- what is asked of the class of a row -/
def KAll (K : PySem.W.Frag) (u : XRow) : Prop := ∀ H a r ws, XIs K H a r ws → XCls K (cadr K r.1) ∧ PySem.W.kitOne K (.ref (cadr K r.1)) (.ref (cadr K u.1)) = some (decide (r.1 = u.1))
theorem pa_kcons {e : Expr} {es : List Expr} {u : XRow} {rows : List XRow} (h : KAll X.K u) (he : PE X e (tCB (rIsX X.K) (tCons (tVar 0) (tCons (tC (.ref (cadr X.K u.1))) tNil)))) (hr : PA X es (taK X.K rows)) (hs : starEach (e :: es) X.env = (false, eval e X.env) :: starEach es X.env := by rfl) :
    PA X (e :: es) (taK X.K (u :: rows)) :=
  PA.imp (pa_cons he hr hs) fun σ H Q ⟨a, r, ws, e, x, q⟩ => by
    subst e
    obtain ⟨h1, h2⟩ := h H a r ws x
    exact ⟨_, rfl, a, _, _, _, _, _, rfl, .own _, h1, x.v, h2, a, r, ws, rfl, x, q⟩
end
theorem row_of {r : XRow} (h : r ∈ rws) : ∃ i : Nat, rws[i]? = some r := List.mem_iff_getElem?.mp h
section
variable {P : Program} {w : World} {K : PySem.W.Frag} {mg : Str → Option Value} {base : Heap} (T : Tx K mg) (U : Ty K mg)
include U
omit U in
theorem Ty.mem {K : PySem.W.Frag} {mg : Str → Option Value} (U : Ty K mg) {r : XRow} (h : r ∈ rws) : ClsFacts K r.1 r.2.1 := by
  obtain ⟨i, hi⟩ := row_of h
  exact U.row hi
theorem kall {u : XRow} (hu : u ∈ rws) : KAll K u := fun H a r ws x => ⟨(U.mem x.m).T.cls, beq_iff_eq.mp (List.all_eq_true.mp (List.all_eq_true.mp U.kinds r x.m) u hu)⟩
def spKd (K : PySem.W.Frag) (rows : List XRow) : Sp := fun vs H Q _ => ∃ a r ws, vs = [.ref a] ∧ XIs K H a r ws ∧ ∀ H' p, Same H H' → H' p = some (.lst (rows.map fun u => .bl (decide (r.1 = u.1)))) → Q (.ref p) H'
omit U in
theorem kd_end {rows : List XRow} {a : Addr} {r : XRow} {ws : List V} {H : Hp} {Q : VK} (hl : rows.length ≤ 1000) (x : XIs K H a r ws) (q : ∀ H' p, Same H H' → H' p = some (.lst (rows.map fun u => .bl (decide (r.1 = u.1)))) → Q (.ref p) H') : tLst (taK K rows) [some (.ref a)] H Q :=
  ⟨a, r, ws, rfl, x, by rw [List.length_map]; exact small63 hl, fun p np => q _ p (same_new np _) upd_same⟩
theorem ok_first : FnOk P w K mg base CX0 1 T.f__law_first_kinds T.d__law_first_kinds ["_law_e"] (spKd K (rws.take 22)) := by
  refine T.F__law_first_kinds.ok sc__law_first_kinds (fun vs H Q E h => ?_) (fun cdv A outer s H vs Q E hr h => ?_)
  · obtain ⟨a, r, ws, rfl, _⟩ := h
    rfl
  obtain ⟨a, r, ws, rfl, x, q⟩ := h
  refine ⟨_, (pss_one (ps_ret (pe_lst (pa_kcons (u := (("InvalidName" : Str), [("value" : Str)], 0)) (kall U (List.mem_of_getElem? (i := 0) rfl)) (pe_callB call_isX (by rfl) T.z_isinstance (by decide +kernel) (pa_cons (pv 0) (pa_cons (pe_glob (by rfl) (M_InvalidName (P := P) (w := w) (base := base) U).g rfl) pa_nil)))
    (pa_kcons (u := (("InvalidNumber" : Str), [("value" : Str)], 0)) (kall U (List.mem_of_getElem? (i := 1) rfl)) (pe_callB call_isX (by rfl) T.z_isinstance (by decide +kernel) (pa_cons (pv 0) (pa_cons (pe_glob (by rfl) (M_InvalidNumber (P := P) (w := w) (base := base) U).g rfl) pa_nil)))
    (pa_kcons (u := (("BadText" : Str), [("line" : Str), ("place" : Str), ("why" : Str)], 0)) (kall U (List.mem_of_getElem? (i := 2) rfl)) (pe_callB call_isX (by rfl) T.z_isinstance (by decide +kernel) (pa_cons (pv 0) (pa_cons (pe_glob (by rfl) (M_BadText (P := P) (w := w) (base := base) U).g rfl) pa_nil)))
    (pa_kcons (u := (("DuplicateName" : Str), [("name" : Str)], 0)) (kall U (List.mem_of_getElem? (i := 3) rfl)) (pe_callB call_isX (by rfl) T.z_isinstance (by decide +kernel) (pa_cons (pv 0) (pa_cons (pe_glob (by rfl) (M_DuplicateName (P := P) (w := w) (base := base) U).g rfl) pa_nil)))
    (pa_kcons (u := (("Misused" : Str), [("use" : Str)], 0)) (kall U (List.mem_of_getElem? (i := 4) rfl)) (pe_callB call_isX (by rfl) T.z_isinstance (by decide +kernel) (pa_cons (pv 0) (pa_cons (pe_glob (by rfl) (M_Misused (P := P) (w := w) (base := base) U).g rfl) pa_nil)))
    (pa_kcons (u := (("OutOfReach" : Str), [("use" : Str)], 0)) (kall U (List.mem_of_getElem? (i := 5) rfl)) (pe_callB call_isX (by rfl) T.z_isinstance (by decide +kernel) (pa_cons (pv 0) (pa_cons (pe_glob (by rfl) (M_OutOfReach (P := P) (w := w) (base := base) U).g rfl) pa_nil)))
    (pa_kcons (u := (("Lost" : Str), [("use" : Str)], 0)) (kall U (List.mem_of_getElem? (i := 6) rfl)) (pe_callB call_isX (by rfl) T.z_isinstance (by decide +kernel) (pa_cons (pv 0) (pa_cons (pe_glob (by rfl) (M_Lost (P := P) (w := w) (base := base) U).g rfl) pa_nil)))
    (pa_kcons (u := (("Doubled" : Str), [("first" : Str), ("second" : Str), ("block" : Str)], 0)) (kall U (List.mem_of_getElem? (i := 7) rfl)) (pe_callB call_isX (by rfl) T.z_isinstance (by decide +kernel) (pa_cons (pv 0) (pa_cons (pe_glob (by rfl) (M_Doubled (P := P) (w := w) (base := base) U).g rfl) pa_nil)))
    (pa_kcons (u := (("Caught" : Str), [("use" : Str), ("own" : Str), ("other" : Str), ("block" : Str)], 0)) (kall U (List.mem_of_getElem? (i := 8) rfl)) (pe_callB call_isX (by rfl) T.z_isinstance (by decide +kernel) (pa_cons (pv 0) (pa_cons (pe_glob (by rfl) (M_Caught (P := P) (w := w) (base := base) U).g rfl) pa_nil)))
    (pa_kcons (u := (("InvalidFixed" : Str), [("at" : Str)], 0)) (kall U (List.mem_of_getElem? (i := 9) rfl)) (pe_callB call_isX (by rfl) T.z_isinstance (by decide +kernel) (pa_cons (pv 0) (pa_cons (pe_glob (by rfl) (M_InvalidFixed (P := P) (w := w) (base := base) U).g rfl) pa_nil)))
    (pa_kcons (u := (("InvalidNaming" : Str), [("declaration" : Str)], 0)) (kall U (List.mem_of_getElem? (i := 10) rfl)) (pe_callB call_isX (by rfl) T.z_isinstance (by decide +kernel) (pa_cons (pv 0) (pa_cons (pe_glob (by rfl) (M_InvalidNaming (P := P) (w := w) (base := base) U).g rfl) pa_nil)))
    (pa_kcons (u := (("NoSpare" : Str), [], 0)) (kall U (List.mem_of_getElem? (i := 11) rfl)) (pe_callB call_isX (by rfl) T.z_isinstance (by decide +kernel) (pa_cons (pv 0) (pa_cons (pe_glob (by rfl) (M_NoSpare (P := P) (w := w) (base := base) U).g rfl) pa_nil)))
    (pa_kcons (u := (("TooMany" : Str), [("most" : Str)], 0)) (kall U (List.mem_of_getElem? (i := 12) rfl)) (pe_callB call_isX (by rfl) T.z_isinstance (by decide +kernel) (pa_cons (pv 0) (pa_cons (pe_glob (by rfl) (M_TooMany (P := P) (w := w) (base := base) U).g rfl) pa_nil)))
    (pa_kcons (u := (("InvalidWorth" : Str), [("declaration" : Str)], 0)) (kall U (List.mem_of_getElem? (i := 13) rfl)) (pe_callB call_isX (by rfl) T.z_isinstance (by decide +kernel) (pa_cons (pv 0) (pa_cons (pe_glob (by rfl) (M_InvalidWorth (P := P) (w := w) (base := base) U).g rfl) pa_nil)))
    (pa_kcons (u := (("Beyond" : Str), [("first" : Str), ("second" : Str)], 0)) (kall U (List.mem_of_getElem? (i := 14) rfl)) (pe_callB call_isX (by rfl) T.z_isinstance (by decide +kernel) (pa_cons (pv 0) (pa_cons (pe_glob (by rfl) (M_Beyond (P := P) (w := w) (base := base) U).g rfl) pa_nil)))
    (pa_kcons (u := (("InvalidEdit" : Str), [("at" : Str)], 0)) (kall U (List.mem_of_getElem? (i := 15) rfl)) (pe_callB call_isX (by rfl) T.z_isinstance (by decide +kernel) (pa_cons (pv 0) (pa_cons (pe_glob (by rfl) (M_InvalidEdit (P := P) (w := w) (base := base) U).g rfl) pa_nil)))
    (pa_kcons (u := (("NotFit" : Str), [("row" : Str)], 0)) (kall U (List.mem_of_getElem? (i := 16) rfl)) (pe_callB call_isX (by rfl) T.z_isinstance (by decide +kernel) (pa_cons (pv 0) (pa_cons (pe_glob (by rfl) (M_NotFit (P := P) (w := w) (base := base) U).g rfl) pa_nil)))
    (pa_kcons (u := (("NotAbove" : Str), [("block" : Str)], 0)) (kall U (List.mem_of_getElem? (i := 17) rfl)) (pe_callB call_isX (by rfl) T.z_isinstance (by decide +kernel) (pa_cons (pv 0) (pa_cons (pe_glob (by rfl) (M_NotAbove (P := P) (w := w) (base := base) U).g rfl) pa_nil)))
    (pa_kcons (u := (("Ring" : Str), [("row" : Str)], 0)) (kall U (List.mem_of_getElem? (i := 18) rfl)) (pe_callB call_isX (by rfl) T.z_isinstance (by decide +kernel) (pa_cons (pv 0) (pa_cons (pe_glob (by rfl) (M_Ring (P := P) (w := w) (base := base) U).g rfl) pa_nil)))
    (pa_kcons (u := (("NoRoom" : Str), [("row" : Str)], 0)) (kall U (List.mem_of_getElem? (i := 19) rfl)) (pe_callB call_isX (by rfl) T.z_isinstance (by decide +kernel) (pa_cons (pv 0) (pa_cons (pe_glob (by rfl) (M_NoRoom (P := P) (w := w) (base := base) U).g rfl) pa_nil)))
    (pa_kcons (u := (("SamePerson" : Str), [("person" : Str)], 0)) (kall U (List.mem_of_getElem? (i := 20) rfl)) (pe_callB call_isX (by rfl) T.z_isinstance (by decide +kernel) (pa_cons (pv 0) (pa_cons (pe_glob (by rfl) (M_SamePerson (P := P) (w := w) (base := base) U).g rfl) pa_nil)))
    (pa_kcons (u := (("Unrelated" : Str), [("row" : Str)], 0)) (kall U (List.mem_of_getElem? (i := 21) rfl)) (pe_callB call_isX (by rfl) T.z_isinstance (by decide +kernel) (pa_cons (pv 0) (pa_cons (pe_glob (by rfl) (M_Unrelated (P := P) (w := w) (base := base) U).g rfl) pa_nil)))
    pa_knil))))))))))))))))))))))))), ?_⟩
  exact kd_end (rows := rws.take 22) (by decide) x q
theorem ok_late : FnOk P w K mg base CX0 1 T.f__law_late_kinds T.d__law_late_kinds ["_law_e"] (spKd K (rws.drop 22)) := by
  refine T.F__law_late_kinds.ok sc__law_late_kinds (fun vs H Q E h => ?_) (fun cdv A outer s H vs Q E hr h => ?_)
  · obtain ⟨a, r, ws, rfl, _⟩ := h
    rfl
  obtain ⟨a, r, ws, rfl, x, q⟩ := h
  refine ⟨_, (pss_one (ps_ret (pe_lst (pa_kcons (u := (("Argued" : Str), [("attribute" : Str)], 0)) (kall U (List.mem_of_getElem? (i := 22) rfl)) (pe_callB call_isX (by rfl) T.z_isinstance (by decide +kernel) (pa_cons (pv 0) (pa_cons (pe_glob (by rfl) (M_Argued (P := P) (w := w) (base := base) U).g rfl) pa_nil)))
    (pa_kcons (u := (("Unsound" : Str), [("fault" : Str)], 0)) (kall U (List.mem_of_getElem? (i := 23) rfl)) (pe_callB call_isX (by rfl) T.z_isinstance (by decide +kernel) (pa_cons (pv 0) (pa_cons (pe_glob (by rfl) (M_Unsound (P := P) (w := w) (base := base) U).g rfl) pa_nil)))
    (pa_kcons (u := (("Moved" : Str), [("attribute" : Str)], 0)) (kall U (List.mem_of_getElem? (i := 24) rfl)) (pe_callB call_isX (by rfl) T.z_isinstance (by decide +kernel) (pa_cons (pv 0) (pa_cons (pe_glob (by rfl) (M_Moved (P := P) (w := w) (base := base) U).g rfl) pa_nil)))
    (pa_kcons (u := (("NotFull" : Str), [("attribute" : Str)], 0)) (kall U (List.mem_of_getElem? (i := 25) rfl)) (pe_callB call_isX (by rfl) T.z_isinstance (by decide +kernel) (pa_cons (pv 0) (pa_cons (pe_glob (by rfl) (M_NotFull (P := P) (w := w) (base := base) U).g rfl) pa_nil)))
    (pa_kcons (u := (("InvalidWay" : Str), [("value" : Str)], 0)) (kall U (List.mem_of_getElem? (i := 26) rfl)) (pe_callB call_isX (by rfl) T.z_isinstance (by decide +kernel) (pa_cons (pv 0) (pa_cons (pe_glob (by rfl) (M_InvalidWay (P := P) (w := w) (base := base) U).g rfl) pa_nil)))
    (pa_kcons (u := (("InvalidItem" : Str), [("at" : Str)], 0)) (kall U (List.mem_of_getElem? (i := 27) rfl)) (pe_callB call_isX (by rfl) T.z_isinstance (by decide +kernel) (pa_cons (pv 0) (pa_cons (pe_glob (by rfl) (M_InvalidItem (P := P) (w := w) (base := base) U).g rfl) pa_nil)))
    (pa_kcons (u := (("InvalidCells" : Str), [("declaration" : Str)], 0)) (kall U (List.mem_of_getElem? (i := 28) rfl)) (pe_callB call_isX (by rfl) T.z_isinstance (by decide +kernel) (pa_cons (pv 0) (pa_cons (pe_glob (by rfl) (M_InvalidCells (P := P) (w := w) (base := base) U).g rfl) pa_nil)))
    (pa_kcons (u := (("SharedCell" : Str), [("first" : Str), ("second" : Str)], 0)) (kall U (List.mem_of_getElem? (i := 29) rfl)) (pe_callB call_isX (by rfl) T.z_isinstance (by decide +kernel) (pa_cons (pv 0) (pa_cons (pe_glob (by rfl) (M_SharedCell (P := P) (w := w) (base := base) U).g rfl) pa_nil)))
    (pa_kcons (u := (("Ended" : Str), [], 0)) (kall U (List.mem_of_getElem? (i := 30) rfl)) (pe_callB call_isX (by rfl) T.z_isinstance (by decide +kernel) (pa_cons (pv 0) (pa_cons (pe_glob (by rfl) (M_Ended (P := P) (w := w) (base := base) U).g rfl) pa_nil)))
    (pa_kcons (u := (("InvalidDeed" : Str), [("at" : Str)], 0)) (kall U (List.mem_of_getElem? (i := 31) rfl)) (pe_callB call_isX (by rfl) T.z_isinstance (by decide +kernel) (pa_cons (pv 0) (pa_cons (pe_glob (by rfl) (M_InvalidDeed (P := P) (w := w) (base := base) U).g rfl) pa_nil)))
    (pa_kcons (u := (("BadJournal" : Str), [("line" : Str)], 0)) (kall U (List.mem_of_getElem? (i := 32) rfl)) (pe_callB call_isX (by rfl) T.z_isinstance (by decide +kernel) (pa_cons (pv 0) (pa_cons (pe_glob (by rfl) (M_BadJournal (P := P) (w := w) (base := base) U).g rfl) pa_nil)))
    (pa_kcons (u := (("Busy" : Str), [], 0)) (kall U (List.mem_of_getElem? (i := 33) rfl)) (pe_callB call_isX (by rfl) T.z_isinstance (by decide +kernel) (pa_cons (pv 0) (pa_cons (pe_glob (by rfl) (M_Busy (P := P) (w := w) (base := base) U).g rfl) pa_nil)))
    (pa_kcons (u := (("NoDraft" : Str), [("person" : Str)], 0)) (kall U (List.mem_of_getElem? (i := 34) rfl)) (pe_callB call_isX (by rfl) T.z_isinstance (by decide +kernel) (pa_cons (pv 0) (pa_cons (pe_glob (by rfl) (M_NoDraft (P := P) (w := w) (base := base) U).g rfl) pa_nil)))
    (pa_kcons (u := (("HasDraft" : Str), [("person" : Str)], 0)) (kall U (List.mem_of_getElem? (i := 35) rfl)) (pe_callB call_isX (by rfl) T.z_isinstance (by decide +kernel) (pa_cons (pv 0) (pa_cons (pe_glob (by rfl) (M_HasDraft (P := P) (w := w) (base := base) U).g rfl) pa_nil)))
    (pa_kcons (u := (("NoMerge" : Str), [], 0)) (kall U (List.mem_of_getElem? (i := 36) rfl)) (pe_callB call_isX (by rfl) T.z_isinstance (by decide +kernel) (pa_cons (pv 0) (pa_cons (pe_glob (by rfl) (M_NoMerge (P := P) (w := w) (base := base) U).g rfl) pa_nil)))
    (pa_kcons (u := (("UnknownId" : Str), [("thing" : Str)], 1)) (kall U (List.mem_of_getElem? (i := 37) rfl)) (pe_callB call_isX (by rfl) T.z_isinstance (by decide +kernel) (pa_cons (pv 0) (pa_cons (pe_glob (by rfl) (M_UnknownId (P := P) (w := w) (base := base) U).g rfl) pa_nil)))
    (pa_kcons (u := (("UnknownName" : Str), [("name" : Str)], 1)) (kall U (List.mem_of_getElem? (i := 38) rfl)) (pe_callB call_isX (by rfl) T.z_isinstance (by decide +kernel) (pa_cons (pv 0) (pa_cons (pe_glob (by rfl) (M_UnknownName (P := P) (w := w) (base := base) U).g rfl) pa_nil)))
    (pa_kcons (u := (("UnknownPerson" : Str), [("person" : Str)], 1)) (kall U (List.mem_of_getElem? (i := 39) rfl)) (pe_callB call_isX (by rfl) T.z_isinstance (by decide +kernel) (pa_cons (pv 0) (pa_cons (pe_glob (by rfl) (M_UnknownPerson (P := P) (w := w) (base := base) U).g rfl) pa_nil)))
    (pa_kcons (u := (("UnknownAttribute" : Str), [("attribute" : Str)], 1)) (kall U (List.mem_of_getElem? (i := 40) rfl)) (pe_callB call_isX (by rfl) T.z_isinstance (by decide +kernel) (pa_cons (pv 0) (pa_cons (pe_glob (by rfl) (M_UnknownAttribute (P := P) (w := w) (base := base) U).g rfl) pa_nil)))
    (pa_kcons (u := (("NoNaming" : Str), [("number" : Str)], 2)) (kall U (List.mem_of_getElem? (i := 41) rfl)) (pe_callB call_isX (by rfl) T.z_isinstance (by decide +kernel) (pa_cons (pv 0) (pa_cons (pe_glob (by rfl) (M_NoNaming (P := P) (w := w) (base := base) U).g rfl) pa_nil)))
    (pa_kcons (u := (("NothingLeft" : Str), [], 2)) (kall U (List.mem_of_getElem? (i := 42) rfl)) (pe_callB call_isX (by rfl) T.z_isinstance (by decide +kernel) (pa_cons (pv 0) (pa_cons (pe_glob (by rfl) (M_NothingLeft (P := P) (w := w) (base := base) U).g rfl) pa_nil)))
    pa_knil)))))))))))))))))))))))), ?_⟩
  exact kd_end (rows := rws.drop 22) (by decide) x q
def spBs (K : PySem.W.Frag) : Sp := fun vs H Q _ => ∃ a r ws, vs = [.ref a] ∧ XIs K H a r ws ∧ ∀ H' p, Same H H' → H' p = some (.lst [.bl (decide (r.2.2 = 0)), .bl (decide (r.2.2 = 0)), .bl (decide (r.2.2 = 1)), .bl (decide (1 ≤ r.2.2)), .bl (decide (2 ≤ r.2.2))]) → Q (.ref p) H'
theorem ok_bases : FnOk P w K mg base CX0 1 T.f__law_bases T.d__law_bases ["_law_e"] (spBs K) := by
  refine T.F__law_bases.ok sc__law_bases (fun vs H Q E h => ?_) (fun cdv A outer s H vs Q E hr h => ?_)
  · obtain ⟨a, r, ws, rfl, _⟩ := h
    rfl
  obtain ⟨a, r, ws, rfl, x, q⟩ := h
  refine ⟨_, (pss_one (ps_ret (pe_lst (pa_cons (pe_callB call_isX (by rfl) T.z_isinstance (by decide +kernel) (pa_cons (pv 0) (pa_cons (pe_glob (v := .ref (cadr K "NamesError")) (by rfl) U.gN rfl) pa_nil)))
    (pa_cons (pe_callB call_isX (by rfl) T.z_isinstance (by decide +kernel) (pa_cons (pv 0) (pa_cons (pe_bltn (v := .ty "ValueError") (by rfl) T.z_ValueError (by decide +kernel) rfl) pa_nil)))
    (pa_cons (pe_callB call_isX (by rfl) T.z_isinstance (by decide +kernel) (pa_cons (pv 0) (pa_cons (pe_glob (v := .ref (cadr K "Missing")) (by rfl) U.gM rfl) pa_nil)))
    (pa_cons (pe_callB call_isX (by rfl) T.z_isinstance (by decide +kernel) (pa_cons (pv 0) (pa_cons (pe_bltn (v := .ty "LookupError") (by rfl) T.z_LookupError (by decide +kernel) rfl) pa_nil)))
    (pa_cons (pe_callB call_isX (by rfl) T.z_isinstance (by decide +kernel) (pa_cons (pv 0) (pa_cons (pe_bltn (v := .ty "IndexError") (by rfl) T.z_IndexError (by decide +kernel) rfl) pa_nil))) pa_nil)))))))), ?_⟩
  have c := (U.mem x.m).T.cls
  have z := List.all_eq_true.mp U.low r x.m
  simp only [Bool.and_eq_true, beq_iff_eq] at z
  obtain ⟨z1, z2, z3, z4, z5⟩ := z
  refine ⟨_, rfl, a, _, _, _, _, _, rfl, .own _, c, x.v, z1, ?_⟩
  refine ⟨_, rfl, a, _, _, _, _, _, rfl, .ty _, c, x.v, z2, ?_⟩
  refine ⟨_, rfl, a, _, _, _, _, _, rfl, .own _, c, x.v, z3, ?_⟩
  refine ⟨_, rfl, a, _, _, _, _, _, rfl, .ty _, c, x.v, z4, ?_⟩
  refine ⟨_, rfl, a, _, _, _, _, _, rfl, .ty _, c, x.v, z5, ?_⟩
  exact ⟨(by show 5 ≤ sizeLine; decide), fun p np => q _ p (same_new np _) upd_same⟩
end
end Kx
/-! part K00h -/
namespace Kx
open PySem PySem.Spec PyProof.Rows L2 My
def spTold (K : PySem.W.Frag) : Sp := fun vs H Q _ => ∃ a r ws, vs = [.ref a] ∧ XIs K H a r ws ∧ ∀ H' p, Same H H' → H' p = some (.lst ws) → Q (.ref p) H'
theorem look_code {code : Str} {names : List Str} {ws : List V} (h : ∀ f ∈ names, f ≠ ("code" : Str)) : (flds code names ws).lookup ("code" : Str) = some (V.str code) := by
  unfold flds
  have : ((names.zip ws).reverse).lookup ("code" : Str) = none := by
    rw [List.lookup_eq_none_iff]
    intro p hp
    have := h p.1 (List.of_mem_zip (List.mem_reverse.mp hp) : p.1 ∈ names ∧ p.2 ∈ ws).1
    simpa using fun z => this z.symm
  rw [List.lookup_append, this]
  simp [List.lookup]
theorem nocode {r : XRow} (h : r ∈ rws) : ∀ f ∈ r.2.1, f ≠ ("code" : Str) := by
  have q : ∀ r ∈ rws, ∀ f ∈ r.2.1, f ≠ ("code" : Str) := by decide +kernel
  exact q r h
section
variable {P : Program} {w : World} {K : PySem.W.Frag} {mg : Str → Option Value} {base : Heap} (T : Tx K mg) (U : Ty K mg)
/-- the code of such an exception -/
theorem XIs.code {K : PySem.W.Frag} {H : Hp} {a : Addr} {r : XRow} {ws : List V} (x : XIs K H a r ws) : (flds r.1 r.2.1 ws).lookup ("code" : Str) = some (V.str r.1) := look_code (nocode x.m)
theorem names_0 {r : XRow} (h : r ∈ rws) (c : ([("InvalidName" : Str), ("InvalidNumber" : Str), ("InvalidWay" : Str)]).contains r.1 = true) : r.2.1 = [("value" : Str)] := by
  have q : ∀ r ∈ rws, ([("InvalidName" : Str), ("InvalidNumber" : Str), ("InvalidWay" : Str)]).contains r.1 = true → r.2.1 = [("value" : Str)] := by decide +kernel
  exact q r h c
theorem names_1 {r : XRow} (h : r ∈ rws) (c : ([("BadText" : Str)]).contains r.1 = true) : r.2.1 = [("line" : Str), ("place" : Str), ("why" : Str)] := by
  have q : ∀ r ∈ rws, ([("BadText" : Str)]).contains r.1 = true → r.2.1 = [("line" : Str), ("place" : Str), ("why" : Str)] := by decide +kernel
  exact q r h c
theorem names_2 {r : XRow} (h : r ∈ rws) (c : ([("DuplicateName" : Str), ("UnknownName" : Str)]).contains r.1 = true) : r.2.1 = [("name" : Str)] := by
  have q : ∀ r ∈ rws, ([("DuplicateName" : Str), ("UnknownName" : Str)]).contains r.1 = true → r.2.1 = [("name" : Str)] := by decide +kernel
  exact q r h c
theorem names_3 {r : XRow} (h : r ∈ rws) (c : ([("Misused" : Str), ("OutOfReach" : Str), ("Lost" : Str)]).contains r.1 = true) : r.2.1 = [("use" : Str)] := by
  have q : ∀ r ∈ rws, ([("Misused" : Str), ("OutOfReach" : Str), ("Lost" : Str)]).contains r.1 = true → r.2.1 = [("use" : Str)] := by decide +kernel
  exact q r h c
theorem names_4 {r : XRow} (h : r ∈ rws) (c : ([("Doubled" : Str)]).contains r.1 = true) : r.2.1 = [("first" : Str), ("second" : Str), ("block" : Str)] := by
  have q : ∀ r ∈ rws, ([("Doubled" : Str)]).contains r.1 = true → r.2.1 = [("first" : Str), ("second" : Str), ("block" : Str)] := by decide +kernel
  exact q r h c
theorem names_5 {r : XRow} (h : r ∈ rws) (c : ([("Caught" : Str)]).contains r.1 = true) : r.2.1 = [("use" : Str), ("own" : Str), ("other" : Str), ("block" : Str)] := by
  have q : ∀ r ∈ rws, ([("Caught" : Str)]).contains r.1 = true → r.2.1 = [("use" : Str), ("own" : Str), ("other" : Str), ("block" : Str)] := by decide +kernel
  exact q r h c
theorem names_6 {r : XRow} (h : r ∈ rws) (c : ([("InvalidFixed" : Str), ("InvalidEdit" : Str), ("InvalidItem" : Str), ("InvalidDeed" : Str)]).contains r.1 = true) : r.2.1 = [("at" : Str)] := by
  have q : ∀ r ∈ rws, ([("InvalidFixed" : Str), ("InvalidEdit" : Str), ("InvalidItem" : Str), ("InvalidDeed" : Str)]).contains r.1 = true → r.2.1 = [("at" : Str)] := by decide +kernel
  exact q r h c
theorem names_7 {r : XRow} (h : r ∈ rws) (c : ([("InvalidNaming" : Str), ("InvalidWorth" : Str), ("InvalidCells" : Str)]).contains r.1 = true) : r.2.1 = [("declaration" : Str)] := by
  have q : ∀ r ∈ rws, ([("InvalidNaming" : Str), ("InvalidWorth" : Str), ("InvalidCells" : Str)]).contains r.1 = true → r.2.1 = [("declaration" : Str)] := by decide +kernel
  exact q r h c
theorem names_8 {r : XRow} (h : r ∈ rws) (c : ([("TooMany" : Str)]).contains r.1 = true) : r.2.1 = [("most" : Str)] := by
  have q : ∀ r ∈ rws, ([("TooMany" : Str)]).contains r.1 = true → r.2.1 = [("most" : Str)] := by decide +kernel
  exact q r h c
theorem names_9 {r : XRow} (h : r ∈ rws) (c : ([("Beyond" : Str), ("SharedCell" : Str)]).contains r.1 = true) : r.2.1 = [("first" : Str), ("second" : Str)] := by
  have q : ∀ r ∈ rws, ([("Beyond" : Str), ("SharedCell" : Str)]).contains r.1 = true → r.2.1 = [("first" : Str), ("second" : Str)] := by decide +kernel
  exact q r h c
theorem names_10 {r : XRow} (h : r ∈ rws) (c : ([("NotFit" : Str), ("Ring" : Str), ("NoRoom" : Str), ("Unrelated" : Str)]).contains r.1 = true) : r.2.1 = [("row" : Str)] := by
  have q : ∀ r ∈ rws, ([("NotFit" : Str), ("Ring" : Str), ("NoRoom" : Str), ("Unrelated" : Str)]).contains r.1 = true → r.2.1 = [("row" : Str)] := by decide +kernel
  exact q r h c
theorem names_11 {r : XRow} (h : r ∈ rws) (c : ([("NotAbove" : Str)]).contains r.1 = true) : r.2.1 = [("block" : Str)] := by
  have q : ∀ r ∈ rws, ([("NotAbove" : Str)]).contains r.1 = true → r.2.1 = [("block" : Str)] := by decide +kernel
  exact q r h c
theorem names_12 {r : XRow} (h : r ∈ rws) (c : ([("SamePerson" : Str), ("NoDraft" : Str), ("HasDraft" : Str), ("UnknownPerson" : Str)]).contains r.1 = true) : r.2.1 = [("person" : Str)] := by
  have q : ∀ r ∈ rws, ([("SamePerson" : Str), ("NoDraft" : Str), ("HasDraft" : Str), ("UnknownPerson" : Str)]).contains r.1 = true → r.2.1 = [("person" : Str)] := by decide +kernel
  exact q r h c
theorem names_13 {r : XRow} (h : r ∈ rws) (c : ([("Argued" : Str), ("Moved" : Str), ("NotFull" : Str), ("UnknownAttribute" : Str)]).contains r.1 = true) : r.2.1 = [("attribute" : Str)] := by
  have q : ∀ r ∈ rws, ([("Argued" : Str), ("Moved" : Str), ("NotFull" : Str), ("UnknownAttribute" : Str)]).contains r.1 = true → r.2.1 = [("attribute" : Str)] := by decide +kernel
  exact q r h c
theorem names_14 {r : XRow} (h : r ∈ rws) (c : ([("Unsound" : Str)]).contains r.1 = true) : r.2.1 = [("fault" : Str)] := by
  have q : ∀ r ∈ rws, ([("Unsound" : Str)]).contains r.1 = true → r.2.1 = [("fault" : Str)] := by decide +kernel
  exact q r h c
theorem names_15 {r : XRow} (h : r ∈ rws) (c : ([("BadJournal" : Str)]).contains r.1 = true) : r.2.1 = [("line" : Str)] := by
  have q : ∀ r ∈ rws, ([("BadJournal" : Str)]).contains r.1 = true → r.2.1 = [("line" : Str)] := by decide +kernel
  exact q r h c
theorem names_16 {r : XRow} (h : r ∈ rws) (c : ([("UnknownId" : Str)]).contains r.1 = true) : r.2.1 = [("thing" : Str)] := by
  have q : ∀ r ∈ rws, ([("UnknownId" : Str)]).contains r.1 = true → r.2.1 = [("thing" : Str)] := by decide +kernel
  exact q r h c
theorem names_17 {r : XRow} (h : r ∈ rws) (c : ([("NoNaming" : Str)]).contains r.1 = true) : r.2.1 = [("number" : Str)] := by
  have q : ∀ r ∈ rws, ([("NoNaming" : Str)]).contains r.1 = true → r.2.1 = [("number" : Str)] := by decide +kernel
  exact q r h c
theorem names_none {r : XRow} (h : r ∈ rws) (c0 : ¬ ([("InvalidName" : Str), ("InvalidNumber" : Str), ("InvalidWay" : Str)]).contains r.1 = true) (c1 : ¬ ([("BadText" : Str)]).contains r.1 = true) (c2 : ¬ ([("DuplicateName" : Str), ("UnknownName" : Str)]).contains r.1 = true) (c3 : ¬ ([("Misused" : Str), ("OutOfReach" : Str), ("Lost" : Str)]).contains r.1 = true) (c4 : ¬ ([("Doubled" : Str)]).contains r.1 = true) (c5 : ¬ ([("Caught" : Str)]).contains r.1 = true) (c6 : ¬ ([("InvalidFixed" : Str), ("InvalidEdit" : Str), ("InvalidItem" : Str), ("InvalidDeed" : Str)]).contains r.1 = true) (c7 : ¬ ([("InvalidNaming" : Str), ("InvalidWorth" : Str), ("InvalidCells" : Str)]).contains r.1 = true) (c8 : ¬ ([("TooMany" : Str)]).contains r.1 = true) (c9 : ¬ ([("Beyond" : Str), ("SharedCell" : Str)]).contains r.1 = true) (c10 : ¬ ([("NotFit" : Str), ("Ring" : Str), ("NoRoom" : Str), ("Unrelated" : Str)]).contains r.1 = true) (c11 : ¬ ([("NotAbove" : Str)]).contains r.1 = true) (c12 : ¬ ([("SamePerson" : Str), ("NoDraft" : Str), ("HasDraft" : Str), ("UnknownPerson" : Str)]).contains r.1 = true) (c13 : ¬ ([("Argued" : Str), ("Moved" : Str), ("NotFull" : Str), ("UnknownAttribute" : Str)]).contains r.1 = true) (c14 : ¬ ([("Unsound" : Str)]).contains r.1 = true) (c15 : ¬ ([("BadJournal" : Str)]).contains r.1 = true) (c16 : ¬ ([("UnknownId" : Str)]).contains r.1 = true) (c17 : ¬ ([("NoNaming" : Str)]).contains r.1 = true) : r.2.1 = [] := by
  have q : (rws.all fun r => (([("InvalidName" : Str), ("InvalidNumber" : Str), ("InvalidWay" : Str)]).contains r.1 || (([("BadText" : Str)]).contains r.1 || (([("DuplicateName" : Str), ("UnknownName" : Str)]).contains r.1 || (([("Misused" : Str), ("OutOfReach" : Str), ("Lost" : Str)]).contains r.1 || (([("Doubled" : Str)]).contains r.1 || (([("Caught" : Str)]).contains r.1 || (([("InvalidFixed" : Str), ("InvalidEdit" : Str), ("InvalidItem" : Str), ("InvalidDeed" : Str)]).contains r.1 || (([("InvalidNaming" : Str), ("InvalidWorth" : Str), ("InvalidCells" : Str)]).contains r.1 || (([("TooMany" : Str)]).contains r.1 || (([("Beyond" : Str), ("SharedCell" : Str)]).contains r.1 || (([("NotFit" : Str), ("Ring" : Str), ("NoRoom" : Str), ("Unrelated" : Str)]).contains r.1 || (([("NotAbove" : Str)]).contains r.1 || (([("SamePerson" : Str), ("NoDraft" : Str), ("HasDraft" : Str), ("UnknownPerson" : Str)]).contains r.1 || (([("Argued" : Str), ("Moved" : Str), ("NotFull" : Str), ("UnknownAttribute" : Str)]).contains r.1 || (([("Unsound" : Str)]).contains r.1 || (([("BadJournal" : Str)]).contains r.1 || (([("UnknownId" : Str)]).contains r.1 || (([("NoNaming" : Str)]).contains r.1 || decide (r.2.1 = [])))))))))))))))))))) = true := by decide +kernel
  have z := List.all_eq_true.mp q r h
  rw [Bool.not_eq_true] at c0 c1 c2 c3 c4 c5 c6 c7 c8 c9 c10 c11 c12 c13 c14 c15 c16 c17
  rw [c0, Bool.false_or, c1, Bool.false_or, c2, Bool.false_or, c3, Bool.false_or, c4, Bool.false_or, c5, Bool.false_or, c6, Bool.false_or, c7, Bool.false_or, c8, Bool.false_or, c9, Bool.false_or, c10, Bool.false_or, c11, Bool.false_or, c12, Bool.false_or, c13, Bool.false_or, c14, Bool.false_or, c15, Bool.false_or, c16, Bool.false_or, c17, Bool.false_or] at z
  exact of_decide_eq_true z
include U
theorem ok_told : FnOk P w K mg base CX0 1 T.f__law_told T.d__law_told ["_law_e"] (spTold K) := by
  refine T.F__law_told.ok sc__law_told (fun vs H Q E h => ?_) (fun cdv A outer s H vs Q E hr h => ?_)
  · obtain ⟨a, r, ws, rfl, _⟩ := h
    rfl
  obtain ⟨a, r, ws, rfl, x, q⟩ := h
  refine ⟨_, (pss_cons (ps_if (pt_inS (pe_xfld (pv 0)) (pa_cons pe_str (pa_cons pe_str (pa_cons pe_str pa_nil))) (texT_cons (texT_cons (texT_cons texT_nil)))) (pss_one (ps_ret (pe_lst (pa_cons (pe_xfld (pv 0)) pa_nil)))) pss_nil)
    (pss_cons (ps_if (pt_inS (pe_xfld (pv 0)) (pa_cons pe_str pa_nil) (texT_cons texT_nil)) (pss_one (ps_ret (pe_lst (pa_cons (pe_xfld (pv 0)) (pa_cons (pe_xfld (pv 0)) (pa_cons (pe_xfld (pv 0)) pa_nil)))))) pss_nil)
    (pss_cons (ps_if (pt_inS (pe_xfld (pv 0)) (pa_cons pe_str (pa_cons pe_str pa_nil)) (texT_cons (texT_cons texT_nil))) (pss_one (ps_ret (pe_lst (pa_cons (pe_xfld (pv 0)) pa_nil)))) pss_nil)
    (pss_cons (ps_if (pt_inS (pe_xfld (pv 0)) (pa_cons pe_str (pa_cons pe_str (pa_cons pe_str pa_nil))) (texT_cons (texT_cons (texT_cons texT_nil)))) (pss_one (ps_ret (pe_lst (pa_cons (pe_xfld (pv 0)) pa_nil)))) pss_nil)
    (pss_cons (ps_if (pt_inS (pe_xfld (pv 0)) (pa_cons pe_str pa_nil) (texT_cons texT_nil)) (pss_one (ps_ret (pe_lst (pa_cons (pe_xfld (pv 0)) (pa_cons (pe_xfld (pv 0)) (pa_cons (pe_xfld (pv 0)) pa_nil)))))) pss_nil)
    (pss_cons (ps_if (pt_inS (pe_xfld (pv 0)) (pa_cons pe_str pa_nil) (texT_cons texT_nil)) (pss_one (ps_ret (pe_lst (pa_cons (pe_xfld (pv 0)) (pa_cons (pe_xfld (pv 0)) (pa_cons (pe_xfld (pv 0)) (pa_cons (pe_xfld (pv 0)) pa_nil))))))) pss_nil)
    (pss_cons (ps_if (pt_inS (pe_xfld (pv 0)) (pa_cons pe_str (pa_cons pe_str (pa_cons pe_str (pa_cons pe_str pa_nil)))) (texT_cons (texT_cons (texT_cons (texT_cons texT_nil))))) (pss_one (ps_ret (pe_lst (pa_cons (pe_xfld (pv 0)) pa_nil)))) pss_nil)
    (pss_cons (ps_if (pt_inS (pe_xfld (pv 0)) (pa_cons pe_str (pa_cons pe_str (pa_cons pe_str pa_nil))) (texT_cons (texT_cons (texT_cons texT_nil)))) (pss_one (ps_ret (pe_lst (pa_cons (pe_xfld (pv 0)) pa_nil)))) pss_nil)
    (pss_cons (ps_if (pt_inS (pe_xfld (pv 0)) (pa_cons pe_str pa_nil) (texT_cons texT_nil)) (pss_one (ps_ret (pe_lst (pa_cons (pe_xfld (pv 0)) pa_nil)))) pss_nil)
    (pss_cons (ps_if (pt_inS (pe_xfld (pv 0)) (pa_cons pe_str (pa_cons pe_str pa_nil)) (texT_cons (texT_cons texT_nil))) (pss_one (ps_ret (pe_lst (pa_cons (pe_xfld (pv 0)) (pa_cons (pe_xfld (pv 0)) pa_nil))))) pss_nil)
    (pss_cons (ps_if (pt_inS (pe_xfld (pv 0)) (pa_cons pe_str (pa_cons pe_str (pa_cons pe_str (pa_cons pe_str pa_nil)))) (texT_cons (texT_cons (texT_cons (texT_cons texT_nil))))) (pss_one (ps_ret (pe_lst (pa_cons (pe_xfld (pv 0)) pa_nil)))) pss_nil)
    (pss_cons (ps_if (pt_inS (pe_xfld (pv 0)) (pa_cons pe_str pa_nil) (texT_cons texT_nil)) (pss_one (ps_ret (pe_lst (pa_cons (pe_xfld (pv 0)) pa_nil)))) pss_nil)
    (pss_cons (ps_if (pt_inS (pe_xfld (pv 0)) (pa_cons pe_str (pa_cons pe_str (pa_cons pe_str (pa_cons pe_str pa_nil)))) (texT_cons (texT_cons (texT_cons (texT_cons texT_nil))))) (pss_one (ps_ret (pe_lst (pa_cons (pe_xfld (pv 0)) pa_nil)))) pss_nil)
    (pss_cons (ps_if (pt_inS (pe_xfld (pv 0)) (pa_cons pe_str (pa_cons pe_str (pa_cons pe_str (pa_cons pe_str pa_nil)))) (texT_cons (texT_cons (texT_cons (texT_cons texT_nil))))) (pss_one (ps_ret (pe_lst (pa_cons (pe_xfld (pv 0)) pa_nil)))) pss_nil)
    (pss_cons (ps_if (pt_inS (pe_xfld (pv 0)) (pa_cons pe_str pa_nil) (texT_cons texT_nil)) (pss_one (ps_ret (pe_lst (pa_cons (pe_xfld (pv 0)) pa_nil)))) pss_nil)
    (pss_cons (ps_if (pt_inS (pe_xfld (pv 0)) (pa_cons pe_str pa_nil) (texT_cons texT_nil)) (pss_one (ps_ret (pe_lst (pa_cons (pe_xfld (pv 0)) pa_nil)))) pss_nil)
    (pss_cons (ps_if (pt_inS (pe_xfld (pv 0)) (pa_cons pe_str pa_nil) (texT_cons texT_nil)) (pss_one (ps_ret (pe_lst (pa_cons (pe_xfld (pv 0)) pa_nil)))) pss_nil)
    (pss_cons (ps_if (pt_inS (pe_xfld (pv 0)) (pa_cons pe_str pa_nil) (texT_cons texT_nil)) (pss_one (ps_ret (pe_lst (pa_cons (pe_xfld (pv 0)) pa_nil)))) pss_nil)
    (pss_one (ps_ret (pe_lst pa_nil))))))))))))))))))))), ?_⟩
  have F := (U.mem x.m).T
  have code := F.no _ (.head _)
  have s0 : Same H H := Same.refl H
  refine ⟨_, rfl, a, _, _, _, rfl, F.cls, code, x.v.same s0, x.code, r.1, rfl, fun H1 t1 => ite2 (fun c => ?_) (fun c0 => ?_)⟩
  · have s := s0.trans t1
    have e := names_0 x.m c
    obtain ⟨y, ns, b⟩ := r
    have e2 : ns = [("value" : Str)] := e
    subst e2
    match ws, x.l with
    | [w1], _ =>
    refine ⟨_, rfl, a, _, _, w1, rfl, F.cls, F.no _ (.tail _ (.head _)), x.v.same s, (by first | rfl | simp [flds, List.lookup]), ?_⟩
    exact ⟨(by show 1 ≤ sizeLine; decide), fun p np => q _ p (s.trans (same_new np _)) upd_same⟩
  have s1 := s0.trans t1
  refine ⟨_, rfl, a, _, _, _, rfl, F.cls, code, x.v.same s1, x.code, r.1, rfl, fun H2 t2 => ite2 (fun c => ?_) (fun c1 => ?_)⟩
  · have s := s1.trans t2
    have e := names_1 x.m c
    obtain ⟨y, ns, b⟩ := r
    have e2 : ns = [("line" : Str), ("place" : Str), ("why" : Str)] := e
    subst e2
    match ws, x.l with
    | [w1, w2, w3], _ =>
    refine ⟨_, rfl, a, _, _, w1, rfl, F.cls, F.no _ (.tail _ (.head _)), x.v.same s, (by first | rfl | simp [flds, List.lookup]), ?_⟩
    refine ⟨_, rfl, a, _, _, w2, rfl, F.cls, F.no _ (.tail _ (.tail _ (.head _))), x.v.same s, (by first | rfl | simp [flds, List.lookup]), ?_⟩
    refine ⟨_, rfl, a, _, _, w3, rfl, F.cls, F.no _ (.tail _ (.tail _ (.tail _ (.head _)))), x.v.same s, (by first | rfl | simp [flds, List.lookup]), ?_⟩
    exact ⟨(by show 3 ≤ sizeLine; decide), fun p np => q _ p (s.trans (same_new np _)) upd_same⟩
  have s2 := s1.trans t2
  refine ⟨_, rfl, a, _, _, _, rfl, F.cls, code, x.v.same s2, x.code, r.1, rfl, fun H3 t3 => ite2 (fun c => ?_) (fun c2 => ?_)⟩
  · have s := s2.trans t3
    have e := names_2 x.m c
    obtain ⟨y, ns, b⟩ := r
    have e2 : ns = [("name" : Str)] := e
    subst e2
    match ws, x.l with
    | [w1], _ =>
    refine ⟨_, rfl, a, _, _, w1, rfl, F.cls, F.no _ (.tail _ (.head _)), x.v.same s, (by first | rfl | simp [flds, List.lookup]), ?_⟩
    exact ⟨(by show 1 ≤ sizeLine; decide), fun p np => q _ p (s.trans (same_new np _)) upd_same⟩
  have s3 := s2.trans t3
  refine ⟨_, rfl, a, _, _, _, rfl, F.cls, code, x.v.same s3, x.code, r.1, rfl, fun H4 t4 => ite2 (fun c => ?_) (fun c3 => ?_)⟩
  · have s := s3.trans t4
    have e := names_3 x.m c
    obtain ⟨y, ns, b⟩ := r
    have e2 : ns = [("use" : Str)] := e
    subst e2
    match ws, x.l with
    | [w1], _ =>
    refine ⟨_, rfl, a, _, _, w1, rfl, F.cls, F.no _ (.tail _ (.head _)), x.v.same s, (by first | rfl | simp [flds, List.lookup]), ?_⟩
    exact ⟨(by show 1 ≤ sizeLine; decide), fun p np => q _ p (s.trans (same_new np _)) upd_same⟩
  have s4 := s3.trans t4
  refine ⟨_, rfl, a, _, _, _, rfl, F.cls, code, x.v.same s4, x.code, r.1, rfl, fun H5 t5 => ite2 (fun c => ?_) (fun c4 => ?_)⟩
  · have s := s4.trans t5
    have e := names_4 x.m c
    obtain ⟨y, ns, b⟩ := r
    have e2 : ns = [("first" : Str), ("second" : Str), ("block" : Str)] := e
    subst e2
    match ws, x.l with
    | [w1, w2, w3], _ =>
    refine ⟨_, rfl, a, _, _, w1, rfl, F.cls, F.no _ (.tail _ (.head _)), x.v.same s, (by first | rfl | simp [flds, List.lookup]), ?_⟩
    refine ⟨_, rfl, a, _, _, w2, rfl, F.cls, F.no _ (.tail _ (.tail _ (.head _))), x.v.same s, (by first | rfl | simp [flds, List.lookup]), ?_⟩
    refine ⟨_, rfl, a, _, _, w3, rfl, F.cls, F.no _ (.tail _ (.tail _ (.tail _ (.head _)))), x.v.same s, (by first | rfl | simp [flds, List.lookup]), ?_⟩
    exact ⟨(by show 3 ≤ sizeLine; decide), fun p np => q _ p (s.trans (same_new np _)) upd_same⟩
  have s5 := s4.trans t5
  refine ⟨_, rfl, a, _, _, _, rfl, F.cls, code, x.v.same s5, x.code, r.1, rfl, fun H6 t6 => ite2 (fun c => ?_) (fun c5 => ?_)⟩
  · have s := s5.trans t6
    have e := names_5 x.m c
    obtain ⟨y, ns, b⟩ := r
    have e2 : ns = [("use" : Str), ("own" : Str), ("other" : Str), ("block" : Str)] := e
    subst e2
    match ws, x.l with
    | [w1, w2, w3, w4], _ =>
    refine ⟨_, rfl, a, _, _, w1, rfl, F.cls, F.no _ (.tail _ (.head _)), x.v.same s, (by first | rfl | simp [flds, List.lookup]), ?_⟩
    refine ⟨_, rfl, a, _, _, w2, rfl, F.cls, F.no _ (.tail _ (.tail _ (.head _))), x.v.same s, (by first | rfl | simp [flds, List.lookup]), ?_⟩
    refine ⟨_, rfl, a, _, _, w3, rfl, F.cls, F.no _ (.tail _ (.tail _ (.tail _ (.head _)))), x.v.same s, (by first | rfl | simp [flds, List.lookup]), ?_⟩
    refine ⟨_, rfl, a, _, _, w4, rfl, F.cls, F.no _ (.tail _ (.tail _ (.tail _ (.tail _ (.head _))))), x.v.same s, (by first | rfl | simp [flds, List.lookup]), ?_⟩
    exact ⟨(by show 4 ≤ sizeLine; decide), fun p np => q _ p (s.trans (same_new np _)) upd_same⟩
  have s6 := s5.trans t6
  refine ⟨_, rfl, a, _, _, _, rfl, F.cls, code, x.v.same s6, x.code, r.1, rfl, fun H7 t7 => ite2 (fun c => ?_) (fun c6 => ?_)⟩
  · have s := s6.trans t7
    have e := names_6 x.m c
    obtain ⟨y, ns, b⟩ := r
    have e2 : ns = [("at" : Str)] := e
    subst e2
    match ws, x.l with
    | [w1], _ =>
    refine ⟨_, rfl, a, _, _, w1, rfl, F.cls, F.no _ (.tail _ (.head _)), x.v.same s, (by first | rfl | simp [flds, List.lookup]), ?_⟩
    exact ⟨(by show 1 ≤ sizeLine; decide), fun p np => q _ p (s.trans (same_new np _)) upd_same⟩
  have s7 := s6.trans t7
  refine ⟨_, rfl, a, _, _, _, rfl, F.cls, code, x.v.same s7, x.code, r.1, rfl, fun H8 t8 => ite2 (fun c => ?_) (fun c7 => ?_)⟩
  · have s := s7.trans t8
    have e := names_7 x.m c
    obtain ⟨y, ns, b⟩ := r
    have e2 : ns = [("declaration" : Str)] := e
    subst e2
    match ws, x.l with
    | [w1], _ =>
    refine ⟨_, rfl, a, _, _, w1, rfl, F.cls, F.no _ (.tail _ (.head _)), x.v.same s, (by first | rfl | simp [flds, List.lookup]), ?_⟩
    exact ⟨(by show 1 ≤ sizeLine; decide), fun p np => q _ p (s.trans (same_new np _)) upd_same⟩
  have s8 := s7.trans t8
  refine ⟨_, rfl, a, _, _, _, rfl, F.cls, code, x.v.same s8, x.code, r.1, rfl, fun H9 t9 => ite2 (fun c => ?_) (fun c8 => ?_)⟩
  · have s := s8.trans t9
    have e := names_8 x.m c
    obtain ⟨y, ns, b⟩ := r
    have e2 : ns = [("most" : Str)] := e
    subst e2
    match ws, x.l with
    | [w1], _ =>
    refine ⟨_, rfl, a, _, _, w1, rfl, F.cls, F.no _ (.tail _ (.head _)), x.v.same s, (by first | rfl | simp [flds, List.lookup]), ?_⟩
    exact ⟨(by show 1 ≤ sizeLine; decide), fun p np => q _ p (s.trans (same_new np _)) upd_same⟩
  have s9 := s8.trans t9
  refine ⟨_, rfl, a, _, _, _, rfl, F.cls, code, x.v.same s9, x.code, r.1, rfl, fun H10 t10 => ite2 (fun c => ?_) (fun c9 => ?_)⟩
  · have s := s9.trans t10
    have e := names_9 x.m c
    obtain ⟨y, ns, b⟩ := r
    have e2 : ns = [("first" : Str), ("second" : Str)] := e
    subst e2
    match ws, x.l with
    | [w1, w2], _ =>
    refine ⟨_, rfl, a, _, _, w1, rfl, F.cls, F.no _ (.tail _ (.head _)), x.v.same s, (by first | rfl | simp [flds, List.lookup]), ?_⟩
    refine ⟨_, rfl, a, _, _, w2, rfl, F.cls, F.no _ (.tail _ (.tail _ (.head _))), x.v.same s, (by first | rfl | simp [flds, List.lookup]), ?_⟩
    exact ⟨(by show 2 ≤ sizeLine; decide), fun p np => q _ p (s.trans (same_new np _)) upd_same⟩
  have s10 := s9.trans t10
  refine ⟨_, rfl, a, _, _, _, rfl, F.cls, code, x.v.same s10, x.code, r.1, rfl, fun H11 t11 => ite2 (fun c => ?_) (fun c10 => ?_)⟩
  · have s := s10.trans t11
    have e := names_10 x.m c
    obtain ⟨y, ns, b⟩ := r
    have e2 : ns = [("row" : Str)] := e
    subst e2
    match ws, x.l with
    | [w1], _ =>
    refine ⟨_, rfl, a, _, _, w1, rfl, F.cls, F.no _ (.tail _ (.head _)), x.v.same s, (by first | rfl | simp [flds, List.lookup]), ?_⟩
    exact ⟨(by show 1 ≤ sizeLine; decide), fun p np => q _ p (s.trans (same_new np _)) upd_same⟩
  have s11 := s10.trans t11
  refine ⟨_, rfl, a, _, _, _, rfl, F.cls, code, x.v.same s11, x.code, r.1, rfl, fun H12 t12 => ite2 (fun c => ?_) (fun c11 => ?_)⟩
  · have s := s11.trans t12
    have e := names_11 x.m c
    obtain ⟨y, ns, b⟩ := r
    have e2 : ns = [("block" : Str)] := e
    subst e2
    match ws, x.l with
    | [w1], _ =>
    refine ⟨_, rfl, a, _, _, w1, rfl, F.cls, F.no _ (.tail _ (.head _)), x.v.same s, (by first | rfl | simp [flds, List.lookup]), ?_⟩
    exact ⟨(by show 1 ≤ sizeLine; decide), fun p np => q _ p (s.trans (same_new np _)) upd_same⟩
  have s12 := s11.trans t12
  refine ⟨_, rfl, a, _, _, _, rfl, F.cls, code, x.v.same s12, x.code, r.1, rfl, fun H13 t13 => ite2 (fun c => ?_) (fun c12 => ?_)⟩
  · have s := s12.trans t13
    have e := names_12 x.m c
    obtain ⟨y, ns, b⟩ := r
    have e2 : ns = [("person" : Str)] := e
    subst e2
    match ws, x.l with
    | [w1], _ =>
    refine ⟨_, rfl, a, _, _, w1, rfl, F.cls, F.no _ (.tail _ (.head _)), x.v.same s, (by first | rfl | simp [flds, List.lookup]), ?_⟩
    exact ⟨(by show 1 ≤ sizeLine; decide), fun p np => q _ p (s.trans (same_new np _)) upd_same⟩
  have s13 := s12.trans t13
  refine ⟨_, rfl, a, _, _, _, rfl, F.cls, code, x.v.same s13, x.code, r.1, rfl, fun H14 t14 => ite2 (fun c => ?_) (fun c13 => ?_)⟩
  · have s := s13.trans t14
    have e := names_13 x.m c
    obtain ⟨y, ns, b⟩ := r
    have e2 : ns = [("attribute" : Str)] := e
    subst e2
    match ws, x.l with
    | [w1], _ =>
    refine ⟨_, rfl, a, _, _, w1, rfl, F.cls, F.no _ (.tail _ (.head _)), x.v.same s, (by first | rfl | simp [flds, List.lookup]), ?_⟩
    exact ⟨(by show 1 ≤ sizeLine; decide), fun p np => q _ p (s.trans (same_new np _)) upd_same⟩
  have s14 := s13.trans t14
  refine ⟨_, rfl, a, _, _, _, rfl, F.cls, code, x.v.same s14, x.code, r.1, rfl, fun H15 t15 => ite2 (fun c => ?_) (fun c14 => ?_)⟩
  · have s := s14.trans t15
    have e := names_14 x.m c
    obtain ⟨y, ns, b⟩ := r
    have e2 : ns = [("fault" : Str)] := e
    subst e2
    match ws, x.l with
    | [w1], _ =>
    refine ⟨_, rfl, a, _, _, w1, rfl, F.cls, F.no _ (.tail _ (.head _)), x.v.same s, (by first | rfl | simp [flds, List.lookup]), ?_⟩
    exact ⟨(by show 1 ≤ sizeLine; decide), fun p np => q _ p (s.trans (same_new np _)) upd_same⟩
  have s15 := s14.trans t15
  refine ⟨_, rfl, a, _, _, _, rfl, F.cls, code, x.v.same s15, x.code, r.1, rfl, fun H16 t16 => ite2 (fun c => ?_) (fun c15 => ?_)⟩
  · have s := s15.trans t16
    have e := names_15 x.m c
    obtain ⟨y, ns, b⟩ := r
    have e2 : ns = [("line" : Str)] := e
    subst e2
    match ws, x.l with
    | [w1], _ =>
    refine ⟨_, rfl, a, _, _, w1, rfl, F.cls, F.no _ (.tail _ (.head _)), x.v.same s, (by first | rfl | simp [flds, List.lookup]), ?_⟩
    exact ⟨(by show 1 ≤ sizeLine; decide), fun p np => q _ p (s.trans (same_new np _)) upd_same⟩
  have s16 := s15.trans t16
  refine ⟨_, rfl, a, _, _, _, rfl, F.cls, code, x.v.same s16, x.code, r.1, rfl, fun H17 t17 => ite2 (fun c => ?_) (fun c16 => ?_)⟩
  · have s := s16.trans t17
    have e := names_16 x.m c
    obtain ⟨y, ns, b⟩ := r
    have e2 : ns = [("thing" : Str)] := e
    subst e2
    match ws, x.l with
    | [w1], _ =>
    refine ⟨_, rfl, a, _, _, w1, rfl, F.cls, F.no _ (.tail _ (.head _)), x.v.same s, (by first | rfl | simp [flds, List.lookup]), ?_⟩
    exact ⟨(by show 1 ≤ sizeLine; decide), fun p np => q _ p (s.trans (same_new np _)) upd_same⟩
  have s17 := s16.trans t17
  refine ⟨_, rfl, a, _, _, _, rfl, F.cls, code, x.v.same s17, x.code, r.1, rfl, fun H18 t18 => ite2 (fun c => ?_) (fun c17 => ?_)⟩
  · have s := s17.trans t18
    have e := names_17 x.m c
    obtain ⟨y, ns, b⟩ := r
    have e2 : ns = [("number" : Str)] := e
    subst e2
    match ws, x.l with
    | [w1], _ =>
    refine ⟨_, rfl, a, _, _, w1, rfl, F.cls, F.no _ (.tail _ (.head _)), x.v.same s, (by first | rfl | simp [flds, List.lookup]), ?_⟩
    exact ⟨(by show 1 ≤ sizeLine; decide), fun p np => q _ p (s.trans (same_new np _)) upd_same⟩
  have s18 := s17.trans t18
  have e := names_none x.m c0 c1 c2 c3 c4 c5 c6 c7 c8 c9 c10 c11 c12 c13 c14 c15 c16 c17
  have e2 : ws = [] := List.length_eq_zero_iff.mp (by rw [x.l, e]; rfl)
  subst e2
  exact ⟨(by show 0 ≤ sizeLine; decide), fun p np => q _ p (s18.trans (same_new np _)) upd_same⟩
end
end Kx
/-! part ExI -/
/-! displays of data: what they make is alike to itself, and leans on nothing that stood before -/
namespace My
open PySem PySem.Spec PyProof.Rows L2
def hide (H : Hp) (D : Addr) : Hp := fun b => if b = D then none else H b
theorem hide_ne {H : Hp} {D b : Addr} (h : b ≠ D) : hide H D b = H b := if_neg h
theorem hide_less {H : Hp} {D : Addr} : Same (hide H D) H := fun b o e => by
  unfold hide at e
  split at e
  · cases e
  · exact e
theorem hide_same {H H' : Hp} {D : Addr} (s : ∀ b o, b ≠ D → H b = some o → H' b = some o) : Same (hide H D) (hide H' D) := fun b o e => by
  by_cases hb : b = D
  · subst hb
    unfold hide at e
    rw [if_pos rfl] at e
    cases e
  · rw [hide_ne hb] at e ⊢
    exact s b o hb e
/-- v is data, alike to itself, that leans on nothing of H0 -/
def SelfAt (K : PySem.W.Frag) (H0 H : Hp) (n : Nat) (v : V) : Prop := Eqv K H n v v ∧ ∀ D, H0 D ≠ none → Eqv K (hide H D) n v v
theorem SelfAt.same {K : PySem.W.Frag} {H0 H H' : Hp} {n : Nat} {v : V} (h : SelfAt K H0 H n v) (s : Same H H') : SelfAt K H0 H' n v := ⟨h.1.same s, fun D d => (h.2 D d).same (hide_same fun b o _ => s b o)⟩
theorem SelfAt.less {K : PySem.W.Frag} {H0 H1 H : Hp} {n : Nat} {v : V} (h : SelfAt K H1 H n v) (s : Same H0 H1) : SelfAt K H0 H n v := ⟨h.1, fun D d => h.2 D fun z => by
  cases e : H0 D with
  | none => exact d e
  | some o => rw [s D o e] at z; cases z⟩
def tSelf (K : PySem.W.Frag) (n : Nat) : TE := fun σ H Q => ∀ H' v, Same H H' → SelfAt K H H' n v → Q v H'
def taSelf (K : PySem.W.Frag) (n k : Nat) : TA := fun σ H Q => ∀ H' vs, Same H H' → vs.length = k → (∀ v ∈ vs, SelfAt K H H' n v) → Q vs H'
theorem eqv_items {K : PySem.W.Frag} {H : Hp} {n : Nat} {vs : List V} (h : ∀ v ∈ vs, Eqv K H n v v) : ∀ (i : Nat) (x y : V), vs[i]? = some x → vs[i]? = some y → Eqv K H n x y := fun i x y hx hy => by
  rw [hx] at hy
  cases hy
  exact h x (List.mem_of_getElem? hx)
theorem self_scal {K : PySem.W.Frag} {H0 H : Hp} {n : Nat} {v : V} (sc : scalV v = true) : SelfAt K H0 H (n + 1) v := ⟨.inl ⟨rfl, sc⟩, fun _ _ => .inl ⟨rfl, sc⟩⟩
theorem self_new {K : PySem.W.Frag} {H0 H : Hp} {n : Nat} {vs : List V} {p : Addr} {o : HO} (np : H p = none) (s : Same H0 H) (z2 : vs.length < sizeLine) (ho : o = .tup vs ∨ o = .lst vs) (e : ∀ v ∈ vs, SelfAt K H0 H n v) : SelfAt K H0 (upd H p o) (n + 1) (.ref p) := by
  have s2 := same_new np o
  have gen : ∀ G : Hp, G p = some o → (∀ v ∈ vs, Eqv K G n v v) → Eqv K G (n + 1) (.ref p) (.ref p) := fun G g k => by
    rcases ho with rfl | rfl
    · exact .inr (.inr ⟨p, p, vs, vs, rfl, rfl, .inl (.inl g), .inl (.inl g), rfl, z2, eqv_items k⟩)
    · exact .inr (.inl ⟨p, p, vs, vs, rfl, rfl, .inl (.inl g), .inl (.inl g), rfl, z2, eqv_items k⟩)
  refine ⟨gen _ upd_same fun v hv => (e v hv).1.same s2, fun D d => ?_⟩
  have pD : p ≠ D := fun z => by
    subst z
    exact d (by cases q : H0 p with | none => rfl | some o => rw [s p o q] at np; cases np)
  exact gen _ (by rw [hide_ne pD]; exact upd_same) fun v hv => ((e v hv).same s2).2 D d
section
variable {X : Cx} {e : Expr} {es : List Expr} {n k : Nat} {pos : Pos}
theorem self_c {v : V} (h : PE X e (tC v)) (sc : scalV v = true) : PE X e (tSelf X.K (n + 1)) := PE.imp h fun σ H Q q => q H v (Same.refl H) (self_scal sc)
theorem self_neg {i : Int} (h : PE X e (tUn (fun x H Q => ∃ i, x = .int i ∧ Q (.int (-i)) H) (tC (.int i)))) : PE X e (tSelf X.K (n + 1)) := PE.imp h fun σ H Q q => ⟨i, rfl, q H _ (Same.refl H) (self_scal rfl)⟩
theorem self_nil : PA X [] (taSelf X.K n 0) := PA.imp pa_nil fun σ H Q q => q H [] (Same.refl H) rfl fun v h => nomatch h
theorem self_cons (he : PE X e (tSelf X.K n)) (hr : PA X es (taSelf X.K n k)) (hs : starEach (e :: es) X.env = (false, eval e X.env) :: starEach es X.env := by rfl) : PA X (e :: es) (taSelf X.K n (k + 1)) :=
  PA.imp (pa_cons he hr hs) fun σ H Q q H1 v s1 e1 H2 vs s2 l e2 => q H2 (v :: vs) (s1.trans s2) (by rw [List.length_cons, l]) fun u hu => by
    rcases List.mem_cons.mp hu with z | z
    · rw [z]
      exact e1.same s2
    · exact (e2 u z).less s1
theorem self_tup {x1} (h : PA X es (taSelf X.K n k)) (few : k ≤ 1000 := by decide) : PE X (.Tuple es x1 pos) (tSelf X.K (n + 1)) :=
  PE.imp (pe_tup h) fun σ H Q q H1 vs s l e => by
    refine ⟨by rw [l]; exact small63 few, fun p np => ?_⟩
    exact q _ _ (s.trans (same_new np _)) (self_new np s (by rw [l]; exact small1000 few) (.inl rfl) e)
theorem self_lst (h : PA X es (taSelf X.K n k)) (few : k ≤ 1000 := by decide) : PE X (.List es pos) (tSelf X.K (n + 1)) :=
  PE.imp (pe_lst h) fun σ H Q q H1 vs s l e => by
    refine ⟨by rw [l]; exact small63 few, fun p np => ?_⟩
    exact q _ _ (s.trans (same_new np _)) (self_new np s (by rw [l]; exact small1000 few) (.inr rfl) e)
end
theorem k_self {X : Cx} {e : Expr} {n : Nat} (K : PySem.W.Frag) (h : PE X e (tSelf X.K n)) (hk : X.K = K := by rfl) : PE X e (tSelf K n) := by
  subst hk
  exact h
theorem eqv_up {K : PySem.W.Frag} {H : Hp} {n m : Nat} {v w : V} (h : Eqv K H n v w) (k : n ≤ m) : Eqv K H m v w := by
  induction k with
  | refl => exact h
  | step _ ih =>
    have up : ∀ {n : Nat} {v w : V}, Eqv K H n v w → Eqv K H (n + 1) v w := by
      intro n
      induction n with
      | zero => intro v w h; exact h.elim
      | succ n ih => intro v w h; exact h.imp id (Or.imp (fun ⟨a, b, xs, ys, e1, e2, h1, h2, h3, h4, h5⟩ => ⟨a, b, xs, ys, e1, e2, h1, h2, h3, h4, fun i x y hx hy => ih (h5 i x y hx hy)⟩) fun ⟨a, b, xs, ys, e1, e2, h1, h2, h3, h4, h5⟩ => ⟨a, b, xs, ys, e1, e2, h1, h2, h3, h4, fun i x y hx hy => ih (h5 i x y hx hy)⟩)
    exact up ih
def spSelf (K : PySem.W.Frag) (n : Nat) : Sp := fun vs H Q _ => vs = [] ∧ ∀ H' v, Same H H' → SelfAt K H H' n v → Q v H'
def spSelfB (K : PySem.W.Frag) (n : Nat) : Sp := fun vs H Q _ => ∃ b, vs = [.ref b] ∧ IsBag H b ∧ ∀ H' v, Same H H' → SelfAt K H H' n v → Q v H'
end My
/-! part K00i -/
namespace Kx
open PySem PySem.Spec PyProof.Rows L2 My
section
variable {P : Program} {w : World} {K : PySem.W.Frag} {mg : Str → Option Value} {base : Heap} (T : Tx K mg)
theorem ok_nest : FnOk P w K mg base CX0 1 T.f__law_nest T.d__law_nest [] (spSelf K 5) := by
  refine T.F__law_nest.ok sc__law_nest (fun vs H Q E h => ?_) (fun cdv A outer s H vs Q E hr h => ?_)
  · obtain ⟨rfl, _⟩ := h
    rfl
  obtain ⟨rfl, q⟩ := h
  refine ⟨_, (pss_one (ps_ret (self_tup (n := 4) (self_cons (self_tup (self_cons (self_tup (self_cons (self_tup (self_cons (self_c pe_str rfl) self_nil)) self_nil)) self_nil)) self_nil)))), ?_⟩
  exact q
theorem ok_odd : FnOk P w K mg base CX0 3 T.f__law_odd T.d__law_odd ["_law_bag_here"] (spSelfB K 5) := by
  have G__law_nest := ok_nest (P := P) (w := w) (base := base) T
  have G__law_of := ok_of (P := P) (w := w) (base := base) T
  refine T.F__law_odd.ok sc__law_odd (fun vs H Q E h => ?_) (fun cdv A outer s H vs Q E hr h => ?_)
  · obtain ⟨b, rfl, _⟩ := h
    rfl
  obtain ⟨b, rfl, hb, q⟩ := h
  refine ⟨_, (pss_one (ps_ret (pe_call G__law_of (hr.mono (by decide)) (by rfl) T.g__law_of T.F__law_of.kp T.b__law_of .nil pass0 (pa_cons (pv 0) (pa_cons (pe_lst (self_cons (n := 5) (self_c pe_non rfl) (self_cons (self_c pe_bl rfl) (self_cons (self_c pe_bl rfl) (self_cons (self_c pe_int rfl) (self_cons (self_neg (pe_un un_neg pe_int)) (self_cons (self_c pe_str rfl) (self_cons (self_c pe_str rfl) (self_cons (self_c pe_str rfl) (self_cons (self_c pe_str rfl) (self_cons (self_tup self_nil) (self_cons (self_tup (self_cons (self_c pe_str rfl) (self_cons (self_neg (pe_un un_neg pe_int)) self_nil))) (self_cons (self_tup (self_cons (self_c pe_str rfl) (self_cons (self_c pe_int rfl) self_nil))) (self_cons (self_lst (self_cons (self_c pe_str rfl) (self_cons (self_c pe_int rfl) self_nil))) (self_cons (self_tup (self_cons (self_c pe_str rfl) (self_cons (self_c pe_bl rfl) self_nil))) (self_cons (self_tup (self_cons (self_c pe_str rfl) (self_cons (self_c pe_int rfl) (self_cons (self_c pe_int rfl) self_nil)))) (self_cons (PE.imp (pe_call0 G__law_nest (hr.mono (by decide)) (by rfl) T.g__law_nest T.F__law_nest.kp T.b__law_nest .nil pass0) fun σ H Q q => ⟨rfl, q⟩) self_nil))))))))))))))))) pa_nil))))), ?_⟩
  refine ⟨_, rfl, fun H1 vs s1 l e => ⟨by rw [l]; decide, fun p np => ?_⟩⟩
  have s2 := s1.trans (same_new np (.lst vs))
  refine ⟨b, p, vs, rfl, hb.same s2, .inl (.inl upd_same), by rw [l]; decide, by rw [l]; decide, fun i v hv => ?_⟩
  exact q _ _ s2 ((e v (List.mem_of_getElem? hv)).same (same_new np _))
end
end Kx
/-! part KitL -/
namespace My
open PySem PySem.Spec PyProof.Rows L2
section
variable {J : It} {n : Nat} {G : Hp → Prop} {Y : Nat → Hp → V → Hp → Prop} {g : TG} {tt : TT} {te : TE} {vs : List Nat} {σ : L2.St} {H1 : Hp} {D : Addr} {Qd : Hp → Prop}
/-- a comprehension whose items are only known to be Ok; D holds a list meanwhile -/
theorem lc_relD (w : Walk J n G Y) (Ok : Nat → V → Hp → Prop) (small : n < sizeLine) (nD : H1 D = none) (hG : ∀ H', Same H1 H' → G H') (mono : ∀ i y H H', (∀ b o, b ≠ D → H b = some o → H' b = some o) → Ok i y H → Ok i y H')
    (hs : ∀ (i : Nat) (x : V) (H H' : Hp) (R : V → Hp → Prop) (Rn : Hp → Prop), i < n → Same H1 H → (∃ zs, H D = some (.lst zs)) → Y i H x H' → (∀ y H4, Same H H4 → Ok i y H4 → R y H4) →
      g x (wipe σ vs) H' fun σ2 H2 => wipe σ2 vs = wipe σ vs ∧ tt σ2 H2 fun b H3 => if b = true then te σ2 H3 R else Rn H3)
    (hd : ∀ H' ys, Same H1 H' → ys.length = n → (∀ i y, ys[i]? = some y → Ok i y H') → H' D = some (.lst ys) → Qd H') :
    ∃ W : Nat → Nat → Hp → Prop, (∃ m, W 0 m (upd H1 D (.lst []))) ∧ ∀ i m H, W i m H →
      (J.stop i H ∧ Qd H) ∨ (J.go i H ∧ ∃ Nx : Hp → Prop, (∀ H', Nx H' → ∃ m', m' < m ∧ W (i + 1) m' H') ∧ ∀ x H', J.yld i H x H' → g x (wipe σ vs) H' fun σ2 H2 => wipe σ2 vs = wipe σ vs ∧ tt σ2 H2 fun b H3 =>
        if b = true then te σ2 H3 fun y H4 => ∃ acc, H4 D = some (.lst acc) ∧ acc.length < sizeLine ∧ Nx (upd H4 D (.lst (acc ++ [y]))) else Nx H3) := by
  refine lc_it w (fun i H => Same H1 H ∧ ∃ ys : List V, ys.length = i ∧ (∀ k y, ys[k]? = some y → Ok k y H) ∧ H D = some (.lst ys)) ?_ (fun i H _ p => hG H p.1) (fun i x H H' hi p y => ?_) (fun H p => ?_)
  · exact ⟨same_new nD _, [], rfl, fun k y h => by simp at h, upd_same⟩
  · obtain ⟨s1, ys, rfl, ok, e⟩ := p
    refine hs ys.length x H H' _ _ hi s1 ⟨_, e⟩ y fun z H4 s o4 => ?_
    refine ⟨_, s _ _ e, Nat.lt_trans hi small, fun b o q => ?_, ys ++ [z], by rw [List.length_append, List.length_singleton], fun k u hu => ?_, upd_same⟩
    · rw [upd_ne (ne_of_none q nD)]
      exact s _ _ (s1 _ _ q)
    · have back : ∀ b o, b ≠ D → H4 b = some o → upd H4 D (.lst (ys ++ [z])) b = some o := fun b o hb q => by rw [upd_ne hb]; exact q
      by_cases hk : k < ys.length
      · rw [List.getElem?_append_left hk] at hu
        exact mono k u _ _ back (mono k u _ _ (fun b o _ q => s b o q) (ok k u hu))
      · rw [List.getElem?_append_right (by omega)] at hu
        have k0 : k = ys.length := by
          have := (List.getElem?_eq_some_iff.mp hu).1
          rw [List.length_singleton] at this
          omega
        subst k0
        rw [Nat.sub_self] at hu
        obtain rfl : z = u := Option.some.inj hu
        exact mono _ _ _ _ back o4
  · obtain ⟨s1, ys, h2, ok, e⟩ := p
    exact hd H ys s1 h2 ok e
end
end My
/-! part KitQ3 -/
namespace My
open PySem PySem.Spec PyProof.Rows L2
theorem Paired_at {α β : Type} {R : α → β → Prop} {xs : List α} {ys : List β} (h : Paired R xs ys) : ∀ {i : Nat} {x : α} {y : β}, xs[i]? = some x → ys[i]? = some y → R x y := by
  induction h with
  | nil => intro i x y hx; simp at hx
  | cons r t ih =>
    intro i x y hx hy
    cases i with
    | zero =>
      cases hx
      cases hy
      exact r
    | succ i => exact ih hx hy
theorem atI_int {xs : List V} {i : Nat} {v : V} (h : xs[i]? = some v) : atI xs (0 + (i : Int)) = some v := by
  rw [Int.zero_add]
  exact atI_nat h
theorem gen_map {α : Type} (l : List α) (f : α → V) {n : Nat} (h : l.length = n) : (List.range n).filterMap (fun j => (l[j]?).map f) = l.map f := by
  subst h
  have := range_all l (fun x => some (f x))
  rw [filterMap_some] at this
  rw [← this]
  congr 1
  funext j
  cases l[j]? <;> rfl
theorem eq_int {k j : Nat} : decide (V.int (0 + (k : Int)) = V.int (0 + (j : Int))) = decide (k = j) := by
  have : (V.int (0 + (k : Int)) = V.int (0 + (j : Int))) ↔ k = j := ⟨fun z => by have := V.int.inj z; omega, fun z => by rw [z]⟩
  simp only [this]
theorem eqv_bools {K : PySem.W.Frag} {H : Hp} {a b : Addr} {xs : List V} (h1 : SqL K H a xs) (h2 : SqL K H b xs) (hs : xs.length < sizeLine) (h : ∀ v ∈ xs, scalV v = true) : Eqv K H 2 (.ref a) (.ref b) :=
  .inr (.inl ⟨a, b, xs, xs, rfl, rfl, h1, h2, rfl, hs, eqv_items fun v hv => .inl ⟨rfl, h v hv⟩⟩)
end My
/-! part K00j -/
namespace Kx
open PySem PySem.Spec PyProof.Rows L2 My
theorem low_of {k : Nat} {r : XRow} (hk : k < 43) (h : rws[k]? = some r) : decide (r.2.2 = 0) = decide ((0 : Int) + (k : Int) < 37) ∧ decide (r.2.2 = 1) = (decide (37 ≤ (0 : Int) + (k : Int)) && decide ((0 : Int) + (k : Int) < 41)) ∧
    decide (1 ≤ r.2.2) = decide (37 ≤ (0 : Int) + (k : Int)) ∧ decide (2 ≤ r.2.2) = decide (40 < (0 : Int) + (k : Int)) := by
  have q : ∀ k : Fin 43, ∀ b ∈ (rws[k.1]?).map (·.2.2), decide (b = 0) = decide ((0 : Int) + (k.1 : Int) < 37) ∧ decide (b = 1) = (decide (37 ≤ (0 : Int) + (k.1 : Int)) && decide ((0 : Int) + (k.1 : Int) < 41)) ∧
    decide (1 ≤ b) = decide (37 ≤ (0 : Int) + (k.1 : Int)) ∧ decide (2 ≤ b) = decide (40 < (0 : Int) + (k.1 : Int)) := by decide +kernel
  exact q ⟨k, hk⟩ r.2.2 (by rw [h]; rfl)
theorem take4 {r : XRow} (h : r ∈ rws) {v1 v2 v3 v4 : V} : ([v1, v2, v3, v4].take r.2.1.length).length = r.2.1.length := by
  have q : ∀ r ∈ rws, r.2.1.length ≤ 4 := by decide +kernel
  rw [List.length_take]
  exact Nat.min_eq_left (q r h)
section
variable {P : Program} {w : World} {K : PySem.W.Frag} {mg : Str → Option Value} {base : Heap} (T : Tx K mg) (U : Ty K mg)
theorem ok_same : ∀ n : Nat, FnOk P w K mg base CX0 n T.f__law_same T.d__law_same ["_law_found", "_law_due"] (spSame K n)
  | 0 => same_none
  | n + 1 => ok_same1 T (ok_same n)
include U
set_option maxHeartbeats 8000000 in
theorem ok_law : FnOk P w K mg base CX0 8 T.f_law T.d_law ["_law_script"] (spLaw K) := by
  have G__law_bag := ok_bag (P := P) (w := w) (base := base) T
  have G__law_draw := ok_draw (P := P) (w := w) (base := base) T
  have G__law_of := ok_of (P := P) (w := w) (base := base) T
  have G__law_odd := ok_odd (P := P) (w := w) (base := base) T
  have G__law_by_place := ok_by_place (P := P) (w := w) (base := base) T U
  have G__law_by_name := ok_by_name (P := P) (w := w) (base := base) T U
  have G__law_told := ok_told (P := P) (w := w) (base := base) T U
  have G__law_first_kinds := ok_first (P := P) (w := w) (base := base) T U
  have G__law_late_kinds := ok_late (P := P) (w := w) (base := base) T U
  have G__law_bases := ok_bases (P := P) (w := w) (base := base) T U
  have G__law_same := ok_same (P := P) (w := w) (base := base) T 7
  refine T.F_law.ok sc_law (fun vs H Q E h => ?_) (fun cdv A outer s H vs Q E hr h => ?_)
  · obtain ⟨a, ns, rfl, _⟩ := h
    rfl
  obtain ⟨a, ns, rfl, hS, h63, q⟩ := h
  refine ⟨_, (pss_cons (ps_set (i := 1) sc_law.nd rfl (Or.inr rfl) (pe_call G__law_bag (hr.mono (by decide)) (by rfl) T.g__law_bag T.F__law_bag.kp T.b__law_bag .nil pass0 (pa_cons (pv 0) pa_nil)))
  (pss_cons (ps_set (i := 2) sc_law.nd rfl (Or.inl rfl) (pe_lst (pa_cons pe_str (pa_cons pe_str (pa_cons pe_str (pa_cons pe_str (pa_cons pe_str (pa_cons pe_str (pa_cons pe_str (pa_cons pe_str (pa_cons pe_str (pa_cons pe_str (pa_cons pe_str (pa_cons pe_str (pa_cons pe_str (pa_cons pe_str (pa_cons pe_str (pa_cons pe_str (pa_cons pe_str (pa_cons pe_str (pa_cons pe_str (pa_cons pe_str (pa_cons pe_str (pa_cons pe_str (pa_cons pe_str (pa_cons pe_str (pa_cons pe_str (pa_cons pe_str (pa_cons pe_str (pa_cons pe_str (pa_cons pe_str (pa_cons pe_str (pa_cons pe_str (pa_cons pe_str (pa_cons pe_str (pa_cons pe_str (pa_cons pe_str (pa_cons pe_str (pa_cons pe_str (pa_cons pe_str (pa_cons pe_str (pa_cons pe_str (pa_cons pe_str (pa_cons pe_str (pa_cons pe_str pa_nil)))))))))))))))))))))))))))))))))))))))))))))
  (pss_cons (ps_set (i := 3) sc_law.nd rfl (Or.inl rfl) (pe_lst (pa_cons pe_int (pa_cons pe_int (pa_cons pe_int (pa_cons pe_int (pa_cons pe_int (pa_cons pe_int (pa_cons pe_int (pa_cons pe_int (pa_cons pe_int (pa_cons pe_int (pa_cons pe_int (pa_cons pe_int (pa_cons pe_int (pa_cons pe_int (pa_cons pe_int (pa_cons pe_int (pa_cons pe_int (pa_cons pe_int (pa_cons pe_int (pa_cons pe_int (pa_cons pe_int (pa_cons pe_int (pa_cons pe_int (pa_cons pe_int (pa_cons pe_int (pa_cons pe_int (pa_cons pe_int (pa_cons pe_int (pa_cons pe_int (pa_cons pe_int (pa_cons pe_int (pa_cons pe_int (pa_cons pe_int (pa_cons pe_int (pa_cons pe_int (pa_cons pe_int (pa_cons pe_int (pa_cons pe_int (pa_cons pe_int (pa_cons pe_int (pa_cons pe_int (pa_cons pe_int (pa_cons pe_int pa_nil)))))))))))))))))))))))))))))))))))))))))))))
  (pss_cons (ps_for PassesOwn.never rfl (pi_range1 (by rfl) T.z_range (pa_cons pe_int pa_nil)) (pg_name (i := 4) sc_law.nd rfl (Or.inl rfl))
    (pss_cons (ps_asg (pe_lc (own := [("_law_k", 9)]) (g := gName 9) (by rfl) sc_law.nd (pi_range1 (by rfl) T.z_range (pa_cons pe_int pa_nil)) (blkOk_by (own := [("_law_k", 9)]) (N := N_law) (sc := defScope s_law) (by decide +kernel)) (fun _ _ _ _ _ => (pg_name (i := 9) sc_law.nd rfl (Or.inl rfl))) (fun _ _ _ _ _ => pts_nil) (fun _ _ _ _ _ => (pe_call G__law_of (hr.mono (by decide)) (by rfl) T.g__law_of T.F__law_of.kp T.b__law_of .nil pass0 (pa_cons (pv 1) (pa_cons (pe_lst (pa_cons (pe_call G__law_odd (hr.mono (by decide)) (by rfl) T.g__law_odd T.F__law_odd.kp T.b__law_odd .nil pass0 (pa_cons (pv 1) pa_nil)) (pa_cons (pe_call G__law_draw (hr.mono (by decide)) (by rfl) T.g__law_draw T.F__law_draw.kp T.b__law_draw .nil pass0 (pa_cons (pv 1) (pa_cons (pe_op op_pow pe_int pe_int) pa_nil))) (pa_cons (k_self (n := 5) K (self_lst (n := 4) (self_cons (self_tup (n := 3) (self_cons (self_c pe_str rfl) (self_cons (self_c pe_int rfl) self_nil))) self_nil))) (pa_cons pe_str pa_nil))))) pa_nil))))) (pg_lst (by rfl) (pgs_cons (pg_name (i := 5) sc_law.nd rfl (Or.inl rfl)) (pgs_cons (pg_name (i := 6) sc_law.nd rfl (Or.inl rfl)) (pgs_cons (pg_name (i := 7) sc_law.nd rfl (Or.inl rfl)) (pgs_cons (pg_name (i := 8) sc_law.nd rfl (Or.inl rfl)) pgs_nil))))))
    (pss_cons (ps_set (i := 10) sc_law.nd rfl (Or.inl rfl) (pe_lst (pa_cons (pe_call G__law_by_place (hr.mono (by decide)) (by rfl) T.g__law_by_place T.F__law_by_place.kp T.b__law_by_place .nil pass0 (pa_cons (pv 5) (pa_cons (pv 6) (pa_cons (pv 7) (pa_cons (pv 8) pa_nil))))) (pa_cons (pe_call G__law_by_name (hr.mono (by decide)) (by rfl) T.g__law_by_name T.F__law_by_name.kp T.b__law_by_name .nil pass0 (pa_cons (pv 5) (pa_cons (pv 6) (pa_cons (pv 7) (pa_cons (pv 8) pa_nil))))) pa_nil))))
    (pss_one (ps_for PassesOwn.never rfl (pi_list (pv 10)) (pg_name (i := 11) sc_law.nd rfl (Or.inl rfl))
      (pss_one (ps_for PassesOwn.never rfl (pi_range1 (by rfl) T.z_range (pa_cons (pe_callB (k_call_len_seq K) (by rfl) T.z_len (by decide +kernel) (pa_cons (pv 2) pa_nil)) pa_nil)) (pg_name (i := 9) sc_law.nd rfl (Or.inr rfl))
        (pss_cons (ps_set (i := 12) sc_law.nd rfl (Or.inl rfl) (pe_ix (k_ix_list K) (pv 11) (pv 9) (fun _ _ => rfl)))
        (pss_cons (ps_set (i := 13) sc_law.nd rfl (Or.inl rfl) (pe_op op_cat (pe_call G__law_first_kinds (hr.mono (by decide)) (by rfl) T.g__law_first_kinds T.F__law_first_kinds.kp T.b__law_first_kinds .nil pass0 (pa_cons (pv 12) pa_nil)) (pe_call G__law_late_kinds (hr.mono (by decide)) (by rfl) T.g__law_late_kinds T.F__law_late_kinds.kp T.b__law_late_kinds .nil pass0 (pa_cons (pv 12) pa_nil))))
        (pss_cons (ps_if (pt_not (pt_val (pe_call G__law_same (hr.mono (by decide)) (by rfl) T.g__law_same T.F__law_same.kp T.b__law_same .nil pass0 (pa_cons (pe_lst (pa_cons (pe_xfld (pv 12)) (pa_cons (pe_call G__law_told (hr.mono (by decide)) (by rfl) T.g__law_told T.F__law_told.kp T.b__law_told .nil pass0 (pa_cons (pv 12) pa_nil)) (pa_cons (pv 13) pa_nil)))) (pa_cons (pe_lst (pa_cons (pe_ix (k_ix_list K) (pv 2) (pv 9) (fun _ _ => rfl)) (pa_cons (pe_slice (k_sl_list K) (pe_lst (pa_cons (pv 5) (pa_cons (pv 6) (pa_cons (pv 7) (pa_cons (pv 8) pa_nil))))) po_none (po_some (pe_ix (k_ix_list K) (pv 3) (pv 9) (fun _ _ => rfl)))) (pa_cons (pe_lc (own := [("_law_j", 14)]) (g := gName 14) (by rfl) sc_law.nd (pi_range1 (by rfl) T.z_range (pa_cons (pe_callB (k_call_len_seq K) (by rfl) T.z_len (by decide +kernel) (pa_cons (pv 2) pa_nil)) pa_nil)) (blkOk_by (own := [("_law_j", 14)]) (N := N_law) (sc := defScope s_law) (by decide +kernel)) (fun _ _ _ _ _ => (pg_name (i := 14) sc_law.nd rfl (Or.inl rfl))) (fun _ _ _ _ _ => pts_nil) (fun _ _ _ _ _ => (pe_cmpR op_eq (pv 9) (pv 14) (nomark _)))) pa_nil)))) pa_nil)))))
          (pss_one (ps_ret pe_bl))
          pss_nil)
        (pss_cons (ps_set (i := 15) sc_law.nd rfl (Or.inl rfl) (pe_lst (pa_cons (pe_cmpR op_lt (pv 9) pe_int (nomark _)) (pa_cons (pe_cmpR op_lt (pv 9) pe_int (nomark _)) (pa_cons (pe_lax (pe_and (pe_cmpR op_le pe_int (pv 9) (nomark _)) (pe_one (pe_cmpR op_lt (pv 9) pe_int (nomark _))))) (pa_cons (pe_cmpR op_le pe_int (pv 9) (nomark _)) (pa_cons (pe_cmpR op_gt (pv 9) pe_int (nomark _)) pa_nil)))))))
        (pss_one (ps_if (pt_not (pt_val (pe_call G__law_same (hr.mono (by decide)) (by rfl) T.g__law_same T.F__law_same.kp T.b__law_same .nil pass0 (pa_cons (pe_call G__law_bases (hr.mono (by decide)) (by rfl) T.g__law_bases T.F__law_bases.kp T.b__law_bases .nil pass0 (pa_cons (pv 12) pa_nil)) (pa_cons (pv 15) pa_nil)))))
          (pss_one (ps_ret pe_bl))
          pss_nil)))))))))))))
  (pss_one (ps_ret pe_bl)))))), ?_⟩
  refine ⟨_, rfl, a, ns, rfl, hS, h63, fun H1 b s1 nb hb => ?_⟩
  refine ⟨(by show 43 ≤ sizeLine; decide), fun c nc => ?_⟩
  generalize hX : upd _ c _ = H2
  obtain ⟨s2, e2⟩ := new_at hX nc
  clear hX
  refine ⟨(by show 43 ≤ sizeLine; decide), fun z nz => ?_⟩
  generalize hX : upd _ z _ = H3
  obtain ⟨s3, e3⟩ := new_at hX nz
  clear hX
  have ec : H3 c = some (.lst (rws.map fun r => V.str r.1)) := s3 _ _ e2
  have ez : H3 z = some (.lst (rws.map fun r => V.int (r.2.1.length : Int))) := e3
  have lr : rws.length = 43 := rfl
  have hb3 := hb.same (s2.trans s3)
  clear e2 e3
  refine ⟨2, rfl, by decide, by decide, ?_⟩
  refine for_range (lo := 0) (n := 2) (fun i σ H' => ∃ y4 y5 y6 y7 y8 y9 y10 y11 y12 y13 y14 y15, σ = [some (.ref a), some (.ref b), some (.ref c), some (.ref z), y4, y5, y6, y7, y8, y9, y10, y11, y12, y13, y14, y15] ∧ Same H3 H') ⟨_, _, _, _, _, _, _, _, _, _, _, _, rfl, Same.refl _⟩ ?_ (fun σ H' _ => q H')
  rintro i σ H4 hi ⟨y4, y5, y6, y7, y8, y9, y10, y11, y12, y13, y14, y15, rfl, s4⟩
  have hb4 := hb3.same s4
  -- four values
  refine ⟨4, rfl, by decide, by decide, fun D nD => ?_⟩
  refine lc_relD walk_range (fun i y H' => Eqv K (hide H' D) 5 y y) (by decide) nD (fun _ _ => trivial) (fun i y H' H'' k h => h.same (hide_same k)) ?_ ?_
  · rintro k y H5 H6 R Rn hk s5 ⟨zs, eD⟩ ⟨rfl, rfl⟩ hy
    refine ⟨rfl, ?_⟩
    have hb5 := hb4.same s5
    have dD : H6 D ≠ none := by rw [eD]; exact fun z => nomatch z
    refine ⟨_, rfl, _, rfl, b, rfl, hb5, fun H7 v7 s7 e7 => ?_⟩
    refine ⟨_, rfl, _, _, rfl, rfl, ⟨by decide, by decide, by decide⟩, b, _, rfl, hb5.same s7, by decide, by decide, fun d d0 d1 => ?_⟩
    refine fun H8 v8 s8 e8 => ?_
    refine ⟨(by show 4 ≤ sizeLine; decide), fun l nl => ?_⟩
    generalize hX : upd _ l _ = H9
    obtain ⟨s9, e9⟩ := new_at hX nl
    clear hX
    refine ⟨b, l, _, rfl, hb5.same (s7.trans (s8.trans s9)), .inl (.inl e9), (by show 0 < 4; decide), (by show 4 ≤ 1000000; decide), fun j v hv => ?_⟩
    refine hy v H9 (s7.trans (s8.trans s9)) ?_
    have mem := List.mem_of_getElem? hv
    simp only [List.mem_cons, List.not_mem_nil, or_false] at mem
    rcases mem with e | e | e | e
    · rw [e]
      exact ((e7.same (s8.trans s9)).2 D dD)
    · rw [e]
      exact .inl ⟨rfl, rfl⟩
    · rw [e]
      exact ((e8.less s7).same s9).2 D dD
    · rw [e]
      exact .inl ⟨rfl, rfl⟩
  rintro H5 ys s5 ly oks e5
  obtain ⟨v1, v2, v3, v4, rfl⟩ : ∃ v1 v2 v3 v4, ys = [v1, v2, v3, v4] := match ys, ly with | [v1, v2, v3, v4], _ => ⟨v1, v2, v3, v4, rfl⟩
  have ev : ∀ v ∈ [v1, v2, v3, v4], Eqv K H5 5 v v := fun v hv => by
    obtain ⟨i, hi⟩ := List.getElem?_of_mem hv
    exact (oks i v hi).same hide_less
  clear oks
  refine ⟨D, _, rfl, .inl (.inl e5), rfl, _, _, rfl, ⟨_, _, rfl, ⟨_, _, rfl, ⟨_, _, rfl, rfl, ?_⟩⟩⟩⟩
  -- made
  refine ⟨_, rfl, _, rfl, _, rfl, _, rfl, v1, v2, v3, v4, rfl, fun H6 p1 as1 s6 e6 x6 => ?_⟩
  refine ⟨_, rfl, _, rfl, _, rfl, _, rfl, v1, v2, v3, v4, rfl, fun H7 p2 as2 s7 e7 x7 => ?_⟩
  refine ⟨(by show 2 ≤ sizeLine; decide), fun m nm => ?_⟩
  generalize hX : upd _ m _ = H8
  obtain ⟨s8, e8⟩ := new_at hX nm
  clear hX
  have x6 := x6.same (s7.trans s8)
  have x7 := x7.same s8
  have e6 := s8 _ _ (s7 _ _ e6)
  have e7 := s8 _ _ e7
  have s38 : Same H3 H8 := s4.trans (s5.trans (s6.trans (s7.trans s8)))
  have ev : ∀ v ∈ [v1, v2, v3, v4], Eqv K H8 5 v v := fun v hv => (ev v hv).same (s6.trans (s7.trans s8))
  have ec8 := s38 _ _ ec
  have ez8 := s38 _ _ ez
  clear s1 s2 s3 s4 s5 s6 s7 s8 hb hb3 hb4 nD e5
  refine ⟨_, rfl, m, rfl, ⟨_, .inl (.inl e8)⟩, ?_⟩
  refine for_list (K := K) (a := m) (xs := [.ref p1, .ref p2]) (fun _ σ H' => ∃ y9 y11 y12 y13 y14 y15, σ = [some (.ref a), some (.ref b), some (.ref c), some (.ref z), some (.int (0 + (i : Int))), some v1, some v2, some v3, some v4, y9, some (.ref m), y11, y12, y13, y14, y15] ∧ Same H8 H') ⟨_, _, _, _, _, _, rfl, Same.refl _⟩ (fun _ _ H' _ ⟨_, _, _, _, _, _, _, s⟩ => .inl (.inl (s _ _ e8))) ?_ ?_
  rotate_left
  · rintro σ H9 ⟨y9, y11, y12, y13, y14, y15, rfl, s9⟩
    exact ⟨_, _, _, _, _, _, _, _, _, _, _, _, rfl, s38.trans s9⟩
  rintro j u σ H9 hu ⟨y9, y11, y12, y13, y14, y15, rfl, s9⟩
  -- which list of errors
  have hp : ∃ (p : Addr) (as : List Addr), u = .ref p ∧ H8 p = some (.lst (as.map V.ref)) ∧ XsAt K H8 [v1, v2, v3, v4] as rws := by
    have mem := List.mem_of_getElem? hu
    simp only [List.mem_cons, List.not_mem_nil, or_false] at mem
    rcases mem with e | e
    · exact ⟨p1, as1, e, e6, x6⟩
    · exact ⟨p2, as2, e, e7, x7⟩
  obtain ⟨p, as, rfl, ep, xs⟩ := hp
  clear hu e6 e7 x6 x7
  have la : as.length = 43 := Paired.length xs
  refine ⟨_, rfl, c, _, rfl, .inl (.inl (.inl (s9 _ _ ec8))), _, rfl, (by rw [List.length_map, lr]; decide), (by rw [List.length_map, lr]; decide), ?_⟩
  refine for_range (lo := 0) (n := 43) (fun k σ H' => ∃ y9 y12 y13 y14 y15, σ = [some (.ref a), some (.ref b), some (.ref c), some (.ref z), some (.int (0 + (i : Int))), some v1, some v2, some v3, some v4, y9, some (.ref m), some (.ref p), y12, y13, y14, y15] ∧ Same H8 H') ⟨_, _, _, _, _, rfl, s9⟩ ?_ ?_
  rotate_left
  · rintro σ H10 ⟨y9, y12, y13, y14, y15, rfl, s10⟩
    exact ⟨_, _, _, _, _, _, rfl, s10⟩
  rintro k σ H10 hk ⟨y9, y12, y13, y14, y15, rfl, s10⟩
  clear s9
  -- the error
  obtain ⟨r, hr2⟩ : ∃ r, rws[k]? = some r := ⟨rws[k], List.getElem?_eq_getElem (by rw [lr]; omega)⟩
  obtain ⟨ae, ha⟩ : ∃ x, as[k]? = some x := ⟨as[k], List.getElem?_eq_getElem (by rw [la]; omega)⟩
  have xk : XIs K H8 ae r ([v1, v2, v3, v4].take r.2.1.length) := ⟨Paired_at xs ha hr2, take4 (List.mem_of_getElem? hr2), List.mem_of_getElem? hr2⟩
  have F := (U.mem xk.m).T
  refine ⟨_, rfl, _, rfl, p, _, _, _, rfl, rfl, .inl (.inl (s10 _ _ ep)), atI_int (by rw [List.getElem?_map, ha] <;> rfl), ?_⟩
  refine ⟨_, rfl, ae, r, _, rfl, xk.same s10, fun H11 l1 s11 e11 => ?_⟩
  refine ⟨_, rfl, ae, r, _, rfl, xk.same (s10.trans s11), fun H12 l2 s12 e12 => ?_⟩
  refine ⟨l1, l2, _, _, rfl, rfl, s12 _ _ e11, e12, (by rw [List.length_map, List.length_map]; exact small63 (by decide)), fun kd nkd => ?_⟩
  generalize hX : upd _ kd _ = H13
  obtain ⟨s13, e13⟩ := new_at hX nkd
  clear hX
  rw [← List.map_append, List.take_append_drop] at e13
  have s8_13 : Same H8 H13 := s10.trans (s11.trans (s12.trans s13))
  refine ⟨_, rfl, ae, _, _, _, rfl, F.cls, F.no _ (.head _), (xk.same s8_13).v, xk.code, ?_⟩
  refine ⟨_, rfl, ae, r, _, rfl, xk.same s8_13, fun H14 l4 s14 e14 => ?_⟩
  refine ⟨_, rfl, (by show 3 ≤ sizeLine; decide), fun l5 nl5 => ?_⟩
  generalize hX : upd _ l5 _ = H15
  obtain ⟨s15, e15⟩ := new_at hX nl5
  clear hX
  have u15 : Same H8 H15 := s8_13.trans (s14.trans s15)
  refine ⟨_, rfl, _, rfl, c, _, _, _, rfl, rfl, .inl (.inl (u15 _ _ ec8)), atI_int (by rw [List.getElem?_map, hr2] <;> rfl), ?_⟩
  refine ⟨_, rfl, _, rfl, _, rfl, _, rfl, (by show 4 ≤ sizeLine; decide), fun l6 nl6 => ?_⟩
  generalize hX : upd _ l6 _ = H16
  obtain ⟨s16, e16⟩ := new_at hX nl6
  clear hX
  refine ⟨_, rfl, _, rfl, z, _, _, _, rfl, rfl, .inl (.inl (s16 _ _ (u15 _ _ ez8))), atI_int (by rw [List.getElem?_map, hr2] <;> rfl), ?_⟩
  refine ⟨_, rfl, l6, _, rfl, .inl (.inl e16), fun l7 nl7 => ?_⟩
  rw [cut_to]
  generalize hX : upd _ l7 _ = H17
  obtain ⟨s17, e17⟩ := new_at hX nl7
  clear hX
  have u17 := u15.trans (s16.trans s17)
  refine ⟨_, rfl, c, _, rfl, .inl (.inl (.inl (u17 _ _ ec8))), _, rfl, (by rw [List.length_map, lr]; decide), (by rw [List.length_map, lr]; decide), fun D2 nD2 => ?_⟩
  refine lc_gen (n := 43) walk_range (fun j => (rws[j]?).map fun u => V.bl (decide (r.1 = u.1))) (by show 43 < sizeLine; decide) nD2 (fun _ _ => trivial) ?_ ?_
  · rintro j y H18 H19 R Rn hj s18 ⟨rfl, rfl⟩ hy hn
    refine ⟨rfl, ?_⟩
    obtain ⟨u, hu⟩ : ∃ u, rws[j]? = some u := ⟨rws[j], List.getElem?_eq_getElem (by rw [lr]; exact hj)⟩
    refine ⟨_, rfl, _, rfl, rfl, ?_⟩
    refine hy _ ?_ _ (Same.refl _)
    rw [hu, Option.map_some, fst_eq hr2 hu, My.eq_int]
  rintro H18 s18 e18
  rw [gen_map _ _ lr] at e18
  refine ⟨(by show 3 ≤ sizeLine; decide), fun l8 nl8 => ?_⟩
  generalize hX : upd _ l8 _ = H19
  obtain ⟨s19, e19⟩ := new_at hX nl8
  clear hX
  have v19 := s18.trans s19
  have evk : ∀ v ∈ [v1, v2, v3, v4].take r.2.1.length, Eqv K H19 5 v v := fun v hv => (ev v (List.mem_of_mem_take hv)).same (u17.trans v19)
  have lt4 : ([v1, v2, v3, v4].take r.2.1.length).length < sizeLine := Nat.lt_of_le_of_lt (List.length_take_le' ..) (by show 4 < sizeLine; decide)
  have E1 : Eqv K H19 6 (.ref l4) (.ref l7) := .inr (.inl ⟨l4, l7, _, _, rfl, rfl, .inl (.inl ((s15.trans (s16.trans (s17.trans v19))) _ _ e14)), .inl (.inl (v19 _ _ e17)), rfl, lt4, eqv_items evk⟩)
  have E2 : Eqv K H19 6 (.ref kd) (.ref D2) := eqv_up (eqv_bools (.inl (.inl ((s14.trans (s15.trans (s16.trans (s17.trans v19)))) _ _ e13))) (.inl (.inl (s19 _ _ e18))) (by rw [List.length_map]; exact small1000 (by decide)) (fun v hv => by obtain ⟨u, _, rfl⟩ := List.mem_map.mp hv; rfl)) (by decide)
  refine ⟨_, _, rfl, eqv_list (.inl (.inl ((s16.trans (s17.trans v19)) _ _ e15))) (.inl (.inl e19)) (by show 3 < sizeLine; decide) (.cons (eqv_scal rfl) (.cons E1 (.cons E2 .nil))), fun H20 s20 => ⟨true, rfl, iteF ?_⟩⟩
  -- the bases
  have u20 := u17.trans (v19.trans s20)
  clear E1 E2 evk lt4 e19 e18 e17 e16 e15 e14 e13 e12 e11
  have hk43 : k < 43 := hk
  refine ⟨_, rfl, _, _, rfl, rfl, _, rfl, _, _, rfl, rfl, ?_⟩
  refine ⟨fun v H' => v = .bl (decide (37 ≤ (0 : Int) + (k : Int)) && decide ((0 : Int) + (k : Int) < 41)) ∧ H' = H20, ?_, ?_⟩
  · refine ⟨_, rfl, _, _, rfl, rfl, _, rfl, ite2 (fun c1 => ?_) (fun c1 => ?_)⟩
    · refine ⟨_, rfl, _, _, rfl, rfl, ?_⟩
      rw [c1]
      exact ⟨rfl, rfl⟩
    · rw [Bool.not_eq_true] at c1
      rw [c1]
      exact ⟨rfl, rfl⟩
  rintro v H' ⟨rfl, rfl⟩
  refine ⟨_, rfl, _, _, rfl, rfl, _, rfl, _, _, rfl, rfl, (by show 5 ≤ sizeLine; decide), fun du ndu => ?_⟩
  generalize hX : upd _ du _ = H21
  obtain ⟨s21, e21⟩ := new_at hX ndu
  clear hX
  refine ⟨_, rfl, ae, r, _, rfl, xk.same (u20.trans s21), fun H22 l9 s22 e22 => ?_⟩
  have ek := low_of hk43 hr2
  have e21 : H21 du = some (.lst [.bl (decide (r.2.2 = 0)), .bl (decide (r.2.2 = 0)), .bl (decide (r.2.2 = 1)), .bl (decide (1 ≤ r.2.2)), .bl (decide (2 ≤ r.2.2))]) := by
    rw [e21, ek.1, ek.2.1, ek.2.2.1, ek.2.2.2]
  refine ⟨_, rfl, _, _, rfl, eqv_up (eqv_bools (.inl (.inl e22)) (.inl (.inl (s22 _ _ e21))) (by show 5 < sizeLine; decide) (fun v hv => by simp only [List.mem_cons, List.not_mem_nil, or_false] at hv; rcases hv with e | e | e | e | e <;> rw [e] <;> rfl)) (by decide), fun H23 s23 => ⟨true, rfl, iteF ?_⟩⟩
  exact ⟨_, _, _, _, _, rfl, s10.trans ((s11.trans (s12.trans (s13.trans (s14.trans (s15.trans (s16.trans (s17.trans (v19.trans s20)))))))).trans (s21.trans (s22.trans s23)))⟩

end
end Kx
/-! part K00l -/
namespace Kx
open PySem PySem.Spec PyProof.Rows L2 My
theorem Fun_of {K : PySem.W.Frag} {x q : Str} {st : Stmt} {f : Addr} {fd : FuncData} (F : FunD K x q (defArgs st) (defBody st) (defScope st) [] [] f fd) : Fun K x q st f fd := by
  obtain ⟨⟨oc, od, dV, kV, doc, pm, an, cdv, ct, osl, e, l, c, d, k⟩, kp⟩ := F
  rcases d with ⟨_, rfl⟩ | ⟨n, _⟩
  · exact ⟨⟨oc, od, kV, doc, pm, an, cdv, ct, osl, e, l, c⟩, kp⟩
  · exact absurd rfl n
def tabOk (K : PySem.W.Frag) : Bool := rws.all fun r => clsOk K r.1 r.2.1 r.2.2
def kindsOk (K : PySem.W.Frag) : Bool := rws.all fun r => rws.all fun u => PySem.W.kitOne K (.ref (cadr K r.1)) (.ref (cadr K u.1)) == some (decide (r.1 = u.1))
def lowOk (K : PySem.W.Frag) : Bool := rws.all fun r => PySem.W.kitOne K (.ref (cadr K r.1)) (.ref (cadr K "NamesError")) == some (decide (r.2.2 = 0)) && (PySem.W.kitOne K (.ref (cadr K r.1)) (.type "ValueError") == some (decide (r.2.2 = 0)) &&
    (PySem.W.kitOne K (.ref (cadr K r.1)) (.ref (cadr K "Missing")) == some (decide (r.2.2 = 1)) && (PySem.W.kitOne K (.ref (cadr K r.1)) (.type "LookupError") == some (decide (1 ≤ r.2.2)) && PySem.W.kitOne K (.ref (cadr K r.1)) (.type "IndexError") == some (decide (2 ≤ r.2.2)))))
def spcOk (K : PySem.W.Frag) : Bool := decide (PySem.W.specialIn K (.builtin "object.__class__") "__get__" = some (some (.builtin "getset_descriptor.__get__"))) && decide (PySem.W.takesIn K (.builtin "object.__class__") = some true)

def dd0 : He.DefD := ⟨("_law_bag", none), "_law_bag", "_law_bag", defArgs s__law_bag, defBody s__law_bag, defScope s__law_bag, [], []⟩
def dd1 : He.DefD := ⟨("_law_draw", none), "_law_draw", "_law_draw", defArgs s__law_draw, defBody s__law_draw, defScope s__law_draw, [], []⟩
def dd2 : He.DefD := ⟨("_law_of", none), "_law_of", "_law_of", defArgs s__law_of, defBody s__law_of, defScope s__law_of, [], []⟩
def dd3 : He.DefD := ⟨("_law_same", none), "_law_same", "_law_same", defArgs s__law_same, defBody s__law_same, defScope s__law_same, [], []⟩
def dd4 : He.DefD := ⟨("_law_nest", none), "_law_nest", "_law_nest", defArgs s__law_nest, defBody s__law_nest, defScope s__law_nest, [], []⟩
def dd5 : He.DefD := ⟨("_law_odd", none), "_law_odd", "_law_odd", defArgs s__law_odd, defBody s__law_odd, defScope s__law_odd, [], []⟩
def dd6 : He.DefD := ⟨("_law_told", none), "_law_told", "_law_told", defArgs s__law_told, defBody s__law_told, defScope s__law_told, [], []⟩
def dd7 : He.DefD := ⟨("_law_by_place", none), "_law_by_place", "_law_by_place", defArgs s__law_by_place, defBody s__law_by_place, defScope s__law_by_place, [], []⟩
def dd8 : He.DefD := ⟨("_law_by_name", none), "_law_by_name", "_law_by_name", defArgs s__law_by_name, defBody s__law_by_name, defScope s__law_by_name, [], []⟩
def dd9 : He.DefD := ⟨("_law_first_kinds", none), "_law_first_kinds", "_law_first_kinds", defArgs s__law_first_kinds, defBody s__law_first_kinds, defScope s__law_first_kinds, [], []⟩
def dd10 : He.DefD := ⟨("_law_late_kinds", none), "_law_late_kinds", "_law_late_kinds", defArgs s__law_late_kinds, defBody s__law_late_kinds, defScope s__law_late_kinds, [], []⟩
def dd11 : He.DefD := ⟨("_law_bases", none), "_law_bases", "_law_bases", defArgs s__law_bases, defBody s__law_bases, defScope s__law_bases, [], []⟩
def dd12 : He.DefD := ⟨("law", none), "law", "law", defArgs s_law, defBody s_law, defScope s_law, [], []⟩
def di0 : He.DefD := ⟨("InvalidName", some "__init__"), "__init__", "InvalidName.__init__", defArgs i_InvalidName, defBody i_InvalidName, defScope i_InvalidName, [], []⟩
def di1 : He.DefD := ⟨("InvalidNumber", some "__init__"), "__init__", "InvalidNumber.__init__", defArgs i_InvalidNumber, defBody i_InvalidNumber, defScope i_InvalidNumber, [], []⟩
def di2 : He.DefD := ⟨("BadText", some "__init__"), "__init__", "BadText.__init__", defArgs i_BadText, defBody i_BadText, defScope i_BadText, [], []⟩
def di3 : He.DefD := ⟨("DuplicateName", some "__init__"), "__init__", "DuplicateName.__init__", defArgs i_DuplicateName, defBody i_DuplicateName, defScope i_DuplicateName, [], []⟩
def di4 : He.DefD := ⟨("Misused", some "__init__"), "__init__", "Misused.__init__", defArgs i_Misused, defBody i_Misused, defScope i_Misused, [], []⟩
def di5 : He.DefD := ⟨("OutOfReach", some "__init__"), "__init__", "OutOfReach.__init__", defArgs i_OutOfReach, defBody i_OutOfReach, defScope i_OutOfReach, [], []⟩
def di6 : He.DefD := ⟨("Lost", some "__init__"), "__init__", "Lost.__init__", defArgs i_Lost, defBody i_Lost, defScope i_Lost, [], []⟩
def di7 : He.DefD := ⟨("Doubled", some "__init__"), "__init__", "Doubled.__init__", defArgs i_Doubled, defBody i_Doubled, defScope i_Doubled, [], []⟩
def di8 : He.DefD := ⟨("Caught", some "__init__"), "__init__", "Caught.__init__", defArgs i_Caught, defBody i_Caught, defScope i_Caught, [], []⟩
def di9 : He.DefD := ⟨("InvalidFixed", some "__init__"), "__init__", "InvalidFixed.__init__", defArgs i_InvalidFixed, defBody i_InvalidFixed, defScope i_InvalidFixed, [], []⟩
def di10 : He.DefD := ⟨("InvalidNaming", some "__init__"), "__init__", "InvalidNaming.__init__", defArgs i_InvalidNaming, defBody i_InvalidNaming, defScope i_InvalidNaming, [], []⟩
def di11 : He.DefD := ⟨("NoSpare", some "__init__"), "__init__", "NoSpare.__init__", defArgs i_NoSpare, defBody i_NoSpare, defScope i_NoSpare, [], []⟩
def di12 : He.DefD := ⟨("TooMany", some "__init__"), "__init__", "TooMany.__init__", defArgs i_TooMany, defBody i_TooMany, defScope i_TooMany, [], []⟩
def di13 : He.DefD := ⟨("InvalidWorth", some "__init__"), "__init__", "InvalidWorth.__init__", defArgs i_InvalidWorth, defBody i_InvalidWorth, defScope i_InvalidWorth, [], []⟩
def di14 : He.DefD := ⟨("Beyond", some "__init__"), "__init__", "Beyond.__init__", defArgs i_Beyond, defBody i_Beyond, defScope i_Beyond, [], []⟩
def di15 : He.DefD := ⟨("InvalidEdit", some "__init__"), "__init__", "InvalidEdit.__init__", defArgs i_InvalidEdit, defBody i_InvalidEdit, defScope i_InvalidEdit, [], []⟩
def di16 : He.DefD := ⟨("NotFit", some "__init__"), "__init__", "NotFit.__init__", defArgs i_NotFit, defBody i_NotFit, defScope i_NotFit, [], []⟩
def di17 : He.DefD := ⟨("NotAbove", some "__init__"), "__init__", "NotAbove.__init__", defArgs i_NotAbove, defBody i_NotAbove, defScope i_NotAbove, [], []⟩
def di18 : He.DefD := ⟨("Ring", some "__init__"), "__init__", "Ring.__init__", defArgs i_Ring, defBody i_Ring, defScope i_Ring, [], []⟩
def di19 : He.DefD := ⟨("NoRoom", some "__init__"), "__init__", "NoRoom.__init__", defArgs i_NoRoom, defBody i_NoRoom, defScope i_NoRoom, [], []⟩
def di20 : He.DefD := ⟨("SamePerson", some "__init__"), "__init__", "SamePerson.__init__", defArgs i_SamePerson, defBody i_SamePerson, defScope i_SamePerson, [], []⟩
def di21 : He.DefD := ⟨("Unrelated", some "__init__"), "__init__", "Unrelated.__init__", defArgs i_Unrelated, defBody i_Unrelated, defScope i_Unrelated, [], []⟩
def di22 : He.DefD := ⟨("Argued", some "__init__"), "__init__", "Argued.__init__", defArgs i_Argued, defBody i_Argued, defScope i_Argued, [], []⟩
def di23 : He.DefD := ⟨("Unsound", some "__init__"), "__init__", "Unsound.__init__", defArgs i_Unsound, defBody i_Unsound, defScope i_Unsound, [], []⟩
def di24 : He.DefD := ⟨("Moved", some "__init__"), "__init__", "Moved.__init__", defArgs i_Moved, defBody i_Moved, defScope i_Moved, [], []⟩
def di25 : He.DefD := ⟨("NotFull", some "__init__"), "__init__", "NotFull.__init__", defArgs i_NotFull, defBody i_NotFull, defScope i_NotFull, [], []⟩
def di26 : He.DefD := ⟨("InvalidWay", some "__init__"), "__init__", "InvalidWay.__init__", defArgs i_InvalidWay, defBody i_InvalidWay, defScope i_InvalidWay, [], []⟩
def di27 : He.DefD := ⟨("InvalidItem", some "__init__"), "__init__", "InvalidItem.__init__", defArgs i_InvalidItem, defBody i_InvalidItem, defScope i_InvalidItem, [], []⟩
def di28 : He.DefD := ⟨("InvalidCells", some "__init__"), "__init__", "InvalidCells.__init__", defArgs i_InvalidCells, defBody i_InvalidCells, defScope i_InvalidCells, [], []⟩
def di29 : He.DefD := ⟨("SharedCell", some "__init__"), "__init__", "SharedCell.__init__", defArgs i_SharedCell, defBody i_SharedCell, defScope i_SharedCell, [], []⟩
def di30 : He.DefD := ⟨("Ended", some "__init__"), "__init__", "Ended.__init__", defArgs i_Ended, defBody i_Ended, defScope i_Ended, [], []⟩
def di31 : He.DefD := ⟨("InvalidDeed", some "__init__"), "__init__", "InvalidDeed.__init__", defArgs i_InvalidDeed, defBody i_InvalidDeed, defScope i_InvalidDeed, [], []⟩
def di32 : He.DefD := ⟨("BadJournal", some "__init__"), "__init__", "BadJournal.__init__", defArgs i_BadJournal, defBody i_BadJournal, defScope i_BadJournal, [], []⟩
def di33 : He.DefD := ⟨("Busy", some "__init__"), "__init__", "Busy.__init__", defArgs i_Busy, defBody i_Busy, defScope i_Busy, [], []⟩
def di34 : He.DefD := ⟨("NoDraft", some "__init__"), "__init__", "NoDraft.__init__", defArgs i_NoDraft, defBody i_NoDraft, defScope i_NoDraft, [], []⟩
def di35 : He.DefD := ⟨("HasDraft", some "__init__"), "__init__", "HasDraft.__init__", defArgs i_HasDraft, defBody i_HasDraft, defScope i_HasDraft, [], []⟩
def di36 : He.DefD := ⟨("NoMerge", some "__init__"), "__init__", "NoMerge.__init__", defArgs i_NoMerge, defBody i_NoMerge, defScope i_NoMerge, [], []⟩
def di37 : He.DefD := ⟨("UnknownId", some "__init__"), "__init__", "UnknownId.__init__", defArgs i_UnknownId, defBody i_UnknownId, defScope i_UnknownId, [], []⟩
def di38 : He.DefD := ⟨("UnknownName", some "__init__"), "__init__", "UnknownName.__init__", defArgs i_UnknownName, defBody i_UnknownName, defScope i_UnknownName, [], []⟩
def di39 : He.DefD := ⟨("UnknownPerson", some "__init__"), "__init__", "UnknownPerson.__init__", defArgs i_UnknownPerson, defBody i_UnknownPerson, defScope i_UnknownPerson, [], []⟩
def di40 : He.DefD := ⟨("UnknownAttribute", some "__init__"), "__init__", "UnknownAttribute.__init__", defArgs i_UnknownAttribute, defBody i_UnknownAttribute, defScope i_UnknownAttribute, [], []⟩
def di41 : He.DefD := ⟨("NoNaming", some "__init__"), "__init__", "NoNaming.__init__", defArgs i_NoNaming, defBody i_NoNaming, defScope i_NoNaming, [], []⟩
def di42 : He.DefD := ⟨("NothingLeft", some "__init__"), "__init__", "NothingLeft.__init__", defArgs i_NothingLeft, defBody i_NothingLeft, defScope i_NothingLeft, [], []⟩
def fn : List He.DefD := [dd0, dd1, dd2, dd3, dd4, dd5, dd6, dd7, dd8, dd9, dd10, dd11, dd12, di0, di1, di2, di3, di4, di5, di6, di7, di8, di9, di10, di11, di12, di13, di14, di15, di16, di17, di18, di19, di20, di21, di22, di23, di24, di25, di26, di27, di28, di29, di30, di31, di32, di33, di34, di35, di36, di37, di38, di39, di40, di41, di42]
def fas : List He.Fa := [.glo "_law_bag", .glo "_law_draw", .glo "_law_of", .glo "_law_same", .glo "_law_nest", .glo "_law_odd", .glo "_law_told", .glo "_law_by_place", .glo "_law_by_name", .glo "_law_first_kinds", .glo "_law_late_kinds", .glo "_law_bases", .glo "law", .glo "NamesError", .glo "Missing", .free "IndexError", .free "LookupError", .free "ValueError", .free "all", .free "bool", .free "dict", .free "int", .free "isinstance", .free "len", .free "list", .free "range", .free "str", .free "tuple", .free "zip"]
/-- what the facts look at: the module's names, the classes' tables, all functions' codes -/
def refsN : Option Obj → List Addr
  | some o => He.refsO o
  | none => []
def subN : Option Obj → List Addr
  | some ⟨_, _, .cls cd, _⟩ => [cd.ns]
  | some ⟨_, _, .func fd, _⟩ => He.refV fd.code
  | _ => []
def dctN : Option Obj → List Addr
  | some ⟨_, _, .dict es _, _⟩ => es.toList.flatMap fun e => He.refV e.val
  | _ => []
def asN (g : Addr → Option Obj) : List Addr :=
  let a1 := refsN (g mainGlobals)
  let a2 := a1.flatMap fun a => subN (g a)
  let a3 := a2.flatMap fun a => dctN (g a)
  let a4 := a3.flatMap fun a => subN (g a)
  mainGlobals :: (a1 ++ (a2 ++ (a3 ++ a4)))
def frN (g : Addr → Option Obj) : PySem.W.Frag := He.frG g (asN g)
abbrev ObA : Type := Bool × List He.FnW
abbrev Ob : Type := (ObA × Bool) × Bool
def obA (K : PySem.W.Frag) : ObA := ((fas.all fun f => f.ok K) && fn.all fun d => d.ok K, fn.map fun d => He.fnW K d.at_)
def obB (K : PySem.W.Frag) : Bool := spcOk K && (tabOk K && lowOk K)
def obK (K : PySem.W.Frag) : Ob := ((obA K, obB K), kindsOk K)
def vaA : ObA := (true, fn.map He.DefD.val)
def vaK : Ob := ((vaA, true), true)
def obG (g : Addr → Option Obj) : Ob := obK (frN g)
def hk : PySem.W.Hook where
  α := Ob
  obs := fun s => obG s.heap.get?
  val := fun _ => vaK
  says := fun _ h => ∃ K : PySem.W.Frag, K.In h ∧ obK K = vaK
  of := fun _ _ e => ⟨_, He.frG_in, e⟩
  keeps := fun _ _ _ ⟨K, hK, c⟩ k => ⟨K, PySem.W.Frag.In.keeps hK k, c⟩
def obT (s : PySem.W.SharedT) : Ob := obG (HandSHeadRun.getT s)
theorem obT_eq (s : PySem.W.SharedT) : obT s = hk.obs s.abs := by
  have e : HandSHeadRun.getT s = s.abs.heap.get? := funext (HandSHeadRun.getT_eq s)
  show obG (HandSHeadRun.getT s) = obG s.abs.heap.get?
  rw [e]
theorem map3 {α A B C D : Type} {o : Option α} {f : α → A} {g : α → B} {p : α → C} {k : α → D} {a : A} {b : B} {c : C} {d : D} (h1 : o.map (fun s => (f s, g s, p s)) = some (a, b, c)) (h2 : o.map k = some d) : o.map (fun s => (f s, g s, (p s, k s))) = some (a, b, (c, d)) := by
  cases o with
  | none => cases h1
  | some s =>
    have e1 : (f s, g s, p s) = (a, b, c) := Option.some.inj h1
    have e2 : k s = d := Option.some.inj h2
    injection e1 with e3 e4
    injection e4 with e5 e6
    show some (f s, g s, (p s, k s)) = some (a, b, (c, d))
    rw [e3, e5, e6, e2]
section
variable {K : PySem.W.Frag}
theorem ob_1 (c : obK K = vaK) : (fas.all fun f => f.ok K) = true ∧ (fn.all fun d => d.ok K) = true ∧ spcOk K = true ∧ tabOk K = true ∧ lowOk K = true ∧ kindsOk K = true := by
  have z : ((fas.all fun f => f.ok K) && fn.all fun d => d.ok K) = true := congrArg (fun z : Ob => z.1.1.1) c
  have z2 : (spcOk K && (tabOk K && lowOk K)) = true := congrArg (fun z : Ob => z.1.2) c
  have z3 : kindsOk K = true := congrArg (fun z : Ob => z.2) c
  obtain ⟨a1, a2⟩ := He.ba z
  obtain ⟨b1, b2⟩ := He.ba z2
  obtain ⟨b3, b4⟩ := He.ba b2
  exact ⟨a1, a2, b1, b3, b4, z3⟩
theorem ob_fact (c : obK K = vaK) (i : Nat) {f : He.Fa} (h : fas[i]? = some f := by rfl) : f.ok K = true := List.all_eq_true.mp (ob_1 c).1 f (List.mem_of_getElem? h)
theorem ob_def (c : obK K = vaK) (i : Nat) {d : He.DefD} (h : fn[i]? = some d := by rfl) : ∃ fd, FunD K d.name d.qual d.params d.body d.scope (d.dvs K) (d.kws K) (He.fAd K d.at_) fd :=
  He.DefD.funD (by
    have z : (fn.map fun d => He.fnW K d.at_) = fn.map He.DefD.val := congrArg (fun z : Ob => z.1.1.2) c
    have z2 := congrArg (fun l : List He.FnW => l[i]?) z
    simp only [List.getElem?_map, h, Option.map_some, Option.some.injEq] at z2
    exact z2) (List.all_eq_true.mp (ob_1 c).2.1 d (List.mem_of_getElem? h))
end
theorem all_facts {P : Program} {w : World} {K : PySem.W.Frag} {h : Heap} {mg : Str → Option Value} {fa : Addr} (X : K.In h) (G : h.Ns mainGlobals mg) (hfa : mg "law" = some (.ref fa)) (c : obK K = vaK) :
    ∃ fd : FuncData, (∀ (s : Shared) (v : Value), BindsTo s fd ⟨[v], []⟩ [("_law_script", v)]) ∧ ∀ base : Heap, K.In base → base.Ns mainGlobals mg → FnOk P w K mg base CX0 8 fa fd ["_law_script"] (spLaw K) := by
  obtain ⟨d0, D0⟩ := ob_def c 0 (d := dd0) rfl
  have E0 : Fun K "_law_bag" "_law_bag" s__law_bag (He.ga K "_law_bag") d0 := Fun_of D0
  obtain ⟨d1, D1⟩ := ob_def c 1 (d := dd1) rfl
  have E1 : Fun K "_law_draw" "_law_draw" s__law_draw (He.ga K "_law_draw") d1 := Fun_of D1
  obtain ⟨d2, D2⟩ := ob_def c 2 (d := dd2) rfl
  have E2 : Fun K "_law_of" "_law_of" s__law_of (He.ga K "_law_of") d2 := Fun_of D2
  obtain ⟨d3, D3⟩ := ob_def c 3 (d := dd3) rfl
  have E3 : Fun K "_law_same" "_law_same" s__law_same (He.ga K "_law_same") d3 := Fun_of D3
  obtain ⟨d4, D4⟩ := ob_def c 4 (d := dd4) rfl
  have E4 : Fun K "_law_nest" "_law_nest" s__law_nest (He.ga K "_law_nest") d4 := Fun_of D4
  obtain ⟨d5, D5⟩ := ob_def c 5 (d := dd5) rfl
  have E5 : Fun K "_law_odd" "_law_odd" s__law_odd (He.ga K "_law_odd") d5 := Fun_of D5
  obtain ⟨d6, D6⟩ := ob_def c 6 (d := dd6) rfl
  have E6 : Fun K "_law_told" "_law_told" s__law_told (He.ga K "_law_told") d6 := Fun_of D6
  obtain ⟨d7, D7⟩ := ob_def c 7 (d := dd7) rfl
  have E7 : Fun K "_law_by_place" "_law_by_place" s__law_by_place (He.ga K "_law_by_place") d7 := Fun_of D7
  obtain ⟨d8, D8⟩ := ob_def c 8 (d := dd8) rfl
  have E8 : Fun K "_law_by_name" "_law_by_name" s__law_by_name (He.ga K "_law_by_name") d8 := Fun_of D8
  obtain ⟨d9, D9⟩ := ob_def c 9 (d := dd9) rfl
  have E9 : Fun K "_law_first_kinds" "_law_first_kinds" s__law_first_kinds (He.ga K "_law_first_kinds") d9 := Fun_of D9
  obtain ⟨d10, D10⟩ := ob_def c 10 (d := dd10) rfl
  have E10 : Fun K "_law_late_kinds" "_law_late_kinds" s__law_late_kinds (He.ga K "_law_late_kinds") d10 := Fun_of D10
  obtain ⟨d11, D11⟩ := ob_def c 11 (d := dd11) rfl
  have E11 : Fun K "_law_bases" "_law_bases" s__law_bases (He.ga K "_law_bases") d11 := Fun_of D11
  obtain ⟨d12, D12⟩ := ob_def c 12 (d := dd12) rfl
  have E12 : Fun K "law" "law" s_law (He.ga K "law") d12 := Fun_of D12
  obtain ⟨i0, I0⟩ := ob_def c 13 (d := di0) rfl
  have J0 : Fun K "__init__" "InvalidName.__init__" i_InvalidName (iadr K "InvalidName") i0 := Fun_of I0
  obtain ⟨i1, I1⟩ := ob_def c 14 (d := di1) rfl
  have J1 : Fun K "__init__" "InvalidNumber.__init__" i_InvalidNumber (iadr K "InvalidNumber") i1 := Fun_of I1
  obtain ⟨i2, I2⟩ := ob_def c 15 (d := di2) rfl
  have J2 : Fun K "__init__" "BadText.__init__" i_BadText (iadr K "BadText") i2 := Fun_of I2
  obtain ⟨i3, I3⟩ := ob_def c 16 (d := di3) rfl
  have J3 : Fun K "__init__" "DuplicateName.__init__" i_DuplicateName (iadr K "DuplicateName") i3 := Fun_of I3
  obtain ⟨i4, I4⟩ := ob_def c 17 (d := di4) rfl
  have J4 : Fun K "__init__" "Misused.__init__" i_Misused (iadr K "Misused") i4 := Fun_of I4
  obtain ⟨i5, I5⟩ := ob_def c 18 (d := di5) rfl
  have J5 : Fun K "__init__" "OutOfReach.__init__" i_OutOfReach (iadr K "OutOfReach") i5 := Fun_of I5
  obtain ⟨i6, I6⟩ := ob_def c 19 (d := di6) rfl
  have J6 : Fun K "__init__" "Lost.__init__" i_Lost (iadr K "Lost") i6 := Fun_of I6
  obtain ⟨i7, I7⟩ := ob_def c 20 (d := di7) rfl
  have J7 : Fun K "__init__" "Doubled.__init__" i_Doubled (iadr K "Doubled") i7 := Fun_of I7
  obtain ⟨i8, I8⟩ := ob_def c 21 (d := di8) rfl
  have J8 : Fun K "__init__" "Caught.__init__" i_Caught (iadr K "Caught") i8 := Fun_of I8
  obtain ⟨i9, I9⟩ := ob_def c 22 (d := di9) rfl
  have J9 : Fun K "__init__" "InvalidFixed.__init__" i_InvalidFixed (iadr K "InvalidFixed") i9 := Fun_of I9
  obtain ⟨i10, I10⟩ := ob_def c 23 (d := di10) rfl
  have J10 : Fun K "__init__" "InvalidNaming.__init__" i_InvalidNaming (iadr K "InvalidNaming") i10 := Fun_of I10
  obtain ⟨i11, I11⟩ := ob_def c 24 (d := di11) rfl
  have J11 : Fun K "__init__" "NoSpare.__init__" i_NoSpare (iadr K "NoSpare") i11 := Fun_of I11
  obtain ⟨i12, I12⟩ := ob_def c 25 (d := di12) rfl
  have J12 : Fun K "__init__" "TooMany.__init__" i_TooMany (iadr K "TooMany") i12 := Fun_of I12
  obtain ⟨i13, I13⟩ := ob_def c 26 (d := di13) rfl
  have J13 : Fun K "__init__" "InvalidWorth.__init__" i_InvalidWorth (iadr K "InvalidWorth") i13 := Fun_of I13
  obtain ⟨i14, I14⟩ := ob_def c 27 (d := di14) rfl
  have J14 : Fun K "__init__" "Beyond.__init__" i_Beyond (iadr K "Beyond") i14 := Fun_of I14
  obtain ⟨i15, I15⟩ := ob_def c 28 (d := di15) rfl
  have J15 : Fun K "__init__" "InvalidEdit.__init__" i_InvalidEdit (iadr K "InvalidEdit") i15 := Fun_of I15
  obtain ⟨i16, I16⟩ := ob_def c 29 (d := di16) rfl
  have J16 : Fun K "__init__" "NotFit.__init__" i_NotFit (iadr K "NotFit") i16 := Fun_of I16
  obtain ⟨i17, I17⟩ := ob_def c 30 (d := di17) rfl
  have J17 : Fun K "__init__" "NotAbove.__init__" i_NotAbove (iadr K "NotAbove") i17 := Fun_of I17
  obtain ⟨i18, I18⟩ := ob_def c 31 (d := di18) rfl
  have J18 : Fun K "__init__" "Ring.__init__" i_Ring (iadr K "Ring") i18 := Fun_of I18
  obtain ⟨i19, I19⟩ := ob_def c 32 (d := di19) rfl
  have J19 : Fun K "__init__" "NoRoom.__init__" i_NoRoom (iadr K "NoRoom") i19 := Fun_of I19
  obtain ⟨i20, I20⟩ := ob_def c 33 (d := di20) rfl
  have J20 : Fun K "__init__" "SamePerson.__init__" i_SamePerson (iadr K "SamePerson") i20 := Fun_of I20
  obtain ⟨i21, I21⟩ := ob_def c 34 (d := di21) rfl
  have J21 : Fun K "__init__" "Unrelated.__init__" i_Unrelated (iadr K "Unrelated") i21 := Fun_of I21
  obtain ⟨i22, I22⟩ := ob_def c 35 (d := di22) rfl
  have J22 : Fun K "__init__" "Argued.__init__" i_Argued (iadr K "Argued") i22 := Fun_of I22
  obtain ⟨i23, I23⟩ := ob_def c 36 (d := di23) rfl
  have J23 : Fun K "__init__" "Unsound.__init__" i_Unsound (iadr K "Unsound") i23 := Fun_of I23
  obtain ⟨i24, I24⟩ := ob_def c 37 (d := di24) rfl
  have J24 : Fun K "__init__" "Moved.__init__" i_Moved (iadr K "Moved") i24 := Fun_of I24
  obtain ⟨i25, I25⟩ := ob_def c 38 (d := di25) rfl
  have J25 : Fun K "__init__" "NotFull.__init__" i_NotFull (iadr K "NotFull") i25 := Fun_of I25
  obtain ⟨i26, I26⟩ := ob_def c 39 (d := di26) rfl
  have J26 : Fun K "__init__" "InvalidWay.__init__" i_InvalidWay (iadr K "InvalidWay") i26 := Fun_of I26
  obtain ⟨i27, I27⟩ := ob_def c 40 (d := di27) rfl
  have J27 : Fun K "__init__" "InvalidItem.__init__" i_InvalidItem (iadr K "InvalidItem") i27 := Fun_of I27
  obtain ⟨i28, I28⟩ := ob_def c 41 (d := di28) rfl
  have J28 : Fun K "__init__" "InvalidCells.__init__" i_InvalidCells (iadr K "InvalidCells") i28 := Fun_of I28
  obtain ⟨i29, I29⟩ := ob_def c 42 (d := di29) rfl
  have J29 : Fun K "__init__" "SharedCell.__init__" i_SharedCell (iadr K "SharedCell") i29 := Fun_of I29
  obtain ⟨i30, I30⟩ := ob_def c 43 (d := di30) rfl
  have J30 : Fun K "__init__" "Ended.__init__" i_Ended (iadr K "Ended") i30 := Fun_of I30
  obtain ⟨i31, I31⟩ := ob_def c 44 (d := di31) rfl
  have J31 : Fun K "__init__" "InvalidDeed.__init__" i_InvalidDeed (iadr K "InvalidDeed") i31 := Fun_of I31
  obtain ⟨i32, I32⟩ := ob_def c 45 (d := di32) rfl
  have J32 : Fun K "__init__" "BadJournal.__init__" i_BadJournal (iadr K "BadJournal") i32 := Fun_of I32
  obtain ⟨i33, I33⟩ := ob_def c 46 (d := di33) rfl
  have J33 : Fun K "__init__" "Busy.__init__" i_Busy (iadr K "Busy") i33 := Fun_of I33
  obtain ⟨i34, I34⟩ := ob_def c 47 (d := di34) rfl
  have J34 : Fun K "__init__" "NoDraft.__init__" i_NoDraft (iadr K "NoDraft") i34 := Fun_of I34
  obtain ⟨i35, I35⟩ := ob_def c 48 (d := di35) rfl
  have J35 : Fun K "__init__" "HasDraft.__init__" i_HasDraft (iadr K "HasDraft") i35 := Fun_of I35
  obtain ⟨i36, I36⟩ := ob_def c 49 (d := di36) rfl
  have J36 : Fun K "__init__" "NoMerge.__init__" i_NoMerge (iadr K "NoMerge") i36 := Fun_of I36
  obtain ⟨i37, I37⟩ := ob_def c 50 (d := di37) rfl
  have J37 : Fun K "__init__" "UnknownId.__init__" i_UnknownId (iadr K "UnknownId") i37 := Fun_of I37
  obtain ⟨i38, I38⟩ := ob_def c 51 (d := di38) rfl
  have J38 : Fun K "__init__" "UnknownName.__init__" i_UnknownName (iadr K "UnknownName") i38 := Fun_of I38
  obtain ⟨i39, I39⟩ := ob_def c 52 (d := di39) rfl
  have J39 : Fun K "__init__" "UnknownPerson.__init__" i_UnknownPerson (iadr K "UnknownPerson") i39 := Fun_of I39
  obtain ⟨i40, I40⟩ := ob_def c 53 (d := di40) rfl
  have J40 : Fun K "__init__" "UnknownAttribute.__init__" i_UnknownAttribute (iadr K "UnknownAttribute") i40 := Fun_of I40
  obtain ⟨i41, I41⟩ := ob_def c 54 (d := di41) rfl
  have J41 : Fun K "__init__" "NoNaming.__init__" i_NoNaming (iadr K "NoNaming") i41 := Fun_of I41
  obtain ⟨i42, I42⟩ := ob_def c 55 (d := di42) rfl
  have J42 : Fun K "__init__" "NothingLeft.__init__" i_NothingLeft (iadr K "NothingLeft") i42 := Fun_of I42
  obtain ⟨_, _, m1, m3, m6, m5⟩ := ob_1 c
  obtain ⟨m7, m8⟩ := He.ba m1
  have e := hfa.symm.trans (He.glo_ok X G (ob_fact c 12 (f := .glo "law") rfl))
  cases e
  let T : Tx K mg := { f__law_bag := He.ga K "_law_bag", d__law_bag := d0, F__law_bag := E0, g__law_bag := He.glo_ok X G (ob_fact c 0 (f := .glo "_law_bag") rfl), b__law_bag := (E0).binds (ps := ["_law_script"]) (fun _ _ _ _ _ _ us hl => match us, hl with | [_], _ => rfl), f__law_draw := He.ga K "_law_draw", d__law_draw := d1, F__law_draw := E1, g__law_draw := He.glo_ok X G (ob_fact c 1 (f := .glo "_law_draw") rfl), b__law_draw := (E1).binds (ps := ["_law_bag_here", "_law_many"]) (fun _ _ _ _ _ _ us hl => match us, hl with | [_, _], _ => rfl), f__law_of := He.ga K "_law_of", d__law_of := d2, F__law_of := E2, g__law_of := He.glo_ok X G (ob_fact c 2 (f := .glo "_law_of") rfl), b__law_of := (E2).binds (ps := ["_law_bag_here", "_law_some"]) (fun _ _ _ _ _ _ us hl => match us, hl with | [_, _], _ => rfl), f__law_same := He.ga K "_law_same", d__law_same := d3, F__law_same := E3, g__law_same := He.glo_ok X G (ob_fact c 3 (f := .glo "_law_same") rfl), b__law_same := (E3).binds (ps := ["_law_found", "_law_due"]) (fun _ _ _ _ _ _ us hl => match us, hl with | [_, _], _ => rfl), f__law_nest := He.ga K "_law_nest", d__law_nest := d4, F__law_nest := E4, g__law_nest := He.glo_ok X G (ob_fact c 4 (f := .glo "_law_nest") rfl), b__law_nest := (E4).binds (ps := []) (fun _ _ _ _ _ _ us hl => match us, hl with | [], _ => rfl), f__law_odd := He.ga K "_law_odd", d__law_odd := d5, F__law_odd := E5, g__law_odd := He.glo_ok X G (ob_fact c 5 (f := .glo "_law_odd") rfl), b__law_odd := (E5).binds (ps := ["_law_bag_here"]) (fun _ _ _ _ _ _ us hl => match us, hl with | [_], _ => rfl), f__law_told := He.ga K "_law_told", d__law_told := d6, F__law_told := E6, g__law_told := He.glo_ok X G (ob_fact c 6 (f := .glo "_law_told") rfl), b__law_told := (E6).binds (ps := ["_law_e"]) (fun _ _ _ _ _ _ us hl => match us, hl with | [_], _ => rfl), f__law_by_place := He.ga K "_law_by_place", d__law_by_place := d7, F__law_by_place := E7, g__law_by_place := He.glo_ok X G (ob_fact c 7 (f := .glo "_law_by_place") rfl), b__law_by_place := (E7).binds (ps := ["_law_one", "_law_two", "_law_three", "_law_four"]) (fun _ _ _ _ _ _ us hl => match us, hl with | [_, _, _, _], _ => rfl), f__law_by_name := He.ga K "_law_by_name", d__law_by_name := d8, F__law_by_name := E8, g__law_by_name := He.glo_ok X G (ob_fact c 8 (f := .glo "_law_by_name") rfl), b__law_by_name := (E8).binds (ps := ["_law_one", "_law_two", "_law_three", "_law_four"]) (fun _ _ _ _ _ _ us hl => match us, hl with | [_, _, _, _], _ => rfl), f__law_first_kinds := He.ga K "_law_first_kinds", d__law_first_kinds := d9, F__law_first_kinds := E9, g__law_first_kinds := He.glo_ok X G (ob_fact c 9 (f := .glo "_law_first_kinds") rfl), b__law_first_kinds := (E9).binds (ps := ["_law_e"]) (fun _ _ _ _ _ _ us hl => match us, hl with | [_], _ => rfl), f__law_late_kinds := He.ga K "_law_late_kinds", d__law_late_kinds := d10, F__law_late_kinds := E10, g__law_late_kinds := He.glo_ok X G (ob_fact c 10 (f := .glo "_law_late_kinds") rfl), b__law_late_kinds := (E10).binds (ps := ["_law_e"]) (fun _ _ _ _ _ _ us hl => match us, hl with | [_], _ => rfl), f__law_bases := He.ga K "_law_bases", d__law_bases := d11, F__law_bases := E11, g__law_bases := He.glo_ok X G (ob_fact c 11 (f := .glo "_law_bases") rfl), b__law_bases := (E11).binds (ps := ["_law_e"]) (fun _ _ _ _ _ _ us hl => match us, hl with | [_], _ => rfl), f_law := He.ga K "law", d_law := d12, F_law := E12, g_law := hfa, z_IndexError := He.free_ok X G (ob_fact c 15 (f := .free "IndexError") rfl), z_LookupError := He.free_ok X G (ob_fact c 16 (f := .free "LookupError") rfl), z_ValueError := He.free_ok X G (ob_fact c 17 (f := .free "ValueError") rfl), z_all := He.free_ok X G (ob_fact c 18 (f := .free "all") rfl), z_bool := He.free_ok X G (ob_fact c 19 (f := .free "bool") rfl), z_dict := He.free_ok X G (ob_fact c 20 (f := .free "dict") rfl), z_int := He.free_ok X G (ob_fact c 21 (f := .free "int") rfl), z_isinstance := He.free_ok X G (ob_fact c 22 (f := .free "isinstance") rfl), z_len := He.free_ok X G (ob_fact c 23 (f := .free "len") rfl), z_list := He.free_ok X G (ob_fact c 24 (f := .free "list") rfl), z_range := He.free_ok X G (ob_fact c 25 (f := .free "range") rfl), z_str := He.free_ok X G (ob_fact c 26 (f := .free "str") rfl), z_tuple := He.free_ok X G (ob_fact c 27 (f := .free "tuple") rfl), z_zip := He.free_ok X G (ob_fact c 28 (f := .free "zip") rfl) }
  let U : Ty K mg := { tab := m3, hn := of_decide_eq_true m7, ht := of_decide_eq_true m8, kinds := m5, low := m6, gl := fun x v e => PySem.W.mg_of X G e, gN := He.glo_ok X G (ob_fact c 13 (f := .glo "NamesError") rfl), gM := He.glo_ok X G (ob_fact c 14 (f := .glo "Missing") rfl), d_InvalidName := i0, F_InvalidName := J0, d_InvalidNumber := i1, F_InvalidNumber := J1, d_BadText := i2, F_BadText := J2, d_DuplicateName := i3, F_DuplicateName := J3, d_Misused := i4, F_Misused := J4, d_OutOfReach := i5, F_OutOfReach := J5, d_Lost := i6, F_Lost := J6, d_Doubled := i7, F_Doubled := J7, d_Caught := i8, F_Caught := J8, d_InvalidFixed := i9, F_InvalidFixed := J9, d_InvalidNaming := i10, F_InvalidNaming := J10, d_NoSpare := i11, F_NoSpare := J11, d_TooMany := i12, F_TooMany := J12, d_InvalidWorth := i13, F_InvalidWorth := J13, d_Beyond := i14, F_Beyond := J14, d_InvalidEdit := i15, F_InvalidEdit := J15, d_NotFit := i16, F_NotFit := J16, d_NotAbove := i17, F_NotAbove := J17, d_Ring := i18, F_Ring := J18, d_NoRoom := i19, F_NoRoom := J19, d_SamePerson := i20, F_SamePerson := J20, d_Unrelated := i21, F_Unrelated := J21, d_Argued := i22, F_Argued := J22, d_Unsound := i23, F_Unsound := J23, d_Moved := i24, F_Moved := J24, d_NotFull := i25, F_NotFull := J25, d_InvalidWay := i26, F_InvalidWay := J26, d_InvalidItem := i27, F_InvalidItem := J27, d_InvalidCells := i28, F_InvalidCells := J28, d_SharedCell := i29, F_SharedCell := J29, d_Ended := i30, F_Ended := J30, d_InvalidDeed := i31, F_InvalidDeed := J31, d_BadJournal := i32, F_BadJournal := J32, d_Busy := i33, F_Busy := J33, d_NoDraft := i34, F_NoDraft := J34, d_HasDraft := i35, F_HasDraft := J35, d_NoMerge := i36, F_NoMerge := J36, d_UnknownId := i37, F_UnknownId := J37, d_UnknownName := i38, F_UnknownName := J38, d_UnknownPerson := i39, F_UnknownPerson := J39, d_UnknownAttribute := i40, F_UnknownAttribute := J40, d_NoNaming := i41, F_NoNaming := J41, d_NothingLeft := i42, F_NothingLeft := J42 }
  have hb : ∀ (s : Shared) (v : Value), BindsTo s d12 ⟨[v], []⟩ [("_law_script", v)] := by
    obtain ⟨oc, od, kV, doc, pm, an, cdv, ct, osl, rfl, lk, hcd⟩ := E12.ex
    exact fun s v => .of_eq rfl
  exact ⟨_, hb, fun base _ _ => ok_law T U⟩
abbrev R : PySem.W.OpenRow := PySem.W.OpenLaw.row PySem.Challenge.rw_piercednames_k00_errors_by_themselves
def nm0 : List Str := [("__name__" : Str), ("NamesError" : Str), ("Missing" : Str), ("InvalidName" : Str), ("InvalidNumber" : Str), ("BadText" : Str), ("DuplicateName" : Str), ("Misused" : Str), ("OutOfReach" : Str), ("Lost" : Str), ("Doubled" : Str), ("Caught" : Str), ("InvalidFixed" : Str), ("InvalidNaming" : Str), ("NoSpare" : Str), ("TooMany" : Str), ("InvalidWorth" : Str), ("Beyond" : Str), ("InvalidEdit" : Str), ("NotFit" : Str), ("NotAbove" : Str), ("Ring" : Str), ("NoRoom" : Str), ("SamePerson" : Str), ("Unrelated" : Str), ("Argued" : Str), ("Unsound" : Str), ("Moved" : Str), ("NotFull" : Str), ("InvalidWay" : Str), ("InvalidItem" : Str), ("InvalidCells" : Str), ("SharedCell" : Str), ("Ended" : Str), ("InvalidDeed" : Str)]
def nm1 : List Str := [("BadJournal" : Str), ("Busy" : Str), ("NoDraft" : Str), ("HasDraft" : Str), ("NoMerge" : Str), ("UnknownId" : Str), ("UnknownName" : Str), ("UnknownPerson" : Str), ("UnknownAttribute" : Str), ("NoNaming" : Str), ("NothingLeft" : Str), ("_law_bag" : Str), ("_law_draw" : Str), ("_law_of" : Str), ("_law_same" : Str), ("_law_nest" : Str), ("_law_odd" : Str), ("_law_told" : Str), ("_law_by_place" : Str), ("_law_by_name" : Str), ("_law_first_kinds" : Str), ("_law_late_kinds" : Str), ("_law_bases" : Str)]
def nms : List Str := nm0 ++ (nm1)
end Kx
/-! part K00m -/
namespace Kx
open PySem PySem.Spec PyProof.Rows L2 My
abbrev qq : Program := PySem.W.view R.prog [59]
section
open PySem.W PySem.Calls
theorem runA (w : World) (os : PySem.OsState) : (HandSHeadRun.endF (HandSHeadRun.stepQ (HandSHeadRun.denQ HandSHeadRun.tabQ) R.prog w) 12000 R.prog w os).map (fun s => (HandSHeadRun.looksF R.prog (boot_heap w.params) s.abs, HandSHeadRun.seenQ qq nms (importedModules R.prog.main.body) (fun s => PySem.W.xlAt qq [] s && PySem.W.recOk R.toRowW.records s) s.abs, obA (frN (HandSHeadRun.getT s)))) = some (true, PySem.W.openGood qq nms, vaA) := by
  kernel_rfl
theorem runB (w : World) (os : PySem.OsState) : (HandSHeadRun.endF (HandSHeadRun.stepQ (HandSHeadRun.denQ HandSHeadRun.tabQ) R.prog w) 12000 R.prog w os).map (fun s => obB (frN (HandSHeadRun.getT s))) = some true := by
  kernel_rfl
theorem runC (w : World) (os : PySem.OsState) : (HandSHeadRun.endF (HandSHeadRun.stepQ (HandSHeadRun.denQ HandSHeadRun.tabQ) R.prog w) 12000 R.prog w os).map (fun s => kindsOk (frN (HandSHeadRun.getT s))) = some true := by
  kernel_rfl
theorem run (w : World) : HandSHeadRun.RunEq R (PySem.W.view R.prog [59]) hk obT 12000 nms w := fun os => by
  have h := map3 (map3 (runA w os) (runB w os)) (runC w os)
  exact h
end
end Kx
open PySem PySem.W PyProof.Rows
set_option maxRecDepth 100000 in
set_option maxHeartbeats 0 in
theorem PySem.Challenge.cw_piercednames_k00_errors_by_themselves_holds : PySem.Challenge.rw_piercednames_k00_errors_by_themselves.Holds := by
  w_on; o_law
  refine HandSHeadRun.head_any (r := OpenLaw.row PySem.Challenge.rw_piercednames_k00_errors_by_themselves) (q := view (OpenLaw.row PySem.Challenge.rw_piercednames_k00_errors_by_themselves).prog [59]) (H := Kx.hk) (ob := Kx.obT) (M := 12000) (loose := Kx.nms) (d := HandSHeadRun.topDef (OpenLaw.row PySem.Challenge.rw_piercednames_k00_errors_by_themselves).prog 59) (kwd := []) Kx.obT_eq
    (by kernel_rfl) (fun s => by kernel_rfl) Kx.run (by kernel_rfl) (by kernel_rfl) (by kernel_rfl) (by rfl) (by first | assumption | decide +kernel) (by decide +kernel) ⟨rfl, rfl, rfl, rfl, rfl, by decide +kernel⟩ ?hw ?hc
  case hw => w_witness2
  case hc =>
    refine L2.walk_ofE (l := PySem.Challenge.rw_piercednames_k00_errors_by_themselves) (n := 63) (k := 8) (x := "_law_script") (CX := L2.CX0) rfl (by decide) (by kernel_rfl) ⟨rfl, by decide, by decide⟩ ?F (fun _ _ _ _ z => z)
    intro w mg fa h Y G hmg0
    obtain ⟨K, KX, c⟩ := Y
    have hmg : mg ("law" : PySem.Str) = some (.ref fa) := by
      have e : (HandSHeadRun.topDef (OpenLaw.row PySem.Challenge.rw_piercednames_k00_errors_by_themselves).prog 59).name = ("law" : PySem.Str) := by kernel_rfl
      rw [← e]
      exact hmg0
    obtain ⟨fd, hb, hF⟩ := Kx.all_facts (P := (PySem.Challenge.rw_piercednames_k00_errors_by_themselves).prog) (w := w) KX G hmg c
    exact ⟨K, fd, My.spLaw K, KX, hb, fun H a ns hl _ hS => ⟨a, ns, rfl, hS, hl, fun _ => rfl⟩, hF⟩
