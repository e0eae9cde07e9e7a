import PyProof.Rows.All
import Wide.All
import OpenK.AllK
import Wide.FinOn
import HandS.ForMost
import HandS.IsInst
import HandS.Conv
import HandS.Zip
import HandS.Strs
import HandS.Flow
import HandS.Codes
import HandS.Walk
import HandS.StrMore
import HandS.SetKeys
import HandS.Defaults
import PySem.Challenge.RW_piercednames_k02_fresh_names_in_order
set_option Elab.async false
set_option linter.all false
set_option maxRecDepth 100000
/-! part Kit1 -/
/-! My own rows over the layer: a list that is sealed (its content hidden behind a predicate), draws as free choices. -/
namespace My
open PySem PySem.Spec PyProof.Rows L2

/-- the predicate of a sealed list at a: some content that is so -/
def sealP (a : Addr) (φ : List V → Prop) : Heap → Prop := fun h => ∃ xs : List V, φ xs ∧ xs.length ≤ sizeLine ∧ ∃ (its : List Value) (n : Nat), Vals xs its ∧ h.get? a = some { cls := .type "list", data := .seq its.toArray n }
abbrev Seal (a : Addr) (φ : List V → Prop) : HO := .ext (sealP a φ)
theorem sealP_stay {a : Addr} {φ : List V → Prop} (h1 h2 : Heap) (p : sealP a φ h1) (k : ∀ o, h1.get? a = some o → h2.get? a = some o) : sealP a φ h2 := by
  obtain ⟨xs, p1, p2, its, n, r, e⟩ := p
  exact ⟨xs, p1, p2, its, n, r, k _ e⟩

section
variable {P : Program} {w : World} {K : PySem.W.Frag} {mg : Str → Option Value} {base : Heap}
/-- a list is sealed -/
theorem hok_seal {H : Hp} {h : Heap} {a : Addr} {φ : List V → Prop} {xs : List V} (ok : HOk P w H h) (e : H a = some (.lst xs)) (p : φ xs) : HOk P w (upd H a (Seal a φ)) h := fun b o q => by
  by_cases hb : b = a
  · subst hb
    rw [upd_same] at q
    cases q
    obtain ⟨z, its, n, r, eo⟩ := (show ObjOk P w H h b (.lst xs) from ok b _ e)
    exact ⟨⟨xs, p, z, its, n, r, eo⟩, ⟨_, eo⟩, fun h1 h2 => sealP_stay h1 h2⟩
  · rw [upd_ne hb] at q
    refine (ok b o q).stay (fun _ _ _ r => r) (fun c r => ?_) (fun c ys r => ?_)
    · rw [upd_ne (ne_of r e (by intro z; cases z))]; exact r
    · rw [upd_ne (ne_of r e (by intro z; cases z))]; exact r
theorem hok_open {H : Hp} {h : Heap} {a : Addr} {φ : List V → Prop} (ok : HOk P w H h) (e : H a = some (Seal a φ)) : ∃ xs, φ xs ∧ HOk P w (upd H a (.lst xs)) h := by
  obtain ⟨⟨xs, p, z, its, n, r, eo⟩, _, _⟩ := (show ObjOk P w H h a (Seal a φ) from ok a _ e)
  refine ⟨xs, p, fun b o q => ?_⟩
  by_cases hb : b = a
  · subst hb
    rw [upd_same] at q
    cases q
    exact ⟨z, its, n, r, eo⟩
  · rw [upd_ne hb] at q
    refine (ok b o q).stay (fun _ _ _ r => r) (fun c r => ?_) (fun c ys r => ?_)
    · rw [upd_ne (ne_of r e (by intro z; cases z))]; exact r
    · rw [upd_ne (ne_of r e (by intro z; cases z))]; exact r
theorem none_upd {H : Hp} {a b : Addr} {o u : HO} (e : H a = some o) (h : H b = none) : upd H a u b = none := by
  rw [upd_ne (fun z => by subst z; rw [e] at h; cases h)]; exact h
/-- THE RULE: a def that works on the open list keeps the promise over the sealed one -/
theorem fn_seal {k : Nat} {f : Addr} {fd : FuncData} {ps : List Str} {sp sp' : Sp} (F : FnOk P w K mg base CX0 k f fd ps sp)
    (len : ∀ vs H Q E, sp' vs H Q E → vs.length = ps.length)
    (h : ∀ vs H Q E, sp' vs H Q E → ∃ (a : Addr) (φ : List V → Prop), H a = some (Seal a φ) ∧ ∀ xs, φ xs → sp vs (upd H a (.lst xs)) (fun v H' => ∃ ys, H' a = some (.lst ys) ∧ φ ys ∧ Q v (upd H' a (Seal a φ))) E) :
    FnOk P w K mg base CX0 k f fd ps sp' := by
  refine ⟨len, fun A outer s H args us vs Q E hr he hb hv hs => ?_⟩
  obtain ⟨a, φ, e, h⟩ := h vs H Q E hs
  obtain ⟨xs, p, ok⟩ := hok_open he.hok e
  have he1 : Env0 P w K mg base A outer s (upd H a (.lst xs)) :=
    ⟨he.frames, he.mod, fun b o q => ⟨(he.bs b o q).1, none_upd e (he.bs b o q).2⟩, he.bsz, he.funs, fun b hb => none_upd e (he.frf b hb), ok, he.bare⟩
  have R := F.run A outer s (upd H a (.lst xs)) args us vs _ E hr he1 hb hv (h xs p)
  refine codeAny_mono R fun r s' c => ?_
  cases r with
  | error x => exact (show False from c).elim
  | ok fl =>
    cases fl with
    | ret u =>
      obtain ⟨v, H', h1, h2, h3, h4, h5, ys, h6, h7, h8⟩ := c
      refine ⟨v, upd H' a (Seal a φ), h1, h2, ?_, hok_seal h4 h6 h7, h5, h8⟩
      have nn : ∀ b, H b = none → upd H a (.lst xs) b = none := fun b q => none_upd e q
      have ne : ∀ b o, H b = some o → (∀ ψ, o ≠ .ext ψ) → b ≠ a := fun b o q n => ne_of q e (n _)
      refine ⟨fun b o q n i j => h3.keep b o q (nn b n) i j, fun b o q n i j => h3.slot b o q (nn b n) i j, fun b o q n j => none_upd h6 (h3.free b o q (nn b n) j), fun b o q j => h3.there b o q j, fun b ys q => ?_, fun b o u q => ?_, fun b ps q => ?_⟩
      · have z := ne b _ q (fun ψ z => by cases z)
        rw [upd_ne z]; exact h3.tups b ys (by rw [upd_ne z]; exact q)
      · have z := ne b _ q (fun ψ z => by cases z)
        rw [upd_ne z]; exact h3.frzs b o u (by rw [upd_ne z]; exact q)
      · have z := ne b _ q (fun ψ z => by cases z)
        rw [upd_ne z]; exact h3.tbls b ps (by rw [upd_ne z]; exact q)
    | _ => exact c
end
end My
/-! part Kit2 -/
namespace My
open PySem PySem.Spec PyProof.Rows L2

theorem same_new {H : Hp} {p : Addr} (h : H p = none) (o : HO) : Same H (upd H p o) := fun b u q => by rw [upd_ne (ne_of_none q h)]; exact q
theorem upd_self {H : Hp} {a : Addr} {o : HO} (h : H a = some o) : upd H a o = H := by
  funext b
  unfold upd
  split
  · rename_i e; rw [e, h]
  · rfl
theorem fmod_lo (x : Int) {k : Int} (h : 0 < k) : 0 ≤ x.fmod k := by
  rw [Int.fmod_eq_emod_of_nonneg _ (Int.le_of_lt h)]
  exact Int.emod_nonneg _ (by omega)
theorem fmod_hi (x : Int) {k : Int} (h : 0 < k) : x.fmod k < k := by
  rw [Int.fmod_eq_emod_of_nonneg _ (Int.le_of_lt h)]
  exact Int.emod_lt_of_pos _ h

/-! ### the bag of draws -/
/-- its five items: the cells at l, how many of k were taken, the rest of a great one, the mixed number, the draws -/
def bagF (l : Addr) (k : Nat) : List V → Prop := fun xs => ∃ i g m n : Int, xs = [.ref l, .int i, .int g, .int m, .int n] ∧ 0 ≤ i ∧ i ≤ (k : Int) ∧ 0 ≤ m ∧ m < 2147483629
/-- a bag stands at a -/
def IsBag (H : Hp) (a : Addr) : Prop := ∃ (l : Addr) (ns : List Int), H l = some (.lst (ns.map V.int)) ∧ ns.length ≤ 63 ∧ H a = some (Seal a (bagF l ns.length))
theorem IsBag.same {H H' : Hp} {a : Addr} (b : IsBag H a) (s : Same H H') : IsBag H' a := by
  obtain ⟨l, ns, h1, h2, h3⟩ := b
  exact ⟨l, ns, s _ _ h1, h2, s _ _ h3⟩
/-- the open one, as the def of the draws sees it -/
def spDraw0 : Sp := fun vs H Q _ => ∃ (a l : Addr) (ns : List Int) (k : Int) (xs : List V), vs = [.ref a, .int k] ∧ H l = some (.lst (ns.map V.int)) ∧ H a = some (.lst xs) ∧ l ≠ a ∧ bagF l ns.length xs ∧ 0 < k ∧ k < 1073741824 ∧
  ∀ (d : Int) (ys : List V), 0 ≤ d → d < k → bagF l ns.length ys → Q (.int d) (upd H a (.lst ys))
/-- a draw below k: any number -/
def spDraw : Sp := fun vs H Q _ => ∃ (a : Addr) (k : Int), vs = [.ref a, .int k] ∧ IsBag H a ∧ 0 < k ∧ k < 1073741824 ∧ ∀ d : Int, 0 ≤ d → d < k → Q (.int d) H
theorem draw_sealed {P : Program} {w : World} {K : PySem.W.Frag} {mg : Str → Option Value} {base : Heap} {k : Nat} {f : Addr} {fd : FuncData} {ps : List Str}
    (F : FnOk P w K mg base CX0 k f fd ps spDraw0) (h2 : ps.length = 2) : FnOk P w K mg base CX0 k f fd ps spDraw := by
  refine fn_seal F (fun vs H Q E h => ?_) (fun vs H Q E h => ?_)
  · obtain ⟨a, k, rfl, _⟩ := h
    exact h2.symm
  · obtain ⟨a, k, rfl, ⟨l, ns, hl, hn, ha⟩, h0, h1, q⟩ := h
    have la : l ≠ a := ne_of hl ha (by intro z; cases z)
    refine ⟨a, _, ha, fun xs hx => ⟨a, l, ns, k, xs, rfl, ?_, upd_same, la, hx, h0, h1, fun d ys hd hk hy => ⟨ys, upd_same, hy, ?_⟩⟩⟩
    · rw [upd_ne la]; exact hl
    · rw [upd_upd, upd_upd, upd_self ha]; exact q d hd hk
/-- an item drawn out of a list or a text -/
def spOf (K : PySem.W.Frag) : Sp := fun vs H Q _ => ∃ (a p : Addr) (xs : List V), vs = [.ref a, .ref p] ∧ IsBag H a ∧ SqL K H p xs ∧ 0 < xs.length ∧ xs.length ≤ 1000000 ∧ ∀ (i : Nat) (v : V), xs[i]? = some v → Q v H

/-- a def that hands back a new list, which is then sealed -/
theorem fn_seal_ret {P : Program} {w : World} {K : PySem.W.Frag} {mg : Str → Option Value} {base : Heap} {k : Nat} {f : Addr} {fd : FuncData} {ps : List Str} {sp sp' : Sp} (F : FnOk P w K mg base CX0 k f fd ps sp)
    (len : ∀ vs H Q E, sp' vs H Q E → vs.length = ps.length)
    (h : ∀ vs H Q E, sp' vs H Q E → sp vs H (fun v H' => ∃ (a : Addr) (φ : List V → Prop) (ys : List V), H' a = some (.lst ys) ∧ φ ys ∧ Q v (upd H' a (Seal a φ))) E) :
    FnOk P w K mg base CX0 k f fd ps sp' := by
  refine ⟨len, fun A outer s H args us vs Q E hr he hb hv hs => ?_⟩
  have R := F.run A outer s H args us vs _ E hr he hb hv (h vs H Q E hs)
  refine codeAny_mono R fun r s' c => ?_
  cases r with
  | error x => exact (show False from c).elim
  | ok fl =>
    cases fl with
    | ret u =>
      obtain ⟨v, H', h1, h2, h3, h4, h5, a, φ, ys, h6, h7, h8⟩ := c
      refine ⟨v, upd H' a (Seal a φ), h1, h2, ?_, hok_seal h4 h6 h7, h5, h8⟩
      refine ⟨fun b o q n i j => h3.keep b o q n i j, fun b o q n i j => h3.slot b o q n i j, fun b o q n j => none_upd h6 (h3.free b o q n j), fun b o q j => h3.there b o q j, fun b zs q => ?_, fun b o z q => ?_, fun b zs q => ?_⟩
      · have z := h3.tups b zs q
        rw [upd_ne (ne_of z h6 (by intro y; cases y))]; exact z
      · have z := h3.frzs b o z q
        rw [upd_ne (ne_of z h6 (by intro y; cases y))]; exact z
      · obtain ⟨m, z⟩ := h3.tbls b zs q
        exact ⟨m, by rw [upd_ne (ne_of z h6 (by intro y; cases y))]; exact z⟩
    | _ => exact c
def spBag0 (K : PySem.W.Frag) : Sp := fun vs H Q _ => ∃ (a : Addr) (ns : List Int), vs = [.ref a] ∧ SqL K H a (ns.map V.int) ∧ ns.length ≤ 63 ∧ ∀ (H' : Hp) (b l : Addr) (ms : List Int) (ys : List V), Same H H' → H b = none → H' l = some (.lst (ms.map V.int)) → ms.length ≤ 63 → H' b = some (.lst ys) → bagF l ms.length ys → l ≠ b → Q (.ref b) H'
/-- the bag of a script: new -/
def spBag (K : PySem.W.Frag) : Sp := fun vs H Q _ => ∃ (a : Addr) (ns : List Int), vs = [.ref a] ∧ SqL K H a (ns.map V.int) ∧ ns.length ≤ 63 ∧ ∀ (H' : Hp) (b : Addr), Same H H' → H b = none → IsBag H' b → Q (.ref b) H'
theorem bag_sealed {P : Program} {w : World} {K : PySem.W.Frag} {mg : Str → Option Value} {base : Heap} {k : Nat} {f : Addr} {fd : FuncData} {ps : List Str}
    (F : FnOk P w K mg base CX0 k f fd ps (spBag0 K)) (h2 : ps.length = 1) : FnOk P w K mg base CX0 k f fd ps (spBag K) := by
  refine fn_seal_ret F (fun vs H Q E h => ?_) (fun vs H Q E h => ?_)
  · obtain ⟨a, ns, rfl, _⟩ := h
    exact h2.symm
  · obtain ⟨a, ns, rfl, hs, hn, q⟩ := h
    refine ⟨a, ns, rfl, hs, hn, fun H' b l ms ys sm nb hl hm hb hf lb => ⟨b, _, ys, hb, hf, q _ b ?_ nb ⟨l, ms, ?_, hm, upd_same⟩⟩⟩
    · intro c o e
      rw [upd_ne (ne_of_none e nb)]
      exact sm c o e
    · rw [upd_ne lb]; exact hl
theorem cut_map (ns : List Int) (lo hi : Option Int) : ∃ ms : List Int, cutV (ns.map V.int) lo hi = ms.map V.int ∧ ms.length ≤ ns.length := by
  refine ⟨(ns.drop (HT.sIx (ns.map V.int).length 0 lo)).take (HT.sIx (ns.map V.int).length (ns.map V.int).length hi - HT.sIx (ns.map V.int).length 0 lo), ?_, ?_⟩
  · unfold cutV
    rw [List.map_take, List.map_drop]
  · rw [List.length_take, List.length_drop]
    omega
theorem small63 {n : Nat} (h : n ≤ 1000) : n ≤ sizeLine := Nat.le_of_lt (small1000 h)
end My
/-! part Kit3 -/
namespace My
open PySem PySem.Spec PyProof.Rows L2
section
variable {X : Cx} (K : PySem.W.Frag) (h : X.K = K := by rfl)
include h
theorem k_ix_list : IxR X (rIxL K) := by subst h; exact ix_list
theorem k_ix_tup : IxR X (rIxT K) := by subst h; exact ix_tup
theorem k_op_in_seq : OpR X (compareOp .In) (rIn K false) := by subst h; exact op_in_seq
theorem k_op_notIn_seq : OpR X (compareOp .NotIn) (rIn K true) := by subst h; exact op_notIn_seq
theorem k_call_len_seq : CallR X (.builtin "len") (fun xs H Q => ∃ p ys, xs = [.ref p] ∧ (SqL K H p ys ∨ SqT K H p ys) ∧ Q (.int ys.length) H) := by subst h; exact call_len_seq
theorem k_sl_list : SlR X (rSlL K) := by subst h; exact sl_list
theorem k_sl_tup : SlR X (rSlT K) := by subst h; exact sl_tup
theorem k_call_list_of : CallR X (.type "list") (fun xs H Q => ∃ p ys, xs = [.ref p] ∧ (SqL K H p ys ∨ SqT K H p ys) ∧ ∀ l, H l = none → Q (.ref l) (upd H l (.lst ys))) := by subst h; exact call_list_of
theorem k_call_tuple_of : CallR X (.type "tuple") (fun xs H Q => ∃ p ys, xs = [.ref p] ∧ ((SqL K H p ys ∧ ∀ l, H l = none → Q (.ref l) (upd H l (.tup ys))) ∨ (SqT K H p ys ∧ Q (.ref p) H))) := by subst h; exact call_tuple_of
theorem k_op_catT : OpR X (binaryOp .Add) (rCatT K) := by subst h; exact op_catT
theorem k_call_isi : CallR X (.builtin "isinstance") (rIsi K) := by subst h; exact call_isi
theorem k_call_isiT : CallR X (.builtin "isinstance") (rIsiT K) := by subst h; exact call_isiT
theorem k_op_eqD (hu : X.A.units + 64 < cLine) : OpR X (compareOp .Eq) (rEqD K) := by subst h; exact op_eqD hu
theorem k_op_neD (hu : X.A.units + 64 < cLine) : OpR X (compareOp .NotEq) (rNeD K) := by subst h; exact op_neD hu
end
section
variable {X : Cx} (K : PySem.W.Frag) (h : X.K = K := by rfl) (hc : X.calm = true := by rfl)
include h hc
theorem k_cr_all : CallR X (.builtin "all") (rAll K) := by subst h; exact cr_all hc
theorem k_cr_any : CallR X (.builtin "any") (rAny K) := by subst h; exact cr_any hc
theorem k_cr_sum : CallR X (.builtin "sum") (rSum K) := by subst h; exact cr_sum hc
end
theorem _root_.L2.Same.seqT {K : PySem.W.Frag} {H H' : Hp} {a : Addr} {xs : List V} (e : Same H H') (h : SqT K H a xs) : SqT K H' a xs := by
  rcases h with (h | ⟨o, h⟩) | h
  · exact .inl (.inl (e _ _ h))
  · exact .inl (.inr ⟨o, e _ _ h⟩)
  · exact .inr h
theorem ty_list {K : PySem.W.Frag} {H : Hp} {a : Addr} {xs : List V} (h : SqL K H a xs) : TyX K H (.ref a) (.type "list") := by
  rcases h with (h | ⟨o, h⟩) | ⟨o, _, _, h, c, _⟩
  · exact .base (.lst h)
  · exact .base (.frz h)
  · exact .kList h c
theorem ty_tuple {K : PySem.W.Frag} {H : Hp} {a : Addr} {xs : List V} (h : SqT K H a xs) : TyX K H (.ref a) (.type "tuple") := by
  rcases h with (h | ⟨o, h⟩) | ⟨o, _, _, h, c, _⟩
  · exact .base (.tup h)
  · exact .fTuple h
  · exact .kTuple h c
theorem walk_zipT {K : PySem.W.Frag} {a b : Addr} {xs ys : List V} {n : Nat} (hn : n = min xs.length ys.length) : Walk (RZ.ItzT K a b) n (fun H => SqT K H a xs ∧ SqT K H b ys) (YPair (fun i => xs[i]?) (fun i => ys[i]?)) := by
  subst hn
  refine ⟨fun i H hi q => ?_, fun H q => ⟨xs, ys, q.1, q.2, by omega⟩, fun i H v H' hi q y => ?_⟩
  · have u1 : i < xs.length := by omega
    have u2 : i < ys.length := by omega
    exact ⟨xs, ys, xs[i], ys[i], q.1, q.2, by simp [u1], by simp [u2]⟩
  · obtain ⟨T, x, z, u1, u2, u3, u4, u5⟩ := y
    exact ⟨T, x, z, u1, u2, u3, u4 xs q.1, u5 ys q.2⟩
def scalV : V → Bool
  | .non => true
  | .bl _ => true
  | .int _ => true
  | .str _ => true
  | _ => false
/-- v and w are the same data, at most n deep -/
def Eqv (K : PySem.W.Frag) (H : Hp) : Nat → V → V → Prop
  | 0, _, _ => False
  | n + 1, v, w => (v = w ∧ scalV v = true) ∨
    (∃ (a b : Addr) (xs ys : List V), v = .ref a ∧ w = .ref b ∧ SqL K H a xs ∧ SqL K H b ys ∧ xs.length = ys.length ∧ xs.length < sizeLine ∧ ∀ (i : Nat) (x y : V), xs[i]? = some x → ys[i]? = some y → Eqv K H n x y) ∨
    (∃ (a b : Addr) (xs ys : List V), v = .ref a ∧ w = .ref b ∧ SqT K H a xs ∧ SqT K H b ys ∧ xs.length = ys.length ∧ xs.length < sizeLine ∧ ∀ (i : Nat) (x y : V), xs[i]? = some x → ys[i]? = some y → Eqv K H n x y)
theorem Eqv.same {K : PySem.W.Frag} {H H' : Hp} (s : Same H H') : ∀ {n : Nat} {v w : V}, Eqv K H n v w → Eqv K H' n v w
  | 0, _, _, h => h.elim
  | n + 1, _, _, .inl h => .inl h
  | n + 1, _, _, .inr (.inl ⟨a, b, xs, ys, e1, e2, h1, h2, h3, h4, h5⟩) => .inr (.inl ⟨a, b, xs, ys, e1, e2, s.seq h1, s.seq h2, h3, h4, fun i x y hx hy => Eqv.same s (h5 i x y hx hy)⟩)
  | n + 1, _, _, .inr (.inr ⟨a, b, xs, ys, e1, e2, h1, h2, h3, h4, h5⟩) => .inr (.inr ⟨a, b, xs, ys, e1, e2, Same.seqT s h1, Same.seqT s h2, h3, h4, fun i x y hx hy => Eqv.same s (h5 i x y hx hy)⟩)
/-- the law's own comparison, of same data -/
def spSame (K : PySem.W.Frag) (n : Nat) : Sp := fun vs H Q _ => ∃ (v w : V), vs = [v, w] ∧ Eqv K H n v w ∧ ∀ H', Same H H' → Q (.bl true) H'
end My
/-! part K02a -/
namespace Kx
open PySem PySem.Spec PyProof.Rows L2 My
def topS (i : Nat) : Stmt := PySem.Challenge.pw_piercednames_k02_fresh_names_in_order.main.body.getD i (.Pass ⟨0, 0, 0, 0⟩)
abbrev s_is_name : Stmt := topS 4
abbrev N_is_name : List Str := ["value"]
theorem sc_is_name : FnScope N_is_name ["value"] (defScope s_is_name) := ⟨rfl, rfl, rfl, by decide +kernel, rfl, by decide +kernel, by decide +kernel⟩
-- slots: 0 value
abbrev s_fresh_names : Stmt := topS 5
abbrev N_fresh_names : List Str := ["many", "avoid", "taken", "found", "length", "index", "word"]
theorem sc_fresh_names : FnScope N_fresh_names ["many", "avoid"] (defScope s_fresh_names) := ⟨rfl, rfl, rfl, by decide +kernel, rfl, by decide +kernel, by decide +kernel⟩
-- slots: 0 many, 1 avoid, 2 taken, 3 found, 4 length, 5 index, 6 word
abbrev s_word_at : Stmt := topS 6
abbrev N_word_at : List Str := ["length", "index", "word", "_", "letter"]
theorem sc_word_at : FnScope N_word_at ["length", "index"] (defScope s_word_at) := ⟨rfl, rfl, rfl, by decide +kernel, rfl, by decide +kernel, by decide +kernel⟩
-- slots: 0 length, 1 index, 2 word, 3 _, 4 letter
abbrev s__law_bag : Stmt := topS 8
abbrev N__law_bag : List Str := ["_law_script", "_law_mixed", "_law_cell"]
theorem sc__law_bag : FnScope N__law_bag ["_law_script"] (defScope s__law_bag) := ⟨rfl, rfl, rfl, by decide +kernel, rfl, by decide +kernel, by decide +kernel⟩
-- slots: 0 _law_script, 1 _law_mixed, 2 _law_cell
abbrev s__law_draw : Stmt := topS 9
abbrev N__law_draw : List Str := ["_law_bag_here", "_law_many_z", "_law_cell", "_law_digit", "_law_seed"]
theorem sc__law_draw : FnScope N__law_draw ["_law_bag_here", "_law_many_z"] (defScope s__law_draw) := ⟨rfl, rfl, rfl, by decide +kernel, rfl, by decide +kernel, by decide +kernel⟩
-- slots: 0 _law_bag_here, 1 _law_many_z, 2 _law_cell, 3 _law_digit, 4 _law_seed
abbrev s__law_of : Stmt := topS 10
abbrev N__law_of : List Str := ["_law_bag_here", "_law_some"]
theorem sc__law_of : FnScope N__law_of ["_law_bag_here", "_law_some"] (defScope s__law_of) := ⟨rfl, rfl, rfl, by decide +kernel, rfl, by decide +kernel, by decide +kernel⟩
-- slots: 0 _law_bag_here, 1 _law_some
abbrev s__law_same : Stmt := topS 11
abbrev N__law_same : List Str := ["_law_found", "_law_due", "_law_key", "_law_one", "_law_two"]
theorem sc__law_same : FnScope N__law_same ["_law_found", "_law_due"] (defScope s__law_same) := ⟨rfl, rfl, rfl, by decide +kernel, rfl, by decide +kernel, by decide +kernel⟩
-- slots: 0 _law_found, 1 _law_due, 2 _law_key, 3 _law_one, 4 _law_two
abbrev s__law_keywords : Stmt := topS 12
abbrev N__law_keywords : List Str := []
theorem sc__law_keywords : FnScope N__law_keywords [] (defScope s__law_keywords) := ⟨rfl, rfl, rfl, by decide +kernel, rfl, by decide +kernel, by decide +kernel⟩
-- slots: 
abbrev s__law_letters : Stmt := topS 13
abbrev N__law_letters : List Str := []
theorem sc__law_letters : FnScope N__law_letters [] (defScope s__law_letters) := ⟨rfl, rfl, rfl, by decide +kernel, rfl, by decide +kernel, by decide +kernel⟩
-- slots: 
abbrev s__law_first_words : Stmt := topS 14
abbrev N__law_first_words : List Str := ["_law_many_z", "_law_letters_here", "_law_found", "_law_sign", "_law_one", "_law_first", "_law_late", "_law_last", "_law_word"]
theorem sc__law_first_words : FnScope N__law_first_words ["_law_many_z"] (defScope s__law_first_words) := ⟨rfl, rfl, rfl, by decide +kernel, rfl, by decide +kernel, by decide +kernel⟩
-- slots: 0 _law_many_z, 1 _law_letters_here, 2 _law_found, 3 _law_sign, 4 _law_one, 5 _law_first, 6 _law_late, 7 _law_last, 8 _law_word
abbrev s_law : Stmt := topS 15
abbrev N_law : List Str := ["_law_script", "_law_bag_here", "_law_words", "_law_turn", "_law_many_z", "_law_avoid_z", "_law_k", "_law_due", "_law_word", "_law_held", "_law_told", "_law_late", "_law_sign"]
theorem sc_law : FnScope N_law ["_law_script"] (defScope s_law) := ⟨rfl, rfl, rfl, by decide +kernel, rfl, by decide +kernel, by decide +kernel⟩
-- slots: 0 _law_script, 1 _law_bag_here, 2 _law_words, 3 _law_turn, 4 _law_many_z, 5 _law_avoid_z, 6 _law_k, 7 _law_due, 8 _law_word, 9 _law_held, 10 _law_told, 11 _law_late, 12 _law_sign
structure Tx (K : PySem.W.Frag) (mg : Str → Option Value) where
  f_is_name : Addr
  d_is_name : FuncData
  F_is_name : Fun K "is_name" "is_name" s_is_name f_is_name d_is_name
  g_is_name : mg "is_name" = some (.ref f_is_name)
  b_is_name : Binds K d_is_name ["value"] []
  f_fresh_names : Addr
  d_fresh_names : FuncData
  F_fresh_names : Fun K "fresh_names" "fresh_names" s_fresh_names f_fresh_names d_fresh_names
  g_fresh_names : mg "fresh_names" = some (.ref f_fresh_names)
  b_fresh_names : Binds K d_fresh_names ["many", "avoid"] []
  f_word_at : Addr
  d_word_at : FuncData
  F_word_at : Fun K "word_at" "word_at" s_word_at f_word_at d_word_at
  g_word_at : mg "word_at" = some (.ref f_word_at)
  b_word_at : Binds K d_word_at ["length", "index"] []
  f__law_bag : Addr
  d__law_bag : FuncData
  F__law_bag : Fun K "_law_bag" "_law_bag" s__law_bag f__law_bag d__law_bag
  g__law_bag : mg "_law_bag" = some (.ref f__law_bag)
  b__law_bag : Binds K d__law_bag ["_law_script"] []
  f__law_draw : Addr
  d__law_draw : FuncData
  F__law_draw : Fun K "_law_draw" "_law_draw" s__law_draw f__law_draw d__law_draw
  g__law_draw : mg "_law_draw" = some (.ref f__law_draw)
  b__law_draw : Binds K d__law_draw ["_law_bag_here", "_law_many_z"] []
  f__law_of : Addr
  d__law_of : FuncData
  F__law_of : Fun K "_law_of" "_law_of" s__law_of f__law_of d__law_of
  g__law_of : mg "_law_of" = some (.ref f__law_of)
  b__law_of : Binds K d__law_of ["_law_bag_here", "_law_some"] []
  f__law_same : Addr
  d__law_same : FuncData
  F__law_same : Fun K "_law_same" "_law_same" s__law_same f__law_same d__law_same
  g__law_same : mg "_law_same" = some (.ref f__law_same)
  b__law_same : Binds K d__law_same ["_law_found", "_law_due"] []
  f__law_keywords : Addr
  d__law_keywords : FuncData
  F__law_keywords : Fun K "_law_keywords" "_law_keywords" s__law_keywords f__law_keywords d__law_keywords
  g__law_keywords : mg "_law_keywords" = some (.ref f__law_keywords)
  b__law_keywords : Binds K d__law_keywords [] []
  f__law_letters : Addr
  d__law_letters : FuncData
  F__law_letters : Fun K "_law_letters" "_law_letters" s__law_letters f__law_letters d__law_letters
  g__law_letters : mg "_law_letters" = some (.ref f__law_letters)
  b__law_letters : Binds K d__law_letters [] []
  f__law_first_words : Addr
  d__law_first_words : FuncData
  F__law_first_words : Fun K "_law_first_words" "_law_first_words" s__law_first_words f__law_first_words d__law_first_words
  g__law_first_words : mg "_law_first_words" = some (.ref f__law_first_words)
  b__law_first_words : Binds K d__law_first_words ["_law_many_z"] []
  f_law : Addr
  d_law : FuncData
  F_law : Fun K "law" "law" s_law f_law d_law
  g_law : mg "law" = some (.ref f_law)
  z_all : mg "all" = none
  z_bool : mg "bool" = none
  z_dict : mg "dict" = none
  z_divmod : mg "divmod" = none
  z_int : mg "int" = none
  z_isinstance : mg "isinstance" = none
  z_len : mg "len" = none
  z_list : mg "list" = none
  z_range : mg "range" = none
  z_set : mg "set" = none
  z_str : mg "str" = none
  z_tuple : mg "tuple" = none
  z_zip : mg "zip" = none
  a_KEYWORDS : Addr
  g_KEYWORDS : mg "KEYWORDS" = some (.ref a_KEYWORDS)
  q_KEYWORDS : ∀ H : Hp, SqT K H a_KEYWORDS [.str (PySem.Str.ofString "let"), .str (PySem.Str.ofString "set"), .str (PySem.Str.ofString "out"), .str (PySem.Str.ofString "read"), .str (PySem.Str.ofString "do"), .str (PySem.Str.ofString "def"), .str (PySem.Str.ofString "if"), .str (PySem.Str.ofString "else"), .str (PySem.Str.ofString "repeat"), .str (PySem.Str.ofString "block")]
  t_LETTERS : Tok
  g_LETTERS : mg "LETTERS" = some (.str (PySem.Str.ofString "abcdefghijklmnopqrstuvwxyz") t_LETTERS)
  t_LONGEST_NAME : Tok
  g_LONGEST_NAME : mg "LONGEST_NAME" = some (.int 6 t_LONGEST_NAME)
end Kx
/-! part K02b -/
namespace Kx
open PySem PySem.Spec PyProof.Rows L2 My
section
variable {P : Program} {w : World} {K : PySem.W.Frag} {mg : Str → Option Value} {base : Heap} (T : Tx K mg)
theorem ok_draw0 : FnOk P w K mg base CX0 1 T.f__law_draw T.d__law_draw ["_law_bag_here", "_law_many_z"] spDraw0 := by
  refine T.F__law_draw.ok sc__law_draw (fun vs H Q E h => ?_) (fun cdv A outer s H vs Q E hr h => ?_)
  · obtain ⟨a, l, ns, k, xs, rfl, _⟩ := h
    rfl
  obtain ⟨a, l, ns, k, xs, rfl, hl, ha, la, ⟨i, g, m, n, rfl, i0, i1, m0, m1⟩, k0, k1, q⟩ := h
  refine ⟨_, (pss_cons (ps_asg (pe_op op_add (pe_ix ix_list (pv 0) pe_int (fun _ _ => rfl)) pe_int) (pg_sub (pv 0) pe_int set_list))
  (C8.pss_cut (ps_if (PW.pt (pw_and (pt_cmpR op_eq (pe_ix ix_list (pv 0) pe_int (fun _ _ => rfl)) pe_int (nomark _)) (pw_and1 (pt_cmpR op_lt (pe_ix ix_list (pv 0) pe_int (fun _ _ => rfl)) (pe_callB call_len_seq (by rfl) T.z_len (by decide +kernel) (pa_cons (pe_ix ix_list (pv 0) pe_int (fun _ _ => rfl)) pa_nil)) (nomark _)))))
    (pss_cons (ps_set (i := 2) sc__law_draw.nd rfl (Or.inl rfl) (pe_ix ix_list (pe_ix ix_list (pv 0) pe_int (fun _ _ => rfl)) (pe_ix ix_list (pv 0) pe_int (fun _ _ => rfl)) (fun _ _ => rfl)))
    (pss_cons (ps_asg (pe_op op_add (pe_ix ix_list (pv 0) pe_int (fun _ _ => rfl)) pe_int) (pg_sub (pv 0) pe_int set_list))
    (C8.pss_cut (ps_if (pt_cmpR op_ge (pv 2) (pe_op op_pow pe_int pe_int) (nomark _))
      (pss_one (ps_asg (pv 2) (pg_sub (pv 0) pe_int set_list)))
      pss_nil)
    (pss_one (ps_asg (pe_op op_modN (pe_callTy call_int1 (by rfl) T.z_int (by decide +kernel) (pa_cons (pe_op op_add (pe_op op_add (pe_op op_mul (pe_ix ix_list (pv 0) pe_int (fun _ _ => rfl)) pe_int) (pe_op op_mul (pe_op op_modN (pe_callTy call_int1 (by rfl) T.z_int (by decide +kernel) (pa_cons (pv 2) pa_nil)) pe_int) pe_int)) pe_int) pa_nil)) pe_int) (pg_sub (pv 0) pe_int set_list))))))
    pss_nil)
  (pss_cons (ps_if (pt_cmpR op_gt (pe_ix ix_list (pv 0) pe_int (fun _ _ => rfl)) pe_int (nomark _))
    (pss_cons (ps_set (i := 3) sc__law_draw.nd rfl (Or.inl rfl) (pe_op op_modN (pe_callTy call_int1 (by rfl) T.z_int (by decide +kernel) (pa_cons (pe_ix ix_list (pv 0) pe_int (fun _ _ => rfl)) pa_nil)) (pv 1)))
    (pss_cons (ps_asg (pe_op op_fdivN (pe_callTy call_int1 (by rfl) T.z_int (by decide +kernel) (pa_cons (pe_ix ix_list (pv 0) pe_int (fun _ _ => rfl)) pa_nil)) (pv 1)) (pg_sub (pv 0) pe_int set_list))
    (pss_one (ps_ret (pv 3)))))
    pss_nil)
  (pss_cons (ps_set (i := 4) sc__law_draw.nd rfl (Or.inl rfl) (pe_ix ix_list (pv 0) pe_int (fun _ _ => rfl)))
  (pss_cons (ps_asg (pe_op op_modN (pe_callTy call_int1 (by rfl) T.z_int (by decide +kernel) (pa_cons (pe_op op_add (pe_op op_add (pe_op op_add (pe_op op_pow (pv 4) pe_int) (pe_op op_mul (pv 4) pe_int)) (pe_op op_mul (pe_ix ix_list (pv 0) pe_int (fun _ _ => rfl)) pe_int)) pe_int) pa_nil)) pe_int) (pg_sub (pv 0) pe_int set_list))
  (pss_one (ps_ret (pe_op op_modN (pe_callTy call_int1 (by rfl) T.z_int (by decide +kernel) (pa_cons (pe_op op_add (pe_op op_fdivN (pe_ix ix_list (pv 0) pe_int (fun _ _ => rfl)) pe_int) (pe_op op_mul (pe_op op_modN (pe_callTy call_int1 (by rfl) T.z_int (by decide +kernel) (pa_cons (pe_ix ix_list (pv 0) pe_int (fun _ _ => rfl)) pa_nil)) pe_int) pe_int)) pa_nil)) (pv 1))))))))), ?_⟩
  refine ⟨_, rfl, _, _, _, _, rfl, rfl, .inl (.inl ha), atI_nat (j := 4) rfl, _, _, rfl, rfl, _, rfl, _, _, _, _, rfl, rfl, ha, rfl, ?_⟩
  refine ⟨fun σ' H' => ∃ (x2 : Option V) (i g m n : Int), σ' = [some (.ref a), some (.int k), x2, none, none] ∧ 0 ≤ i ∧ i ≤ (ns.length : Int) ∧ 0 ≤ m ∧ m < 2147483629 ∧
    H' a = some (.lst [.ref l, .int i, .int g, .int m, .int n]) ∧ ∀ ys, upd H' a (.lst ys) = upd H a (.lst ys), ?_, fun σ' H' hm => ?_⟩
  · have hl1 : upd H a (.lst [.ref l, .int i, .int g, .int m, .int (n + 1)]) l = some (.lst (ns.map V.int)) := by rw [upd_ne la]; exact hl
    refine ⟨_, rfl, _, _, _, _, rfl, rfl, .inl (.inl upd_same), atI_nat (j := 2) rfl, rfl, _, rfl, ?_⟩
    refine ite2 (fun _ => ?_) (fun _ => iteF ⟨none, i, g, m, n + 1, rfl, i0, i1, m0, m1, upd_same, fun ys => upd_upd⟩)
    refine ⟨_, rfl, _, _, _, _, rfl, rfl, .inl (.inl upd_same), atI_nat (j := 1) rfl, _, rfl, _, _, _, _, rfl, rfl, .inl (.inl upd_same), atI_nat (j := 0) rfl, l, ns.map V.int, rfl, .inl (.inl (.inl hl1)), _, _, rfl, rfl, _, rfl, ?_⟩
    refine ite2 (fun c => ?_) (fun _ => ⟨none, i, g, m, n + 1, rfl, i0, i1, m0, m1, upd_same, fun ys => upd_upd⟩)
    have c1 : i < ((ns.map V.int).length : Int) := of_decide_eq_true c
    rw [List.length_map] at c1
    have hi : i.toNat < ns.length := by omega
    have ei : i = ((i.toNat : Nat) : Int) := by omega
    have at1 : atI (ns.map V.int) i = some (.int ns[i.toNat]) := by
      have z : atI (ns.map V.int) ((i.toNat : Nat) : Int) = some (.int ns[i.toNat]) := atI_nat (by rw [List.getElem?_map, List.getElem?_eq_getElem hi] <;> rfl)
      rw [← ei] at z
      exact z
    generalize ns[i.toNat] = cell at at1
    refine ⟨_, rfl, _, _, _, _, rfl, rfl, .inl (.inl upd_same), atI_nat (j := 0) rfl, _, rfl, _, _, _, _, rfl, rfl, .inl (.inl upd_same), atI_nat (j := 1) rfl, l, _, _, _, rfl, rfl, .inl (.inl hl1), at1, ?_⟩
    refine ⟨_, rfl, _, _, _, _, rfl, rfl, .inl (.inl upd_same), atI_nat (j := 1) rfl, _, _, rfl, rfl, _, rfl, _, _, _, _, rfl, rfl, upd_same, rfl, ?_⟩
    refine ⟨fun σ' H' => ∃ g : Int, σ' = [some (.ref a), some (.int k), some (.int cell), none, none] ∧ H' a = some (.lst [.ref l, .int (i + 1), .int g, .int m, .int (n + 1)]) ∧ ∀ ys, upd H' a (.lst ys) = upd H a (.lst ys), ?_, fun σ' H' hm => ?_⟩
    · refine ⟨_, rfl, _, _, rfl, rfl, ⟨by decide, by decide, by decide⟩, _, _, rfl, rfl, _, rfl, ?_⟩
      refine ite2 (fun _ => ?_) (fun _ => ⟨g, rfl, upd_same, fun ys => ?_⟩)
      · refine ⟨_, rfl, _, rfl, _, _, _, _, rfl, rfl, upd_same, rfl, cell, rfl, upd_same, fun ys => ?_⟩
        rw [upd_upd, upd_upd, upd_upd]
      · rw [upd_upd, upd_upd]
    · obtain ⟨g, rfl, hb, hz⟩ := hm
      refine ⟨_, rfl, _, _, _, _, rfl, rfl, .inl (.inl hb), atI_nat (j := 3) rfl, _, _, rfl, rfl, .inr ⟨by decide, by decide⟩, _, rfl, .inl ⟨_, rfl, _, _, rfl, rfl, (by show (2147483563 : Int) ≠ 0; decide), _, _, rfl, rfl, .inr ⟨by decide, by decide⟩, _, _, rfl, rfl, _, _, rfl, rfl, .inl ⟨_, rfl, _, _, rfl, rfl, (by show (2147483629 : Int) ≠ 0; decide), ?_⟩⟩⟩
      refine ⟨_, rfl, _, _, _, _, rfl, rfl, hb, rfl, some (.int cell), i + 1, g, _, n + 1, rfl, by omega, by omega, fmod_lo _ (by decide), fmod_hi _ (by decide), upd_same, fun ys => ?_⟩
      rw [upd_upd]
      exact hz ys
  · obtain ⟨x2, i, g, m, n, rfl, i0, i1, m0, m1, hb, hz⟩ := hm
    refine ⟨_, rfl, _, _, _, _, rfl, rfl, .inl (.inl hb), atI_nat (j := 2) rfl, _, _, rfl, rfl, _, rfl, ?_⟩
    refine ite2 (fun c => ?_) (fun _ => ?_)
    · -- the rest of a great one
      refine ⟨_, rfl, _, _, _, _, rfl, rfl, .inl (.inl hb), atI_nat (j := 2) rfl, .inl ⟨_, rfl, _, rfl, _, _, rfl, rfl, (by show k ≠ 0; omega), ?_⟩⟩
      refine ⟨_, rfl, _, _, _, _, rfl, rfl, .inl (.inl hb), atI_nat (j := 2) rfl, .inl ⟨_, rfl, _, rfl, _, _, rfl, rfl, ⟨by omega, by omega⟩, ?_⟩⟩
      refine ⟨_, rfl, _, _, _, _, rfl, rfl, hb, rfl, _, rfl, ?_⟩
      rw [hz]
      exact q _ _ (fmod_lo _ k0) (fmod_hi _ k0) ⟨i, _, m, n, rfl, i0, i1, m0, m1⟩
    · refine ⟨_, rfl, _, _, _, _, rfl, rfl, .inl (.inl hb), atI_nat (j := 3) rfl, ?_⟩
      refine ⟨_, rfl, _, _, rfl, rfl, ⟨by decide, by decide, by omega⟩, _, rfl, _, _, rfl, rfl, .inl ⟨by omega, by omega⟩, _, _, rfl, rfl, _, rfl, _, _, _, _, rfl, rfl, .inl (.inl hb), atI_nat (j := 4) rfl, _, _, rfl, rfl, .inr ⟨by decide, by decide⟩, _, _, rfl, rfl, _, _, rfl, rfl,
        .inl ⟨_, rfl, _, _, rfl, rfl, (by show (2147483629 : Int) ≠ 0; decide), ?_⟩⟩
      refine ⟨_, rfl, _, _, _, _, rfl, rfl, hb, rfl, ?_⟩
      refine ⟨_, rfl, _, _, _, _, rfl, rfl, .inl (.inl upd_same), atI_nat (j := 3) rfl, _, _, rfl, rfl, ⟨by decide, by decide⟩, _, rfl, _, _, _, _, rfl, rfl, .inl (.inl upd_same), atI_nat (j := 3) rfl, .inl ⟨_, rfl, _, _, rfl, rfl, (by show (7907 : Int) ≠ 0; decide), _, _, rfl, rfl, .inr ⟨by decide, by decide⟩, _, _, rfl, rfl, .inl ⟨_, rfl, _, rfl, _, _, rfl, rfl, (by show k ≠ 0; omega), ?_⟩⟩⟩
      rw [hz]
      exact q _ _ (fmod_lo _ k0) (fmod_hi _ k0) ⟨i, g, _, n, rfl, i0, i1, fmod_lo _ (by decide), fmod_hi _ (by decide)⟩
theorem ok_draw : FnOk P w K mg base CX0 1 T.f__law_draw T.d__law_draw ["_law_bag_here", "_law_many_z"] spDraw := draw_sealed (ok_draw0 T) rfl
theorem ok_of : FnOk P w K mg base CX0 2 T.f__law_of T.d__law_of ["_law_bag_here", "_law_some"] (spOf K) := by
  have G__law_draw := ok_draw (P := P) (w := w) (base := base) T
  refine T.F__law_of.ok sc__law_of (fun vs H Q E h => ?_) (fun cdv A outer s H vs Q E hr h => ?_)
  · obtain ⟨a, p, xs, rfl, _⟩ := h
    rfl
  obtain ⟨a, p, xs, rfl, hb, hp, h0, h1, q⟩ := h
  refine ⟨_, (pss_one (ps_ret (pe_ix ix_list (pv 1) (pe_call G__law_draw (hr.mono (by decide)) (by rfl) T.g__law_draw T.F__law_draw.kp T.b__law_draw .nil pass0 (pa_cons (pv 0) (pa_cons (pe_callB call_len_seq (by rfl) T.z_len (by decide +kernel) (pa_cons (pv 1) pa_nil)) pa_nil))) (fun _ _ => rfl)))), ?_⟩
  refine ⟨_, rfl, _, rfl, _, rfl, _, xs, rfl, .inl hp, a, _, rfl, hb, by omega, by omega, fun d d0 d1 => ?_⟩
  have hd : d.toNat < xs.length := by omega
  have ed : d = ((d.toNat : Nat) : Int) := by omega
  have z : atI xs ((d.toNat : Nat) : Int) = some xs[d.toNat] := atI_nat (List.getElem?_eq_getElem hd)
  rw [← ed] at z
  exact ⟨_, _, _, _, rfl, rfl, hp, z, q d.toNat _ (List.getElem?_eq_getElem hd)⟩
theorem ok_bag0 : FnOk P w K mg base CX0 1 T.f__law_bag T.d__law_bag ["_law_script"] (spBag0 K) := by
  refine T.F__law_bag.ok sc__law_bag (fun vs H Q E h => ?_) (fun cdv A outer s H vs Q E hr h => ?_)
  · obtain ⟨a, ns, rfl, _⟩ := h
    rfl
  obtain ⟨a, ns, rfl, hs, hn, q⟩ := h
  refine ⟨_, (pss_cons (ps_set (i := 1) sc__law_bag.nd rfl (Or.inl rfl) pe_int)
  (pss_cons (ps_for PassesOwn.never rfl (pi_list (pe_slice sl_list (pv 0) po_none (po_some pe_int))) (pg_name (i := 2) sc__law_bag.nd rfl (Or.inl rfl))
    (pss_one (ps_set (i := 1) sc__law_bag.nd rfl (Or.inl rfl) (pe_op op_modN (pe_callTy call_int1 (by rfl) T.z_int (by decide +kernel) (pa_cons (pe_op op_add (pe_op op_add (pe_op op_mul (pv 1) pe_int) (pe_op op_modN (pe_callTy call_int1 (by rfl) T.z_int (by decide +kernel) (pa_cons (pv 2) pa_nil)) pe_int)) pe_int) pa_nil)) pe_int))))
  (pss_one (ps_ret (pe_lst (pa_cons (pe_callTy call_list_of (by rfl) T.z_list (by decide +kernel) (pa_cons (pe_slice sl_list (pv 0) po_none (po_some pe_int)) pa_nil)) (pa_cons pe_int (pa_cons pe_int (pa_cons (pv 1) (pa_cons pe_int pa_nil)))))))))), ?_⟩
  obtain ⟨ms, em, hm⟩ := cut_map ns none (some 63)
  refine ⟨_, rfl, 63, rfl, a, _, rfl, hs, fun p np => ?_⟩
  rw [em]
  refine ⟨p, rfl, ⟨_, .inl (.inl upd_same)⟩, ?_⟩
  refine for_list (K := K) (a := p) (xs := ms.map V.int) (fun _ σ H' => ∃ (m : Int) (x : Option V), σ = [some (.ref a), some (.int m), x] ∧ 0 ≤ m ∧ m < 2147483629 ∧ H' = upd H p (.lst (ms.map V.int))) ⟨12028, none, rfl, by decide, by decide, rfl⟩ ?_ ?_ ?_
  · rintro i σ H' _ ⟨m, x, _, _, _, rfl⟩
    exact .inl (.inl upd_same)
  · rintro i v σ H' hv ⟨m, x, rfl, m0, m1, rfl⟩
    rw [List.getElem?_map] at hv
    obtain ⟨c, hc, rfl⟩ := Option.map_eq_some_iff.mp hv
    refine ⟨_, rfl, _, _, rfl, rfl, .inr ⟨by decide, by decide⟩, _, rfl, .inl ⟨_, rfl, _, _, rfl, rfl, (by show (2147483563 : Int) ≠ 0; decide), _, _, rfl, rfl, _, _, rfl, rfl, .inl ⟨_, rfl, _, _, rfl, rfl, (by show (2147483629 : Int) ≠ 0; decide), ?_⟩⟩⟩
    exact ⟨_, _, rfl, fmod_lo _ (by decide), fmod_hi _ (by decide), rfl⟩
  · rintro σ H' ⟨m, x, rfl, m0, m1, rfl⟩
    have s1 : Same H (upd H p (.lst (ms.map V.int))) := same_new np _
    refine ⟨_, rfl, 63, rfl, a, _, rfl, s1.seq hs, fun p2 np2 => ?_⟩
    rw [em]
    have s2 := same_new np2 (.lst (ms.map V.int))
    refine ⟨p2, _, rfl, .inl (.inl (.inl upd_same)), fun l nl => ?_⟩
    have s3 := same_new nl (.lst (ms.map V.int))
    refine ⟨_, rfl, (by show 5 ≤ sizeLine; decide), fun b nb => ?_⟩
    have s4 := same_new nb (.lst [.ref l, .int 0, .int 0, .int m, .int 0])
    have lb : l ≠ b := fun e => by
      rw [← e, upd_same] at nb
      cases nb
    refine q _ b l ms _ (s1.trans (s2.trans (s3.trans s4))) ((s1.trans (s2.trans s3)).free nb) ?_ (by omega) upd_same ⟨0, 0, m, 0, rfl, by omega, by omega, m0, m1⟩ lb
    exact s4 _ _ upd_same
theorem ok_bag : FnOk P w K mg base CX0 1 T.f__law_bag T.d__law_bag ["_law_script"] (spBag K) := bag_sealed (ok_bag0 T) rfl
end
end Kx
/-! part K02c -/
namespace Kx
open PySem PySem.Spec PyProof.Rows L2 My
section
variable {P : Program} {w : World} {K : PySem.W.Frag} {mg : Str → Option Value} {base : Heap} (T : Tx K mg)
theorem ok_same1 {n : Nat} (G__law_same : FnOk P w K mg base CX0 n T.f__law_same T.d__law_same ["_law_found", "_law_due"] (spSame K n)) : FnOk P w K mg base CX0 (n + 1) T.f__law_same T.d__law_same ["_law_found", "_law_due"] (spSame K (n + 1)) := by
  refine T.F__law_same.ok sc__law_same (fun vs H Q E h => ?_) (fun cdv A outer s H vs Q E hr h => ?_)
  · obtain ⟨v, w, rfl, _⟩ := h
    rfl
  obtain ⟨v, w, rfl, h, q⟩ := h
  refine ⟨_, (pss_cons (ps_if (pt_val (pe_callB call_isi (by rfl) T.z_isinstance (by decide +kernel) (pa_cons (pv 1) (pa_cons (pe_bltn (v := .ty "dict") (by rfl) T.z_dict (by decide +kernel) rfl) pa_nil))))
    (pss_cons (ps_if (PW.pt (pw_or (pt_not (pt_val (pe_callB call_isi (by rfl) T.z_isinstance (by decide +kernel) (pa_cons (pv 0) (pa_cons (pe_bltn (v := .ty "dict") (by rfl) T.z_dict (by decide +kernel) rfl) pa_nil))))) (pw_or (pt_cmpR op_ne (pe_callB call_len_seq (by rfl) T.z_len (by decide +kernel) (pa_cons (pv 0) pa_nil)) (pe_callB call_len_seq (by rfl) T.z_len (by decide +kernel) (pa_cons (pv 1) pa_nil)) (nomark _)) (pw_or1 (pt_not (pt_val (pe_callB (cr_all rfl) (by rfl) T.z_all (by decide +kernel) (pa_cons (pe_lc (own := [("_law_key", 2)]) (g := gName 2) (by rfl) sc__law_same.nd (pi_list (pe_callTy call_list_of (by rfl) T.z_list (by decide +kernel) (pa_cons (pv 1) pa_nil))) (blkOk_by (own := [("_law_key", 2)]) (N := N__law_same) (sc := defScope s__law_same) (by decide +kernel)) (fun _ _ _ _ _ => (pg_name (i := 2) sc__law_same.nd rfl (Or.inl rfl))) (fun _ _ _ _ _ => pts_nil) (fun _ _ _ _ _ => (pe_cmpR (k_op_in_seq K) (pv 2) (pv 0) (by rfl)))) pa_nil))))))))
      (pss_one (ps_ret pe_bl))
      pss_nil)
    (pss_one (ps_ret (pe_callB (cr_all rfl) (by rfl) T.z_all (by decide +kernel) (pa_cons (pe_lc (own := [("_law_key", 2)]) (g := gName 2) (by rfl) sc__law_same.nd (pi_list (pe_callTy call_list_of (by rfl) T.z_list (by decide +kernel) (pa_cons (pv 1) pa_nil))) (blkOk_by (own := [("_law_key", 2)]) (N := N__law_same) (sc := defScope s__law_same) (by decide +kernel)) (fun _ _ _ _ _ => (pg_name (i := 2) sc__law_same.nd rfl (Or.inl rfl))) (fun _ _ _ _ _ => pts_nil) (fun _ _ _ _ _ => (pe_call G__law_same hr (by rfl) T.g__law_same T.F__law_same.kp T.b__law_same .nil pass0 (pa_cons (pe_ix (k_ix_list K) (pv 0) (pv 2) (fun _ _ => rfl)) (pa_cons (pe_ix (k_ix_list K) (pv 1) (pv 2) (fun _ _ => rfl)) pa_nil))))) pa_nil)))))
    pss_nil)
  (pss_cons (ps_if (pt_val (pe_callB call_isiT (by rfl) T.z_isinstance (by decide +kernel) (pa_cons (pv 1) (pa_cons (pe_tup (pa_cons (pe_bltn (v := .ty "list") (by rfl) T.z_list (by decide +kernel) rfl) (pa_cons (pe_bltn (v := .ty "tuple") (by rfl) T.z_tuple (by decide +kernel) rfl) pa_nil))) pa_nil))))
    (pss_cons (ps_if (PW.pt (pw_or (pt_cmpR op_ne (pe_callB call_isi (by rfl) T.z_isinstance (by decide +kernel) (pa_cons (pv 0) (pa_cons (pe_bltn (v := .ty "list") (by rfl) T.z_list (by decide +kernel) rfl) pa_nil))) (pe_callB call_isi (by rfl) T.z_isinstance (by decide +kernel) (pa_cons (pv 1) (pa_cons (pe_bltn (v := .ty "list") (by rfl) T.z_list (by decide +kernel) rfl) pa_nil))) (nomark _)) (pw_or1 (pt_cmpR op_ne (pe_callB call_isi (by rfl) T.z_isinstance (by decide +kernel) (pa_cons (pv 0) (pa_cons (pe_bltn (v := .ty "tuple") (by rfl) T.z_tuple (by decide +kernel) rfl) pa_nil))) (pe_callB call_isi (by rfl) T.z_isinstance (by decide +kernel) (pa_cons (pv 1) (pa_cons (pe_bltn (v := .ty "tuple") (by rfl) T.z_tuple (by decide +kernel) rfl) pa_nil))) (nomark _)))))
      (pss_one (ps_ret pe_bl))
      pss_nil)
    (pss_one (ps_ret (pe_and (pe_cmpR op_eq (pe_callB call_len_seq (by rfl) T.z_len (by decide +kernel) (pa_cons (pv 0) pa_nil)) (pe_callB call_len_seq (by rfl) T.z_len (by decide +kernel) (pa_cons (pv 1) pa_nil)) (nomark _)) (pe_one (pe_callB (cr_all rfl) (by rfl) T.z_all (by decide +kernel) (pa_cons (pe_lc (own := [("_law_one", 3), ("_law_two", 4)]) (g := gTup K 2 (gCons (gName 3) (gCons (gName 4) gNil))) (by rfl) sc__law_same.nd (RZ.pi_zipA (by rfl) T.z_zip (pa_cons (pv 0) (pa_cons (pv 1) pa_nil))) (blkOk_by (own := [("_law_one", 3), ("_law_two", 4)]) (N := N__law_same) (sc := defScope s__law_same) (by decide +kernel)) (fun _ _ _ _ _ => (pg_tup (by rfl) (pgs_cons (pg_name (i := 3) sc__law_same.nd rfl (Or.inl rfl)) (pgs_cons (pg_name (i := 4) sc__law_same.nd rfl (Or.inl rfl)) pgs_nil)))) (fun _ _ _ _ _ => pts_nil) (fun _ _ _ _ _ => (pe_call G__law_same hr (by rfl) T.g__law_same T.F__law_same.kp T.b__law_same .nil pass0 (pa_cons (pv 3) (pa_cons (pv 4) pa_nil))))) pa_nil)))))))
    pss_nil)
  (pss_cons (ps_if (PW.pt (pw_or (pt_cmpR op_isN (pv 1) pe_non (nomark _)) (pw_or1 (pt_cmpR op_isN (pv 0) pe_non (nomark _)))))
    (pss_one (ps_ret (pe_and (pe_cmpR op_isN (pv 1) pe_non (nomark _)) (pe_one (pe_cmpR op_isN (pv 0) pe_non (nomark _))))))
    pss_nil)
  (pss_cons (ps_if (PW.pt (pw_or (pt_cmpR op_ne (pe_callB call_isi (by rfl) T.z_isinstance (by decide +kernel) (pa_cons (pv 0) (pa_cons (pe_bltn (v := .ty "bool") (by rfl) T.z_bool (by decide +kernel) rfl) pa_nil))) (pe_callB call_isi (by rfl) T.z_isinstance (by decide +kernel) (pa_cons (pv 1) (pa_cons (pe_bltn (v := .ty "bool") (by rfl) T.z_bool (by decide +kernel) rfl) pa_nil))) (nomark _)) (pw_or1 (pt_cmpR op_ne (pe_callB call_isi (by rfl) T.z_isinstance (by decide +kernel) (pa_cons (pv 0) (pa_cons (pe_bltn (v := .ty "int") (by rfl) T.z_int (by decide +kernel) rfl) pa_nil))) (pe_callB call_isi (by rfl) T.z_isinstance (by decide +kernel) (pa_cons (pv 1) (pa_cons (pe_bltn (v := .ty "int") (by rfl) T.z_int (by decide +kernel) rfl) pa_nil))) (nomark _)))))
    (pss_one (ps_ret pe_bl))
    pss_nil)
  (pss_one (ps_ret (pe_and (pe_cmpR op_eq (pe_callB call_isi (by rfl) T.z_isinstance (by decide +kernel) (pa_cons (pv 0) (pa_cons (pe_bltn (v := .ty "str") (by rfl) T.z_str (by decide +kernel) rfl) pa_nil))) (pe_callB call_isi (by rfl) T.z_isinstance (by decide +kernel) (pa_cons (pv 1) (pa_cons (pe_bltn (v := .ty "str") (by rfl) T.z_str (by decide +kernel) rfl) pa_nil))) (nomark _)) (pe_one (pe_cmpR op_eq (pv 0) (pv 1) (nomark _)))))))))), ?_⟩
  rcases h with ⟨rfl, hsc⟩ | ⟨a, b, xs, ys, rfl, rfl, h1, h2, hlen, hsz, hall⟩ | ⟨a, b, xs, ys, rfl, rfl, h1, h2, hlen, hsz, hall⟩
  · cases v with
    | non => 
      · -- none
        refine ⟨_, rfl, _, _, .type "NoneType", .type "dict", false, rfl, .ty _, .base .non, kit_ty (by decide +kernel), _, rfl, iteF ?_⟩
        refine ⟨_, rfl, (by show 2 ≤ sizeLine; decide), fun p np => ?_⟩
        refine ⟨_, p, _, .type "NoneType", [.type "list", .type "tuple"], false, rfl, upd_same, .cons (.ty _) (.cons (.ty _) .nil), .base .non, kitAny_cons (b := false) (kit_ty (by decide +kernel)) (fun _ => kitAny_cons (b := false) (kit_ty (by decide +kernel)) (fun _ => rfl) (fun z => nomatch z)) (fun z => nomatch z), _, rfl, iteF ?_⟩
        refine ⟨_, rfl, rfl, _, rfl, iteT ?_⟩
        refine iteT ?_
        refine ⟨_, rfl, rfl, _, rfl, iteT ?_⟩
        exact ⟨_, rfl, rfl, q _ (same_new np _)⟩
    | bl x => 
      · -- bool
        refine ⟨_, rfl, _, _, .type "bool", .type "dict", false, rfl, .ty _, .base (.bl _), kit_ty (by decide +kernel), _, rfl, iteF ?_⟩
        refine ⟨_, rfl, (by show 2 ≤ sizeLine; decide), fun p np => ?_⟩
        refine ⟨_, p, _, .type "bool", [.type "list", .type "tuple"], false, rfl, upd_same, .cons (.ty _) (.cons (.ty _) .nil), .base (.bl _), kitAny_cons (b := false) (kit_ty (by decide +kernel)) (fun _ => kitAny_cons (b := false) (kit_ty (by decide +kernel)) (fun _ => rfl) (fun z => nomatch z)) (fun z => nomatch z), _, rfl, iteF ?_⟩
        refine ⟨_, rfl, rfl, _, rfl, iteF ⟨_, rfl, rfl, _, rfl, iteF ?_⟩⟩
        refine ⟨_, rfl, _, _, .type "bool", .type "bool", true, rfl, .ty _, .base (.bl _), kit_ty (by decide +kernel), _, rfl, _, _, .type "bool", .type "bool", true, rfl, .ty _, .base (.bl _), kit_ty (by decide +kernel), rfl, _, rfl, iteF ?_⟩
        refine ⟨_, rfl, _, _, .type "bool", .type "int", true, rfl, .ty _, .base (.bl _), kit_ty (by decide +kernel), _, rfl, _, _, .type "bool", .type "int", true, rfl, .ty _, .base (.bl _), kit_ty (by decide +kernel), rfl, _, rfl, iteF ?_⟩
        refine ⟨_, rfl, _, _, .type "bool", .type "str", false, rfl, .ty _, .base (.bl _), kit_ty (by decide +kernel), _, rfl, _, _, .type "bool", .type "str", false, rfl, .ty _, .base (.bl _), kit_ty (by decide +kernel), rfl, _, rfl, iteT ?_⟩
        refine ⟨_, rfl, _, rfl, rfl, ?_⟩
        rw [decide_eq_true rfl]
        exact q _ (same_new np _)
    | int x => 
      · -- int
        refine ⟨_, rfl, _, _, .type "int", .type "dict", false, rfl, .ty _, .base (.int _), kit_ty (by decide +kernel), _, rfl, iteF ?_⟩
        refine ⟨_, rfl, (by show 2 ≤ sizeLine; decide), fun p np => ?_⟩
        refine ⟨_, p, _, .type "int", [.type "list", .type "tuple"], false, rfl, upd_same, .cons (.ty _) (.cons (.ty _) .nil), .base (.int _), kitAny_cons (b := false) (kit_ty (by decide +kernel)) (fun _ => kitAny_cons (b := false) (kit_ty (by decide +kernel)) (fun _ => rfl) (fun z => nomatch z)) (fun z => nomatch z), _, rfl, iteF ?_⟩
        refine ⟨_, rfl, rfl, _, rfl, iteF ⟨_, rfl, rfl, _, rfl, iteF ?_⟩⟩
        refine ⟨_, rfl, _, _, .type "int", .type "bool", false, rfl, .ty _, .base (.int _), kit_ty (by decide +kernel), _, rfl, _, _, .type "int", .type "bool", false, rfl, .ty _, .base (.int _), kit_ty (by decide +kernel), rfl, _, rfl, iteF ?_⟩
        refine ⟨_, rfl, _, _, .type "int", .type "int", true, rfl, .ty _, .base (.int _), kit_ty (by decide +kernel), _, rfl, _, _, .type "int", .type "int", true, rfl, .ty _, .base (.int _), kit_ty (by decide +kernel), rfl, _, rfl, iteF ?_⟩
        refine ⟨_, rfl, _, _, .type "int", .type "str", false, rfl, .ty _, .base (.int _), kit_ty (by decide +kernel), _, rfl, _, _, .type "int", .type "str", false, rfl, .ty _, .base (.int _), kit_ty (by decide +kernel), rfl, _, rfl, iteT ?_⟩
        refine ⟨_, rfl, _, rfl, rfl, ?_⟩
        rw [decide_eq_true rfl]
        exact q _ (same_new np _)
    | str x => 
      · -- str
        refine ⟨_, rfl, _, _, .type "str", .type "dict", false, rfl, .ty _, .base (.str _), kit_ty (by decide +kernel), _, rfl, iteF ?_⟩
        refine ⟨_, rfl, (by show 2 ≤ sizeLine; decide), fun p np => ?_⟩
        refine ⟨_, p, _, .type "str", [.type "list", .type "tuple"], false, rfl, upd_same, .cons (.ty _) (.cons (.ty _) .nil), .base (.str _), kitAny_cons (b := false) (kit_ty (by decide +kernel)) (fun _ => kitAny_cons (b := false) (kit_ty (by decide +kernel)) (fun _ => rfl) (fun z => nomatch z)) (fun z => nomatch z), _, rfl, iteF ?_⟩
        refine ⟨_, rfl, rfl, _, rfl, iteF ⟨_, rfl, rfl, _, rfl, iteF ?_⟩⟩
        refine ⟨_, rfl, _, _, .type "str", .type "bool", false, rfl, .ty _, .base (.str _), kit_ty (by decide +kernel), _, rfl, _, _, .type "str", .type "bool", false, rfl, .ty _, .base (.str _), kit_ty (by decide +kernel), rfl, _, rfl, iteF ?_⟩
        refine ⟨_, rfl, _, _, .type "str", .type "int", false, rfl, .ty _, .base (.str _), kit_ty (by decide +kernel), _, rfl, _, _, .type "str", .type "int", false, rfl, .ty _, .base (.str _), kit_ty (by decide +kernel), rfl, _, rfl, iteF ?_⟩
        refine ⟨_, rfl, _, _, .type "str", .type "str", true, rfl, .ty _, .base (.str _), kit_ty (by decide +kernel), _, rfl, _, _, .type "str", .type "str", true, rfl, .ty _, .base (.str _), kit_ty (by decide +kernel), rfl, _, rfl, iteT ?_⟩
        refine ⟨_, rfl, _, rfl, rfl, ?_⟩
        rw [decide_eq_true rfl]
        exact q _ (same_new np _)
    | _ => cases hsc
  · -- list
    refine ⟨_, rfl, _, _, .type "list", .type "dict", false, rfl, .ty _, (ty_list h2), kit_ty (by decide +kernel), _, rfl, iteF ?_⟩
    refine ⟨_, rfl, (by show 2 ≤ sizeLine; decide), fun p np => ?_⟩
    have g1 := h1
    have g2 := h2
    have sp := same_new np (.tup [.ty "list", .ty "tuple"])
    replace h1 := sp.seq h1
    replace h2 := sp.seq h2
    refine ⟨_, p, _, .type "list", [.type "list", .type "tuple"], true, rfl, upd_same, .cons (.ty _) (.cons (.ty _) .nil), (ty_list h2), kitAny_cons (b := true) (kit_ty (by decide +kernel)) (fun z => nomatch z) (fun _ => rfl), _, rfl, iteT ?_⟩
    refine ⟨_, rfl, _, _, .type "list", .type "list", true, rfl, .ty _, (ty_list h1), kit_ty (by decide +kernel), _, rfl, _, _, .type "list", .type "list", true, rfl, .ty _, (ty_list h2), kit_ty (by decide +kernel), rfl, _, rfl, iteF ?_⟩
    refine ⟨_, rfl, _, _, .type "list", .type "tuple", false, rfl, .ty _, (ty_list h1), kit_ty (by decide +kernel), _, rfl, _, _, .type "list", .type "tuple", false, rfl, .ty _, (ty_list h2), kit_ty (by decide +kernel), rfl, _, rfl, iteF ?_⟩
    refine ⟨_, rfl, _, _, rfl, .inl h1, _, rfl, _, _, rfl, .inl h2, rfl, ?_⟩
    refine ⟨_, rfl, ?_⟩
    rw [show decide (V.int (xs.length : Int) = V.int (ys.length : Int)) = true by rw [hlen]; exact decide_eq_true rfl]
    refine iteT ?_
    refine ⟨_, rfl, _, rfl, _, _, xs, ys, rfl, .inl ⟨h1, h2, fun D nD => ?_⟩⟩
    have sD := same_new nD (.lst [])
    refine lc_it (walk_zip (K := K) (a := a) (b := b) (xs := xs) (ys := ys) (n := xs.length) (by omega)) (fun i H' => Same H H' ∧ H' D = some (.lst ((List.replicate i true).map V.bl))) ⟨sp.trans sD, upd_same⟩ (fun i H' _ hp => ⟨hp.1.seq g1, hp.1.seq g2⟩) ?_ ?_
    · rintro i v H1 H2 hi ⟨hs1, hd1⟩ ⟨P, x, y, rfl, nP, rfl, hx, hy⟩
      have sP := same_new nP (.tup [x, y])
      refine ⟨P, _, rfl, .inl (.inl upd_same), rfl, _, _, rfl, _, _, rfl, rfl, rfl, ?_⟩

      refine ⟨_, rfl, _, rfl, x, y, rfl, (hall i x y hx hy).same (hs1.trans sP), fun H3 s3 => ?_⟩
      refine ⟨_, s3 _ _ (sP _ _ hd1), ?_, ?_, ?_⟩
      · rw [List.length_map, List.length_replicate]
        omega
      · intro c o e
        have nc : c ≠ D := ne_of_none (sp _ _ e) nD
        rw [upd_ne nc]
        exact s3 _ _ (sP _ _ (hs1 _ _ e))
      · rw [upd_same, List.replicate_succ', List.map_append]
        rfl
    · rintro H1 ⟨hs1, hd1⟩
      refine ⟨D, _, rfl, .inl (.inl hd1), ?_⟩
      rw [show (List.replicate xs.length true).all id = true by simp]
      exact q _ hs1
  · -- tuple
    refine ⟨_, rfl, _, _, .type "tuple", .type "dict", false, rfl, .ty _, (ty_tuple h2), kit_ty (by decide +kernel), _, rfl, iteF ?_⟩
    refine ⟨_, rfl, (by show 2 ≤ sizeLine; decide), fun p np => ?_⟩
    have g1 := h1
    have g2 := h2
    have sp := same_new np (.tup [.ty "list", .ty "tuple"])
    replace h1 := sp.seqT h1
    replace h2 := sp.seqT h2
    refine ⟨_, p, _, .type "tuple", [.type "list", .type "tuple"], true, rfl, upd_same, .cons (.ty _) (.cons (.ty _) .nil), (ty_tuple h2), kitAny_cons (b := false) (kit_ty (by decide +kernel)) (fun _ => kitAny_cons (b := true) (kit_ty (by decide +kernel)) (fun z => nomatch z) (fun _ => rfl)) (fun z => nomatch z), _, rfl, iteT ?_⟩
    refine ⟨_, rfl, _, _, .type "tuple", .type "list", false, rfl, .ty _, (ty_tuple h1), kit_ty (by decide +kernel), _, rfl, _, _, .type "tuple", .type "list", false, rfl, .ty _, (ty_tuple h2), kit_ty (by decide +kernel), rfl, _, rfl, iteF ?_⟩
    refine ⟨_, rfl, _, _, .type "tuple", .type "tuple", true, rfl, .ty _, (ty_tuple h1), kit_ty (by decide +kernel), _, rfl, _, _, .type "tuple", .type "tuple", true, rfl, .ty _, (ty_tuple h2), kit_ty (by decide +kernel), rfl, _, rfl, iteF ?_⟩
    refine ⟨_, rfl, _, _, rfl, .inr h1, _, rfl, _, _, rfl, .inr h2, rfl, ?_⟩
    refine ⟨_, rfl, ?_⟩
    rw [show decide (V.int (xs.length : Int) = V.int (ys.length : Int)) = true by rw [hlen]; exact decide_eq_true rfl]
    refine iteT ?_
    refine ⟨_, rfl, _, rfl, _, _, xs, ys, rfl, .inr ⟨h1, h2, fun D nD => ?_⟩⟩
    have sD := same_new nD (.lst [])
    refine lc_it (walk_zipT (K := K) (a := a) (b := b) (xs := xs) (ys := ys) (n := xs.length) (by omega)) (fun i H' => Same H H' ∧ H' D = some (.lst ((List.replicate i true).map V.bl))) ⟨sp.trans sD, upd_same⟩ (fun i H' _ hp => ⟨hp.1.seqT g1, hp.1.seqT g2⟩) ?_ ?_
    · rintro i v H1 H2 hi ⟨hs1, hd1⟩ ⟨P, x, y, rfl, nP, rfl, hx, hy⟩
      have sP := same_new nP (.tup [x, y])
      refine ⟨P, _, rfl, .inl (.inl upd_same), rfl, _, _, rfl, _, _, rfl, rfl, rfl, ?_⟩

      refine ⟨_, rfl, _, rfl, x, y, rfl, (hall i x y hx hy).same (hs1.trans sP), fun H3 s3 => ?_⟩
      refine ⟨_, s3 _ _ (sP _ _ hd1), ?_, ?_, ?_⟩
      · rw [List.length_map, List.length_replicate]
        omega
      · intro c o e
        have nc : c ≠ D := ne_of_none (sp _ _ e) nD
        rw [upd_ne nc]
        exact s3 _ _ (sP _ _ (hs1 _ _ e))
      · rw [upd_same, List.replicate_succ', List.map_append]
        rfl
    · rintro H1 ⟨hs1, hd1⟩
      refine ⟨D, _, rfl, .inl (.inl hd1), ?_⟩
      rw [show (List.replicate xs.length true).all id = true by simp]
      exact q _ hs1
end
end Kx
/-! part Kit4 -/
namespace My
open PySem PySem.Spec PyProof.Rows L2
/-! ### words of letters -/
abbrev az : Str := Str.ofString "abcdefghijklmnopqrstuvwxyz"
def kwL : List Str := [Str.ofString "let", Str.ofString "set", Str.ofString "out", Str.ofString "read", Str.ofString "do", Str.ofString "def", Str.ofString "if", Str.ofString "else", Str.ofString "repeat", Str.ofString "block"]
/-- the program's own test of a name -/
def nameB (z : Str) : Bool := if (z.length : Int) > 6 then false else Txt.isascii z && (Txt.isalpha z && (Txt.islower z && !kwL.contains z))
def toS (l : List Nat) : Str := ⟨l.toArray⟩
/-- the last t letters of the word with an index -/
def sfx : Nat → Nat → List Nat
  | 0, _ => []
  | t + 1, i => (97 + (i / 26 ^ t) % 26) :: sfx t i
theorem sfx_len : ∀ t i, (sfx t i).length = t
  | 0, _ => rfl
  | t + 1, i => by
    show (sfx t i).length + 1 = t + 1
    rw [sfx_len t i]
theorem toS_len (l : List Nat) : (toS l).length = l.length := by
  show l.toArray.size = l.length
  exact List.size_toArray ..
theorem toS_cons (c : Nat) (l : List Nat) : (⟨#[c]⟩ : Str) ++ toS l = toS (c :: l) := by
  show (⟨#[c] ++ l.toArray⟩ : Str) = ⟨(c :: l).toArray⟩
  rw [show #[c] ++ l.toArray = (c :: l).toArray by simp]
theorem az_at {k : Nat} (h : k < 26) : atI az.cps.toList (k : Int) = some (97 + k) := by
  have q : ∀ k : Fin 26, az.cps.toList[k.1]? = some (97 + k.1) := by decide +kernel
  exact atI_nat (q ⟨k, h⟩)
theorem az_len : az.length = 26 := by decide +kernel
theorem inV_strs (x : Str) : ∀ ys : List Str, inV (.str x) (ys.map V.str) = ys.contains x
  | [] => rfl
  | y :: ys => by
    have ih := inV_strs x ys
    unfold inV at ih ⊢
    rw [List.map_cons, List.any_cons, ih, List.contains_cons]
    rw [show eqV (.str y) (.str x) = (y == x) from rfl]
    rw [show (y == x) = (x == y) from Bool.eq_iff_iff.mpr ⟨fun h => beq_iff_eq.mpr (beq_iff_eq.mp h).symm, fun h => beq_iff_eq.mpr (beq_iff_eq.mp h).symm⟩]
theorem flat_strs (ys : List Str) : (ys.map V.str).all flatV = true := by
  rw [List.all_map]
  exact List.all_eq_true.mpr fun _ _ => rfl
end My
/-! part K02d -/
namespace My
open PySem PySem.Spec PyProof.Rows L2
def spName (K : PySem.W.Frag) : Sp := fun vs H Q _ => ∃ v, vs = [v] ∧ ((∃ z, v = .str z ∧ z.length ≤ sizeLine ∧ Q (.bl (nameB z)) H) ∨ ∃ t, TyX K H v (.type t) ∧ kitB t "str" = some false ∧ Q (.bl false) H)
def spWordAt : Sp := fun vs H Q _ => ∃ (L i : Nat), vs = [.int L, .int i] ∧ L ≤ 6 ∧ ∀ H', Same H H' → Q (.str (toS (sfx L i))) H'
end My
namespace Kx
open PySem PySem.Spec PyProof.Rows L2 My
section
variable {P : Program} {w : World} {K : PySem.W.Frag} {mg : Str → Option Value} {base : Heap} (T : Tx K mg)
theorem ok_is_name : FnOk P w K mg base CX0 1 T.f_is_name T.d_is_name ["value"] (spName K) := by
  refine T.F_is_name.ok sc_is_name (fun vs H Q E h => ?_) (fun cdv A outer s H vs Q E hr h => ?_)
  · obtain ⟨v, rfl, _⟩ := h
    rfl
  obtain ⟨v, rfl, h⟩ := h
  refine ⟨_, (pss_cons (ps_if (PW.pt (pw_or (pt_not (pt_val (pe_callB call_isi (by rfl) T.z_isinstance (by decide +kernel) (pa_cons (pv 0) (pa_cons (pe_bltn (v := .ty "str") (by rfl) T.z_str (by decide +kernel) rfl) pa_nil))))) (pw_or1 (pt_cmpR op_gt (pe_callB call_len_str (by rfl) T.z_len (by decide +kernel) (pa_cons (pv 0) pa_nil)) (pe_glob (v := .int 6) (by rfl) T.g_LONGEST_NAME ⟨_, rfl⟩) (nomark _)))))
    (pss_one (ps_ret pe_bl))
    pss_nil)
  (pss_one (ps_ret (pe_and (pe_m0 PySem.F.slot_str_isascii PySem.F.type_str_isascii mt_isascii (pv 0)) (pe_and (pe_m0 PySem.F.slot_str_isalpha PySem.F.type_str_isalpha mt_isalpha (pv 0)) (pe_and (pe_m0 PySem.F.slot_str_islower PySem.F.type_str_islower mt_islower (pv 0)) (pe_one (pe_cmpR op_notIn_seq (pv 0) (pe_glob (v := .ref T.a_KEYWORDS) (by rfl) T.g_KEYWORDS rfl) (by rfl))))))))), ?_⟩
  rcases h with ⟨z, rfl, hz, q⟩ | ⟨t, ty, hk, q⟩
  · refine ⟨_, rfl, _, _, .type "str", .type "str", true, rfl, .ty _, .base (.str _), kit_ty (by decide +kernel), _, rfl, iteF ?_⟩
    refine ⟨_, rfl, z, rfl, hz, _, _, rfl, rfl, _, rfl, ?_⟩
    unfold nameB at q
    refine ite2 (fun c => ?_) (fun c => ?_)
    · rw [if_pos (of_decide_eq_true c)] at q
      exact q
    · rw [if_neg (fun z => c (decide_eq_true z))] at q
      refine ⟨_, rfl, ⟨_, rfl⟩, z, rfl, rfl, trivial, Txt.isascii z, rfl, ?_⟩
      cases h1 : Txt.isascii z
      · rw [h1] at q
        exact iteF q
      rw [h1] at q
      refine iteT ⟨_, rfl, ⟨_, rfl⟩, z, rfl, rfl, trivial, Txt.isalpha z, rfl, ?_⟩
      cases h2 : Txt.isalpha z
      · rw [h2] at q
        exact iteF q
      rw [h2] at q
      refine iteT ⟨_, rfl, ⟨_, rfl⟩, z, rfl, rfl, trivial, Txt.islower z, rfl, ?_⟩
      cases h3 : Txt.islower z
      · rw [h3] at q
        exact iteF q
      rw [h3] at q
      refine iteT ⟨_, rfl, _, kwL.map V.str, rfl, .inr (T.q_KEYWORDS H), rfl, My.flat_strs kwL, ?_⟩
      rw [inV_strs]
      exact q
  · refine ⟨_, rfl, _, _, .type t, .type "str", false, rfl, .ty _, ty, kit_ty hk, _, rfl, iteT ?_⟩
    exact q
theorem ok_word_at : FnOk P w K mg base CX0 1 T.f_word_at T.d_word_at ["length", "index"] spWordAt := by
  refine T.F_word_at.ok sc_word_at (fun vs H Q E h => ?_) (fun cdv A outer s H vs Q E hr h => ?_)
  · obtain ⟨L, i, rfl, _⟩ := h
    rfl
  obtain ⟨L, i, rfl, hL, q⟩ := h
  refine ⟨_, (pss_cons (ps_set (i := 2) sc_word_at.nd rfl (Or.inl rfl) pe_str)
  (pss_cons (ps_for PassesOwn.never rfl (pi_range1 (by rfl) T.z_range (pa_cons (pv 0) pa_nil)) (pg_name (i := 3) sc_word_at.nd rfl (Or.inl rfl))
    (pss_cons (ps_asg (pe_callB call_divmod (by rfl) T.z_divmod (by decide +kernel) (pa_cons (pv 1) (pa_cons (pe_callB call_len_str (by rfl) T.z_len (by decide +kernel) (pa_cons (pe_glob (v := .str az) (by rfl) T.g_LETTERS ⟨_, rfl⟩) pa_nil)) pa_nil))) (pg_tup (by rfl) (pgs_cons (pg_name (i := 1) sc_word_at.nd rfl (Or.inl rfl)) (pgs_cons (pg_name (i := 4) sc_word_at.nd rfl (Or.inl rfl)) pgs_nil))))
    (pss_one (ps_set (i := 2) sc_word_at.nd rfl (Or.inl rfl) (pe_op op_add_str (pe_ix ix_str (pe_glob (v := .str az) (by rfl) T.g_LETTERS ⟨_, rfl⟩) (pv 4) (fun _ _ => rfl)) (pv 2))))))
  (pss_one (ps_ret (pv 2))))), ?_⟩
  refine ⟨_, rfl, _, rfl, by omega, by omega, ?_⟩
  refine for_range (lo := 0) (n := L) (fun t σ H' => ∃ x4 x5, σ = [some (.int L), some (.int ((i / 26 ^ t : Nat) : Int)), some (.str (toS (sfx t i))), x4, x5] ∧ Same H H') ⟨none, none, ?_, Same.refl H⟩ ?_ ?_
  · show [some (V.int L), some (V.int i), some (V.str (Str.ofString "")), none, none] = _
    rw [Nat.pow_zero, Nat.div_one]
    rfl
  · rintro t σ H' ht ⟨x4, x5, rfl, sm⟩
    refine ⟨_, rfl, _, rfl, ?_, _, _, rfl, ?_, fun p np => ?_⟩
    · show az.length ≤ sizeLine
      decide +kernel
    · rw [az_len]
      exact ⟨by decide, by decide⟩
    · refine ⟨p, _, rfl, .inl (.inl upd_same), rfl, _, _, rfl, _, _, rfl, rfl, ?_⟩
      refine ⟨_, rfl, az, _, 97 + (i / 26 ^ t) % 26, rfl, rfl, (by decide +kernel), ?_, _, rfl, _, _, rfl, rfl, ?_, ?_⟩
      · rw [az_len]
        have e : (((i / 26 ^ t : Nat) : Int) % ((26 : Nat) : Int)) = (((i / 26 ^ t) % 26 : Nat) : Int) := by omega
        rw [e]
        exact az_at (Nat.mod_lt _ (by decide))
      · rw [toS_len, sfx_len]
        show 1 + t ≤ sizeLine
        exact small63 (by omega)
      · refine ⟨some (.int (0 + (t : Int))), some (.int (((i / 26 ^ t : Nat) : Int) % ((az.length : Nat) : Int))), ?_, sm.trans (same_new np _)⟩
        rw [toS_cons, az_len]
        have e : (((i / 26 ^ t : Nat) : Int) / ((26 : Nat) : Int)) = ((i / 26 ^ (t + 1) : Nat) : Int) := by
          rw [Nat.pow_succ, ← Nat.div_div_eq_div_mul]
          omega
        rw [e]
        rfl
  · rintro σ H' ⟨x4, x5, rfl, sm⟩
    exact ⟨_, rfl, q H' sm⟩
end
end Kx
/-! part SetMk -/
/-! set(xs) of a list or a tuple of any keys, any number below the scan's bound (own proof; the library has it for ints, and for at most one text) -/
namespace My
open PySem PySem.Spec PyProof.Rows L2
section
variable {prog : Program} {w : World} {κ : Type} [DecidableEq κ] (knd : KeyKind prog w κ)
/-- the set at a has met the first i keys -/
def Met (a : Addr) (ks : List κ) (i : Nat) (h : Heap) : Prop := ∃ (S : κ → Bool) (n : Nat), h.SetOf knd a S n ∧ n ≤ i ∧ ∀ k, S k = true ↔ k ∈ ks.take i
variable {knd}
theorem Met.at {a : Addr} {ks : List κ} {i : Nat} {g h : Heap} (m : Met knd a ks i g) (k : ∀ o, g.get? a = some o → h.get? a = some o) : Met knd a ks i h := by
  obtain ⟨S, n, ⟨o, es, ep, t, ho, r⟩, z⟩ := m
  exact ⟨S, n, ⟨o, es, ep, t, k o ho, r⟩, z⟩
variable {A : Around} {R : Result → Shared → Prop} {it a : Addr} {fp wr : List Addr} {G : Array GenState → Array GenState → Prop} {n : Nat} {Pv : Nat → Value → Prop} {St : Nat → Shared → Prop}
/-- the turns that are left: each item is added -/
theorem met_all (W : WalksS prog w A.in1 it fp wr G n Pv St) (off : a ∉ fp) (ks : List κ) (room : n + 1 < scanBound)
    (is : ∀ i v, Pv i v → ∃ k, ks[i]? = some k ∧ knd.is k v = true ∧ v.scannable = true) (d : Nat) : ∀ (i : Nat) (s : Shared), i + d = n → St i s → Met knd a ks i s.heap →
      (∀ z, Moved (a :: wr) G s z → Met knd a ks n z.heap → R (.ok (.ret .none)) z) → codeAny (model prog w) A (.builtin "set.update.loop" ⟨[.ref a, .ref it], []⟩) R s := by
  have offw : a ∉ wr := fun q => off (W.sub a q)
  have wide : ∀ b ∈ wr, b ∈ a :: wr := fun b q => List.mem_cons_of_mem a q
  induction d with
  | zero =>
    intro i s e st m fin
    obtain rfl : i = n := by omega
    refine codeAny_builtin PyProof.Rows.F.entry_set_update_loop ?_
    rw [Around.under_plainId PyProof.Rows.F.plain_set_update_loop _]
    show wpAny (model prog w) A.in1 (pyNext (.ref it) >>= _) _ _ s
    refine wpAny_bind (W.done s _ _ st fun z mv => ?_)
    show wpAny (model prog w) A.in1 (ret Value.none) _ _ z
    exact wpAny_pure (fin z (mv.mono wide) (m.at fun o q => mv.heap a o offw q))
  | succ d ih =>
    intro i s e st m fin
    refine codeAny_builtin PyProof.Rows.F.entry_set_update_loop ?_
    rw [Around.under_plainId PyProof.Rows.F.plain_set_update_loop _]
    show wpAny (model prog w) A.in1 (pyNext (.ref it) >>= _) _ _ s
    refine wpAny_bind (W.item i s _ _ (by omega) st fun v z pv st' mv => ?_)
    obtain ⟨k, hk, ik, sc⟩ := is i v pv
    obtain ⟨S, c, so, cn, mem⟩ := m.at (h := z.heap) fun o q => mv.heap a o offw q
    show wpAny (model prog w) A.in1 (holding [v] (setAdd a v) >>= _) _ _ z
    refine wpAny_bind (wpAny_holding ?_)
    unfold setAdd
    refine wpAny_holding (wpAny_bind (knd.pyHash ik ?_))
    refine wpAny_setAddHashed_of (knd := knd) (s := { z with toks := z.toks + 1 }) ik sc so (by omega) fun h2 same so2 => ?_
    have m2 : Met knd a ks (i + 1) h2 := by
      refine ⟨_, _, so2, by split <;> omega, fun q => ?_⟩
      rw [List.take_add_one, hk, List.mem_append]
      show (S q || decide (q = k)) = true ↔ q ∈ ks.take i ∨ q ∈ [k]
      rw [Bool.or_eq_true, mem q, decide_eq_true_eq, List.mem_singleton]
    have far : ∀ b ∈ fp, b ≠ a := fun b hb q => off (q ▸ hb)
    refine wpAny_pure ⟨plainId_quiet PyProof.Rows.F.plain_set_update_loop _, ih (i + 1) _ (by omega) (W.frame (i + 1) z h2 _ st' (Nat.le_succ _) fun b hb o q => (same.2 b (far b hb)).trans q) m2 fun y mv2 m3 => fin y ?_ m3⟩
    exact Moved.trans W.gtrans ((mv.mono wide).then_heap (Nat.le_succ _) fun b o hb q => (same.2 b fun u => hb (u ▸ List.mem_cons_self)).trans q) mv2
end
section
variable {prog : Program} {w : World} {κ : Type} [DecidableEq κ] [BEq κ] [LawfulBEq κ] {knd : KeyKind prog w κ} {A : Around} {E : Value → Shared → Prop} {s : Shared}
/-- an empty set's object -/
abbrev setEmpty (led : Bool) : Obj := { cls := .type "set", dict := none, data := .set #[] 0 (.fresh 0 0 led) }
theorem met_none (led : Bool) {a : Addr} {ks : List κ} {h : Heap} (e : h.get? a = some (setEmpty led)) : Met knd a ks 0 h :=
  ⟨_, _, (PyProof.Rows.setObjOf_fresh (knd := knd) led).setOf e (by decide), Nat.le_refl 0, fun k => by simp⟩
set_option maxHeartbeats 3200000 in
/-- set(x), x a list or a tuple -/
theorem set_of (l : Addr) (items : Array Value) (ks : List κ) {Q : Value → Shared → Prop} (calm : A.handled = none) (src : s.heap.IsList l items ∨ s.heap.IsTuple l items) (room : items.size + 1 < scanBound)
    (is : ∀ (i : Nat) (v : Value), items[i]? = some v → ∃ k, ks[i]? = some k ∧ knd.is k v = true ∧ v.scannable = true)
    (fin : ∀ (h : Heap) (t : Nat), Met knd s.heap.objs.size ks items.size h → (∀ b o, b < s.heap.objs.size → s.heap.get? b = some o → h.get? b = some o) → Q (.ref s.heap.objs.size) { s with heap := h, toks := t }) :
    wpAny (model prog w) A (call (.type "set") [.ref l]) Q E s := by
  let a := s.heap.objs.size
  obtain ⟨c, tl, u1⟩ := PySem.F.called_set.mro
  have u2 := PySem.F.called_set.made
  have u3 := PySem.F.called_set.sub
  refine wpAny_call (codeAny_of_tree ((wpAny_pure ⟨Code.quiet_builtin _ (by decide +kernel), codeAny_builtin PySem.F.entry_type_call ?_⟩ : wpAny _ _ (callAny (.type "set") _) _ _ _)))
  rw [Around.under_plain (weight_type_call_type "set" [.ref l] []) rfl]
  have u4 := PySem.F.called_set.notType
  have u5 := PySem.F.called_set.canCreate
  have u6 := PySem.F.typeCall_set_1 (.ref l)
  repeat (any_goals (first | assumption | wp_step))
  refine codeAny_mono (code_set_new_1 (.ref l) (E := E) (Q₁ := fun o z => ∃ led : Bool, o = .ref a ∧ z = { s with heap := s.heap.push (setEmpty led) }) fun led => ⟨led, rfl, rfl⟩) fun r z hr => ?_
  rcases r with e | fl
  · exact hr
  cases fl with
  | ret o =>
    obtain ⟨led, rfl, rfl⟩ := hr
    have ea : (s.heap.push (setEmpty led)).get? a = some (setEmpty led) := Heap.get?_push_size _ rfl
    have ty : Shared.TypeIs { s with heap := s.heap.push (setEmpty led) } (.ref a) "set" := ⟨_, ea, rfl⟩
    have u7 := PySem.F.called_set.init.lookup
    have u8 := PySem.F.called_set.init.bind (.ref a)
    repeat (any_goals (first | assumption | wp_step))
    refine codeAny_mono (codeAny_call_builtin (R := wants (fun r z => r = .none ∧ ∃ h t, z = { s with heap := h, toks := t } ∧ Met knd a ks items.size h ∧ ∀ b o, b < a → s.heap.get? b = some o → h.get? b = some o) E)
      PySem.F.called_set.init.plain PySem.F.entry_set_init (check_set_init_1 ty ?_)) fun r z hr => ?_
    · have far : ∀ {b : Addr}, b < a → b ≠ (s.heap.push (setEmpty led)).objs.size := fun {b} hb => by
        rw [Heap.size_push]
        exact Nat.ne_of_lt (Nat.lt_succ_of_lt hb)
      have off : ∀ {b : Addr}, b < a → a ∉ [(s.heap.push (setEmpty led)).objs.size, b] := fun {b} hb hm => by
        rw [Heap.size_push] at hm
        rcases List.mem_cons.mp hm with q | q
        · exact Nat.ne_of_lt (Nat.lt_succ_self a) q
        · exact Nat.ne_of_gt hb (List.mem_singleton.mp q)
      have close : ∀ (z : Shared) (o : Obj), Moved [a, (s.heap.push (setEmpty led)).objs.size] (fun x y => y = x) { s with heap := (s.heap.push (setEmpty led)).push o } z → Met knd a ks items.size z.heap →
          ∃ (h : Heap) (t : Nat), z = { s with heap := h, toks := t } ∧ Met knd a ks items.size h ∧ ∀ b o, b < a → s.heap.get? b = some o → h.get? b = some o := fun z o mv m => by
        obtain ⟨h, g, dr, t, os⟩ := z
        have e1 : g = s.gens := mv.gens
        have e2 : dr = s.drawn := mv.drawn
        have e3 : os = s.os := mv.os
        subst e1 e2 e3
        refine ⟨h, t, rfl, m, fun b o hb q => mv.heap b o (fun hm => ?_) (Heap.get?_push_of_some _ (Heap.get?_push_of_some _ q))⟩
        rcases List.mem_cons.mp hm with u | u
        · exact Nat.ne_of_lt hb u
        · exact far hb (List.mem_singleton.mp u)
      rcases src with src | src
      · obtain ⟨ol, p1, p2, nl, p3⟩ := src
        have low : l < a := Heap.lt_size p1
        obtain ⟨oc, od, oda, osl⟩ := ol
        simp only at p2 p3
        subst p2 p3
        have p4 : (s.heap.push (setEmpty led)).get? l = some ⟨.type "list", od, .seq items nl, osl⟩ := Heap.get?_push_of_some _ p1
        have u9 := PySem.F.sub_list_set
        have u10 := PySem.F.sub_list_frozenset
        have u11 : (Value.type "list" == Value.type "dict") = false := by decide
        have p5 : (s.heap.push (setEmpty led)).IsList l items := ⟨_, p4, rfl, nl, rfl⟩
        unfold Builtin.«set.__init__» noKeywords Builtin.Frozenset.updateFrom
        generalize hide : pyIter = PI
        wp_walk
        subst hide
        refine wpAny_pyIter_list p5 (wpAny_bind (wpAny_runValue ?_))
        refine met_all ((Walks.list (show A.in1.in1.in1.handled = none by simp [calm]) _ l (far low) items).toS) (off low) ks room is items.size 0 _ (Nat.zero_add _) ⟨⟨_, Heap.get?_push_size _ rfl, rfl, rfl⟩, p5.push _⟩ (met_none led (Heap.get?_push_of_some _ ea)) fun z mv m => ?_
        show wpAny _ _ _ _ _ z
        refine wpAny_pure ?_
        show wpAny _ _ (ret Value.none) _ _ z
        exact wpAny_pure ⟨rfl, close z _ mv m⟩
      · obtain ⟨ol, p1, p2, nl, p3⟩ := src
        have low : l < a := Heap.lt_size p1
        obtain ⟨oc, od, oda, osl⟩ := ol
        simp only at p2 p3
        subst p2 p3
        have p4 : (s.heap.push (setEmpty led)).get? l = some ⟨.type "tuple", od, .seq items nl, osl⟩ := Heap.get?_push_of_some _ p1
        have u9 := PySem.F.sub_tuple_set
        have u10 := PySem.F.sub_tuple_frozenset
        have u11 : (Value.type "tuple" == Value.type "dict") = false := by decide
        have p5 : (s.heap.push (setEmpty led)).IsTuple l items := ⟨_, p4, rfl, nl, rfl⟩
        unfold Builtin.«set.__init__» noKeywords Builtin.Frozenset.updateFrom
        generalize hide : pyIter = PI
        wp_walk
        subst hide
        refine wpAny_pyIter_tuple p5 (wpAny_bind (wpAny_runValue ?_))
        refine met_all ((Walks.tuple (show A.in1.in1.in1.handled = none by simp [calm]) _ l (far low) items).toS) (off low) ks room is items.size 0 _ (Nat.zero_add _) ⟨⟨_, Heap.get?_push_size _ rfl, rfl, rfl⟩, p5.push _⟩ (met_none led (Heap.get?_push_of_some _ ea)) fun z mv m => ?_
        show wpAny _ _ _ _ _ z
        refine wpAny_pure ?_
        show wpAny _ _ (ret Value.none) _ _ z
        exact wpAny_pure ⟨rfl, close z _ mv m⟩
    · rcases r with e | fl2
      · exact hr
      cases fl2 with
      | ret r =>
        obtain ⟨rfl, h, t, rfl, m, k⟩ := hr
        repeat (any_goals (first | assumption | wp_step))
        exact fin h t m k
      | _ => exact hr.elim
  | _ => exact hr.elim
end
end My
/-! part SetR -/
namespace My
open PySem PySem.Spec PyProof.Rows L2
section
variable {X : Cx}
theorem lawful_key : LawfulBEq Key where
  eq_of_beq {a b} h := by
    cases a <;> cases b
    · exact congrArg Sum.inl (eq_of_beq (α := Int) h)
    · cases h
    · cases h
    · exact congrArg Sum.inr (eq_of_beq (α := Str) h)
  rfl {a} := by
    cases a
    · exact beq_self_eq_true (α := Int) _
    · exact beq_self_eq_true (α := Str) _
theorem key_of_str {P : Program} {w : World} : ∀ {xs : List Str} {us : List Value}, Vals (xs.map V.str) us → ∀ (i : Nat) (v : Value), us.toArray[i]? = some v → ∃ k : Key, (xs.map Sum.inr)[i]? = some k ∧ (mixKind P w).is k v = true ∧ v.scannable = true
  | [], _, .nil, i, v, h => by simp at h
  | x :: xs, _, .cons r t, 0, v, h => by
    obtain ⟨t, rfl⟩ := r
    have e : Value.str x t = v := by simpa using h
    subst e
    exact ⟨.inr x, rfl, mixKind_str P w x t, rfl⟩
  | x :: xs, _,   .cons r t, i + 1, v, h => by
    obtain ⟨k, h1, h2⟩ := key_of_str (P := P) (w := w) t i v (by simpa using h)
    exact ⟨k, by simpa using h1, h2⟩
/-- set(x), x a list or tuple of texts: new, its members are those -/
def rSetS (K : PySem.W.Frag) (P : Program) (w : World) : List V → Hp → VK → Prop := fun vs H Q => ∃ (l : Addr) (xs : List Str), vs = [.ref l] ∧ (SqL K H l (xs.map V.str) ∨ SqT K H l (xs.map V.str)) ∧ xs.length ≤ 4000 ∧
  ∀ (a : Addr) (S : Key → Bool) (n : Nat), H a = none → (∀ x : Str, S (.inr x) = xs.contains x) → Q (.ref a) (upd H a (SetK P w a S n))
theorem cr_setS (hc : X.calm = true) : CallR X (.type "set") (rSetS X.K X.prog X.w) := by
  intro pins s σ H vs us Q I r h
  obtain ⟨l, xs, rfl, hs, hn, q⟩ := h
  rw [Vals.ref1 r]
  have go : ∀ its : List Value, Vals (xs.map V.str) its → (s.heap.IsList l its.toArray ∨ s.heap.IsTuple l its.toArray) → wpAny (model X.prog X.w) X.A (call (.type "set") [.ref l]) (EP X pins σ Q) X.xe s := fun its rv src => by
    haveI : LawfulBEq Key := lawful_key
    have e : its.length = xs.length := by rw [← rv.length, List.length_map]
    refine set_of (knd := mixKind X.prog X.w) l its.toArray (xs.map Sum.inr) (I.ok.hd hc) src (by rw [List.size_toArray, e]; unfold scanBound; omega) (key_of_str rv) fun h t m k => ?_
    obtain ⟨S, n, so, _, mem⟩ := m
    have hf : H s.heap.objs.size = none := I.hok.fresh (Nat.le_refl _)
    refine ⟨.ref s.heap.objs.size, _, I.laid (t' := t) (fun b o e => k b o (Heap.lt_size e) e) (Nat.le_refl _) (setK_new so), rfl, q _ S n hf fun x => ?_⟩
    rw [Bool.eq_iff_iff, mem, List.size_toArray, e, List.take_of_length_le (by rw [List.length_map]; exact Nat.le_refl _), List.contains_iff_mem, List.mem_map]
    exact ⟨fun ⟨y, hy, z⟩ => by cases z; exact hy, fun hy => ⟨x, hy, rfl⟩⟩
  rcases hs with hs | hs
  · obtain ⟨its, rv, p, _⟩ := I.list hs
    exact go its rv (.inl p.isList)
  · obtain ⟨its, rv, p, _⟩ := I.tuple hs
    exact go its rv (.inr p)
end
end My
/-! part Kit5 -/
namespace My
open PySem PySem.Spec PyProof.Rows L2
/-- the words of L letters, in order -/
def ws (L : Nat) : List Str := (List.range (26 ^ L)).map fun i => toS (sfx L i)
def okW (avoid : List Str) (z : Str) : Bool := nameB z && !avoid.contains z
/-- the words of fewer than L + 1 letters -/
def pre (L : Nat) : List Str := (List.range L).flatMap fun t => ws (t + 1)
/-- the first so many names that are not to be avoided -/
def fresh (many : Nat) (avoid : List Str) : List Str := ((pre 6).filter (okW avoid)).take many
theorem pre_succ (L : Nat) : pre (L + 1) = pre L ++ ws (L + 1) := by
  unfold pre
  rw [List.range_succ, List.flatMap_append, List.flatMap_singleton]
theorem pre_le {L : Nat} (h : L ≤ 6) : ∃ r, pre 6 = pre L ++ r := by
  have go : ∀ d : Nat, ∃ r, pre (L + d) = pre L ++ r := fun d => by
    induction d with
    | zero => exact ⟨[], by simp⟩
    | succ d ih =>
      obtain ⟨r, e⟩ := ih
      exact ⟨r ++ ws (L + d + 1), by rw [← Nat.add_assoc, pre_succ, e, List.append_assoc]⟩
  obtain ⟨r, e⟩ := go (6 - L)
  rw [show L + (6 - L) = 6 by omega] at e
  exact ⟨r, e⟩
theorem ws_get {L i : Nat} (h : i < 26 ^ L) : (ws L)[i]? = some (toS (sfx L i)) := by
  unfold ws
  rw [List.getElem?_map, List.getElem?_range h] <;> rfl
theorem ws_len (L : Nat) : (ws L).length = 26 ^ L := by
  unfold ws
  rw [List.length_map, List.length_range]
theorem take_front {many : Nat} {f : Str → Bool} (u v : List Str) (h : (u.filter f).length = many) : u.filter f = ((u ++ v).filter f).take many := by
  rw [List.filter_append, List.take_append_of_le_length (by rw [h]; exact Nat.le_refl _), List.take_of_length_le (by rw [h]; exact Nat.le_refl _)]
/-- a first part of what is gone through that has enough -/
theorem fresh_enough {many L j : Nat} {avoid : List Str} (hL : L < 6) (hj : ((pre L ++ (ws (L + 1)).take j).filter (okW avoid)).length = many) :
    (pre L ++ (ws (L + 1)).take j).filter (okW avoid) = fresh many avoid := by
  obtain ⟨r, e⟩ := pre_le (show L + 1 ≤ 6 by omega)
  have c : pre 6 = (pre L ++ (ws (L + 1)).take j) ++ ((ws (L + 1)).drop j ++ r) := by
    rw [e, pre_succ, List.append_assoc, List.append_assoc, ← List.append_assoc ((ws (L + 1)).take j), List.take_append_drop]
  unfold fresh
  rw [c]
  exact take_front _ _ hj
theorem fresh_end {many : Nat} {avoid : List Str} (h : ((pre 6).filter (okW avoid)).length ≤ many) : (pre 6).filter (okW avoid) = fresh many avoid := by
  unfold fresh
  rw [List.take_of_length_le h]
theorem fresh_len (many : Nat) (avoid : List Str) : (fresh many avoid).length ≤ many := by
  unfold fresh
  rw [List.length_take]
  omega
theorem sfx_mem : ∀ (t i c : Nat), c ∈ sfx t i → 97 ≤ c ∧ c < 123
  | 0, _, c, h => by cases h
  | t + 1, i, c, h => by
    rcases List.mem_cons.mp h with e | e
    · have q : i / 26 ^ t % 26 < 26 := Nat.mod_lt _ (by decide)
      rw [e]
      omega
    · exact sfx_mem t i c e
def spFresh (K : PySem.W.Frag) : Sp := fun vs H Q _ => ∃ (many : Nat) (l : Addr) (xs : List Str), vs = [.int many, .ref l] ∧ (SqL K H l (xs.map V.str) ∨ SqT K H l (xs.map V.str)) ∧ xs.length ≤ 4000 ∧ many ≤ 1000000 ∧
  ∀ (H' : Hp) (p : Addr), Same H H' → H p = none → H' p = some (.lst ((fresh many xs).map V.str)) → Q (.ref p) H'
end My
/-! part K02e -/
namespace Kx
open PySem PySem.Spec PyProof.Rows L2 My
section
variable {P : Program} {w : World} {K : PySem.W.Frag} {mg : Str → Option Value} {base : Heap} (T : Tx K mg)
theorem ok_fresh_names : FnOk P w K mg base CX0 2 T.f_fresh_names T.d_fresh_names ["many", "avoid"] (spFresh K) := by
  have G_word_at := ok_word_at (P := P) (w := w) (base := base) T
  have G_is_name := ok_is_name (P := P) (w := w) (base := base) T
  refine T.F_fresh_names.ok sc_fresh_names (fun vs H Q E h => ?_) (fun cdv A outer s H vs Q E hr h => ?_)
  · obtain ⟨many, l, xs, rfl, _⟩ := h
    rfl
  obtain ⟨many, l, xs, rfl, hs, hx, hm, q⟩ := h
  refine ⟨_, (pss_cons (ps_set (i := 2) sc_fresh_names.nd rfl (Or.inl rfl) (pe_callTy (cr_setS rfl) (by rfl) T.z_set (by decide +kernel) (pa_cons (pv 1) pa_nil)))
  (pss_cons (ps_set (i := 3) sc_fresh_names.nd rfl (Or.inl rfl) (pe_lst pa_nil))
  (pss_cons (ps_for PassesOwn.never rfl (pi_range2 (by rfl) T.z_range (pa_cons pe_int (pa_cons pe_int pa_nil))) (pg_name (i := 4) sc_fresh_names.nd rfl (Or.inl rfl))
    (pss_one (ps_for PassesOwn.never rfl (pi_range1 (by rfl) T.z_range (pa_cons (pe_op op_pow (pe_callB call_len_str (by rfl) T.z_len (by decide +kernel) (pa_cons (pe_glob (v := .str az) (by rfl) T.g_LETTERS ⟨_, rfl⟩) pa_nil)) (pv 4)) pa_nil)) (pg_name (i := 5) sc_fresh_names.nd rfl (Or.inl rfl))
      (pss_cons (ps_if (pt_cmpR op_ge (pe_callB call_len_seq (by rfl) T.z_len (by decide +kernel) (pa_cons (pv 3) pa_nil)) (pv 0) (nomark _))
        (pss_one (ps_ret (pv 3)))
        pss_nil)
      (pss_cons (ps_set (i := 6) sc_fresh_names.nd rfl (Or.inl rfl) (pe_call G_word_at (hr.mono (by decide)) (by rfl) T.g_word_at T.F_word_at.kp T.b_word_at .nil pass0 (pa_cons (pv 4) (pa_cons (pv 5) pa_nil))))
      (pss_one (ps_if (PW.pt (pw_and (pt_val (pe_call G_is_name (hr.mono (by decide)) (by rfl) T.g_is_name T.F_is_name.kp T.b_is_name .nil pass0 (pa_cons (pv 6) pa_nil))) (pw_and1 (pt_cmpR or_snotinK (pv 6) (pv 2) (by rfl)))))
        (pss_one (ps_expr (pe_bm PySem.F.plainAttrs_list PySem.F.slot_list_append PySem.F.type_list_append mt_append (pv 3) (pa_cons (pv 6) pa_nil))))
        pss_nil)))))))
  (pss_one (ps_ret (pv 3)))))), ?_⟩
  -- taken = set(avoid); found = []
  refine ⟨_, rfl, l, xs, rfl, hs, hx, fun tk S n nt mem => ?_⟩
  refine ⟨Nat.zero_le _, fun f nf => ?_⟩
  have s1 := same_new nt (SetK P w tk S n)
  have s2 := same_new nf (.lst [])
  have nfH : H f = none := s1.free nf
  have ft : tk ≠ f := fun e => by
    rw [← e, upd_same] at nf
    cases nf
  refine ⟨1, 7, rfl, ⟨by decide, by decide, by decide, by decide⟩, ?_⟩
  -- what stands while `found` is the list zs
  let St := fun (zs : List Str) (H' : Hp) => Same H H' ∧ H' tk = some (SetK P w tk S n) ∧ H' f = some (.lst (zs.map V.str)) ∧ zs.length ≤ many
  refine for_range (lo := 1) (n := 6) (fun i σ H' => ∃ x4 x5 x6, σ = [some (.int many), some (.ref l), some (.ref tk), some (.ref f), x4, x5, x6] ∧ St ((pre i).filter (okW xs)) H') ⟨none, none, none, rfl, s1.trans s2, ?_, upd_same, Nat.zero_le _⟩ ?_ ?_
  · rw [upd_ne ft]
    exact upd_same
  · rintro i σ H1 hi ⟨x4, x5, x6, rfl, h1, h2, h3, h4⟩
    refine ⟨az, rfl, (by decide +kernel), _, rfl, _, _, rfl, rfl, ⟨by omega, by omega, by decide +kernel⟩, ?_⟩
    have ep : ((az.length : Int) ^ ((1 : Int) + (i : Int)).toNat) = ((26 ^ (i + 1) : Nat) : Int) := by
      rw [az_len, show ((1 : Int) + (i : Int)).toNat = i + 1 by omega]
      rw [Int.natCast_pow]
    have b6 : 26 ^ (i + 1) ≤ 26 ^ 6 := Nat.pow_le_pow_right (by decide) (by omega)
    have b8 : ((26 ^ (i + 1) : Nat) : Int) < 2 ^ 62 := Int.lt_of_le_of_lt (Int.ofNat_le.mpr b6) (by decide)
    have b9 : -(2 ^ 62) ≤ ((26 ^ (i + 1) : Nat) : Int) := Int.le_trans (by decide) (Int.natCast_nonneg _)
    refine ⟨((26 ^ (i + 1) : Nat) : Int), congrArg (fun z => [V.int z]) ep, b9, b8, ?_⟩
    refine for_range (lo := 0) (n := ((26 ^ (i + 1) : Nat) : Int).toNat) (fun j σ H' => ∃ x5 x6, σ = [some (.int many), some (.ref l), some (.ref tk), some (.ref f), some (.int (1 + (i : Int))), x5, x6] ∧ St ((pre i ++ (ws (i + 1)).take j).filter (okW xs)) H') ⟨x5, x6, rfl, h1, h2, ?_, ?_⟩ ?_ ?_
    · rw [List.take_zero, List.append_nil]
      exact h3
    · rw [List.take_zero, List.append_nil]
      exact h4
    · rintro j σ H2 hj ⟨x5, x6, rfl, g1, g2, g3, g4⟩
      rw [Int.toNat_natCast] at hj
      refine ⟨_, rfl, f, _, rfl, .inl (.inl (.inl g3)), _, rfl, _, _, rfl, rfl, _, rfl, ?_⟩
      refine ite2 (fun c => ?_) (fun c => ?_)
      · have c1 : (many : Int) ≤ ((((pre i ++ (ws (i + 1)).take j).filter (okW xs)).map V.str).length : Int) := of_decide_eq_true c
        rw [List.length_map] at c1
        have c2 : ((pre i ++ (ws (i + 1)).take j).filter (okW xs)).length = many := by omega
        rw [fresh_enough hi c2] at g3
        exact ⟨_, rfl, q H2 f g1 nfH g3⟩
      · have c1 : ¬ (many : Int) ≤ ((((pre i ++ (ws (i + 1)).take j).filter (okW xs)).map V.str).length : Int) := fun z => c (decide_eq_true z)
        rw [List.length_map] at c1
        refine ⟨_, rfl, _, rfl, i + 1, j, ?_, by omega, fun H3 sm => ?_⟩
        · show [V.int (1 + (i : Int)), V.int (0 + (j : Int))] = _
          rw [show (1 : Int) + (i : Int) = ((i + 1 : Nat) : Int) by omega, Int.zero_add]
        · have tk3 : H3 tk = some (SetK P w tk S n) := sm _ _ g2
          have f3 := sm _ _ g3
          have eq1 : (ws (i + 1)).take (j + 1) = (ws (i + 1)).take j ++ [toS (sfx (i + 1) j)] := by rw [List.take_add_one, ws_get hj] <;> rfl
          have eq2 : (pre i ++ (ws (i + 1)).take (j + 1)).filter (okW xs) = (pre i ++ (ws (i + 1)).take j).filter (okW xs) ++ (if okW xs (toS (sfx (i + 1) j)) = true then [toS (sfx (i + 1) j)] else []) := by
            rw [eq1, ← List.append_assoc, List.filter_append (l₁ := pre i ++ (ws (i + 1)).take j), List.filter_cons, List.filter_nil]
          refine ⟨_, rfl, _, rfl, .inl ⟨_, rfl, ?_, nameB (toS (sfx (i + 1) j)), rfl, ?_⟩⟩
          · rw [toS_len, sfx_len]
            exact small63 (by omega)
          · have stay : okW xs (toS (sfx (i + 1) j)) = false → ∃ y5 y6, [some (V.int many), some (V.ref l), some (V.ref tk), some (V.ref f), some (V.int (1 + (i : Int))), some (V.int (0 + (j : Int))), some (V.str (toS (sfx (i + 1) j)))] = [some (V.int many), some (V.ref l), some (V.ref tk), some (V.ref f), some (V.int (1 + (i : Int))), y5, y6] ∧ St ((pre i ++ (ws (i + 1)).take (j + 1)).filter (okW xs)) H3 := fun z => by
              rw [eq2, z, if_neg Bool.false_ne_true, List.append_nil]
              exact ⟨_, _, rfl, g1.trans sm, tk3, f3, g4⟩
            cases hb : nameB (toS (sfx (i + 1) j))
            · refine iteF (iteF (stay ?_))
              unfold okW
              rw [hb]
              rfl
            · refine iteT ⟨_, rfl, _, rfl, Sum.inr (toS (sfx (i + 1) j)), tk, S, n, rfl, rfl, tk3, _, rfl, ?_⟩
              rw [mem]
              cases hc : xs.contains (toS (sfx (i + 1) j))
              · refine iteT ⟨_, rfl, .inl ⟨rfl, _, .inl (.inl f3)⟩, _, rfl, f, _, _, rfl, rfl, f3, ?_, ?_⟩
                · rw [List.length_map]
                  unfold sizeLine
                  omega
                · have hk : okW xs (toS (sfx (i + 1) j)) = true := by
                    unfold okW
                    rw [hb, hc]
                    rfl
                  refine ⟨_, _, rfl, ?_, ?_, ?_, ?_⟩
                  · intro b o e
                    have nb : b ≠ f := ne_of_none e nfH
                    rw [upd_ne nb]
                    exact sm _ _ (g1 _ _ e)
                  · rw [upd_ne ft]
                    exact tk3
                  · rw [upd_same, eq2, hk, if_pos rfl, List.map_append]
                    rfl
                  · rw [eq2, hk, if_pos rfl, List.length_append]
                    show _ + 1 ≤ many
                    omega
              · refine iteF (stay ?_)
                unfold okW
                rw [hb, hc]
                rfl
    · rintro σ H2 ⟨x5, x6, rfl, g1, g2, g3, g4⟩
      rw [Int.toNat_natCast, List.take_of_length_le (by rw [ws_len]; exact Nat.le_refl _), ← pre_succ] at g3 g4
      exact ⟨_, x5, x6, rfl, g1, g2, g3, g4⟩
  · rintro σ H1 ⟨x4, x5, x6, rfl, h1, h2, h3, h4⟩
    rw [fresh_end h4] at h3
    exact ⟨_, rfl, q H1 f h1 nfH h3⟩
end
end Kx
/-! part Kit6 -/
namespace My
open PySem PySem.Spec PyProof.Rows L2
theorem cut_to (xs : List V) (n : Nat) : cutV xs none (some (n : Int)) = xs.take n := by
  unfold cutV
  rw [HT.sIx_none, show HT.sIx xs.length xs.length (some (n : Int)) = min n xs.length from HT.sIx_nat xs.length xs.length n, List.drop_zero, Nat.sub_zero]
  rw [List.take_eq_take_iff]
  omega
theorem cut_mid (xs : List V) (m n : Nat) (h1 : m ≤ n) (h2 : n ≤ xs.length) : cutV xs (some (m : Int)) (some (n : Int)) = (xs.drop m).take (n - m) := by
  unfold cutV
  rw [show HT.sIx xs.length 0 (some (m : Int)) = min m xs.length from HT.sIx_nat xs.length 0 m, show HT.sIx xs.length xs.length (some (n : Int)) = min n xs.length from HT.sIx_nat xs.length xs.length n, Nat.min_eq_left (Nat.le_trans h1 h2), Nat.min_eq_left h2]
/-! ### the law's own words -/
def c26 : List Nat := (List.range 26).map (97 + ·)
def lw1 : List (List Nat) := c26.map fun x => [x]
def lw2 : List (List Nat) := c26.flatMap fun x => c26.map fun y => [x, y]
def lw3 : List (List Nat) := [97, 98].flatMap fun x => c26.flatMap fun y => c26.map fun z => [x, y, z]
def lawW : List Str := ((lw1 ++ lw2 ++ lw3).map toS).filter fun z => !kwL.contains z
theorem az_cps : az.cps.toList = c26 := by decide +kernel
def spWords : Sp := fun vs H Q _ => ∃ many : Nat, vs = [.int many] ∧ ∀ (H' : Hp) (p : Addr), Same H H' → H p = none → H' p = some (.lst ((lawW.take many).map V.str)) → Q (.ref p) H'
def spKw : Sp := fun vs H Q _ => vs = [] ∧ ∀ (H' : Hp) (p : Addr), Same H H' → H p = none → H' p = some (.lst (kwL.map V.str)) → Q (.ref p) H'
def spAz : Sp := fun vs H Q _ => vs = [] ∧ Q (.str az) H
end My
/-! part Kit7 -/
namespace My
open PySem PySem.Spec PyProof.Rows L2
section
variable {J : It} {n : Nat} {G : Hp → Prop} {Y : Nat → Hp → V → Hp → Prop} {g : TG} {tt : TT} {te : TE} {vs : List Nat} {σ : L2.St} {H1 : Hp} {D : Addr} {Qd : Hp → Prop}
/-- a comprehension whose i-th item gives `out i`, nothing for none: the new list of what was given -/
theorem lc_gen (w : Walk J n G Y) (out : Nat → Option V) (small : n < sizeLine) (nD : H1 D = none) (hG : ∀ H', Same H1 H' → G H')
    (hs : ∀ (i : Nat) (x : V) (H H' : Hp) (R : V → Hp → Prop) (Rn : Hp → Prop), i < n → Same H1 H → Y i H x H' → (∀ y, out i = some y → ∀ H4, Same H H4 → R y H4) → (out i = none → ∀ H4, Same H H4 → Rn H4) →
      g x (wipe σ vs) H' fun σ2 H2 => wipe σ2 vs = wipe σ vs ∧ tt σ2 H2 fun b H3 => if b = true then te σ2 H3 R else Rn H3)
    (hd : ∀ H', Same H1 H' → H' D = some (.lst ((List.range n).filterMap out)) → Qd H') :
    ∃ W : Nat → Nat → Hp → Prop, (∃ m, W 0 m (upd H1 D (.lst []))) ∧ ∀ i m H, W i m H →
      (J.stop i H ∧ Qd H) ∨ (J.go i H ∧ ∃ Nx : Hp → Prop, (∀ H', Nx H' → ∃ m', m' < m ∧ W (i + 1) m' H') ∧ ∀ x H', J.yld i H x H' → g x (wipe σ vs) H' fun σ2 H2 => wipe σ2 vs = wipe σ vs ∧ tt σ2 H2 fun b H3 =>
        if b = true then te σ2 H3 fun y H4 => ∃ acc, H4 D = some (.lst acc) ∧ acc.length < sizeLine ∧ Nx (upd H4 D (.lst (acc ++ [y]))) else Nx H3) := by
  have bound : ∀ i, ((List.range i).filterMap out).length ≤ i := fun i => Nat.le_trans (List.length_filterMap_le ..) (by rw [List.length_range]; exact Nat.le_refl _)
  have step : ∀ i, (List.range (i + 1)).filterMap out = (List.range i).filterMap out ++ (match out i with | some y => [y] | none => []) := fun i => by
    rw [List.range_succ, List.filterMap_append]
    cases h : out i with
    | none => rw [List.filterMap_cons_none h, List.filterMap_nil]
    | some y => rw [List.filterMap_cons_some h, List.filterMap_nil]
  refine lc_it w (fun i H => Same H1 H ∧ H D = some (.lst ((List.range i).filterMap out))) ⟨same_new nD _, upd_same⟩ (fun i H _ p => hG H p.1) (fun i x H H' hi p y => ?_) (fun H p => hd H p.1 p.2)
  refine hs i x H H' _ _ hi p.1 y (fun z e H4 s => ?_) (fun e H4 s => ?_)
  · refine ⟨_, s _ _ p.2, Nat.lt_of_le_of_lt (bound i) (Nat.lt_trans hi small), fun b o q => ?_, ?_⟩
    · rw [upd_ne (ne_of_none q nD)]
      exact s _ _ (p.1 _ _ q)
    · rw [upd_same, step, e]
  · refine ⟨p.1.trans s, ?_⟩
    rw [step, e, List.append_nil]
    exact s _ _ p.2
/-- a comprehension whose items are only known to be Ok -/
theorem lc_rel (w : Walk J n G Y) (Ok : Nat → V → Hp → Prop) (small : n < sizeLine) (nD : H1 D = none) (hG : ∀ H', Same H1 H' → G H') (mono : ∀ i y H H', (∀ b o, b ≠ D → H b = some o → H' b = some o) → Ok i y H → Ok i y H')
    (hs : ∀ (i : Nat) (x : V) (H H' : Hp) (R : V → Hp → Prop) (Rn : Hp → Prop), i < n → Same H1 H → H D ≠ none → Y i H x H' → (∀ y H4, Same H H4 → Ok i y H4 → R y H4) →
      g x (wipe σ vs) H' fun σ2 H2 => wipe σ2 vs = wipe σ vs ∧ tt σ2 H2 fun b H3 => if b = true then te σ2 H3 R else Rn H3)
    (hd : ∀ H' ys, Same H1 H' → ys.length = n → (∀ i y, ys[i]? = some y → Ok i y H') → H' D = some (.lst ys) → Qd H') :
    ∃ W : Nat → Nat → Hp → Prop, (∃ m, W 0 m (upd H1 D (.lst []))) ∧ ∀ i m H, W i m H →
      (J.stop i H ∧ Qd H) ∨ (J.go i H ∧ ∃ Nx : Hp → Prop, (∀ H', Nx H' → ∃ m', m' < m ∧ W (i + 1) m' H') ∧ ∀ x H', J.yld i H x H' → g x (wipe σ vs) H' fun σ2 H2 => wipe σ2 vs = wipe σ vs ∧ tt σ2 H2 fun b H3 =>
        if b = true then te σ2 H3 fun y H4 => ∃ acc, H4 D = some (.lst acc) ∧ acc.length < sizeLine ∧ Nx (upd H4 D (.lst (acc ++ [y]))) else Nx H3) := by
  refine lc_it w (fun i H => Same H1 H ∧ ∃ ys : List V, ys.length = i ∧ (∀ k y, ys[k]? = some y → Ok k y H) ∧ H D = some (.lst ys)) ?_ (fun i H _ p => hG H p.1) (fun i x H H' hi p y => ?_) (fun H p => ?_)
  · exact ⟨same_new nD _, [], rfl, fun k y h => by simp at h, upd_same⟩
  · obtain ⟨s1, ys, rfl, ok, e⟩ := p
    refine hs ys.length x H H' _ _ hi s1 (by rw [e]; exact fun z => nomatch z) y fun z H4 s o4 => ?_
    refine ⟨_, s _ _ e, Nat.lt_trans hi small, fun b o q => ?_, ys ++ [z], by rw [List.length_append, List.length_singleton], fun k u hu => ?_, upd_same⟩
    · rw [upd_ne (ne_of_none q nD)]
      exact s _ _ (s1 _ _ q)
    · have back : ∀ b o, b ≠ D → H4 b = some o → upd H4 D (.lst (ys ++ [z])) b = some o := fun b o hb q => by rw [upd_ne hb]; exact q
      by_cases hk : k < ys.length
      · rw [List.getElem?_append_left hk] at hu
        exact mono k u _ _ back (mono k u _ _ (fun b o _ q => s b o q) (ok k u hu))
      · rw [List.getElem?_append_right (by omega)] at hu
        have k0 : k = ys.length := by
          have := (List.getElem?_eq_some_iff.mp hu).1
          rw [List.length_singleton] at this
          omega
        subst k0
        rw [Nat.sub_self] at hu
        obtain rfl : z = u := Option.some.inj hu
        exact mono _ _ _ _ back o4
  · obtain ⟨s1, ys, h2, ok, e⟩ := p
    exact hd H ys s1 h2 ok e
end
end My
/-! part Kit8 -/
namespace My
open PySem PySem.Spec PyProof.Rows L2
theorem range_items {α β : Type} (l : List α) (f : α → Option β) (k : Nat) : (List.range k).filterMap (fun i => (l[i]?).bind f) = (l.take k).filterMap f := by
  induction k with
  | zero => rfl
  | succ k ih =>
    rw [List.range_succ, List.filterMap_append, ih, List.take_add_one, List.filterMap_append]
    congr 1
    cases h : l[k]? with
    | none =>
      rw [List.filterMap_cons_none (by show (l[k]?).bind f = none; rw [h] <;> rfl)]
      rfl
    | some x =>
      show [k].filterMap (fun i => (l[i]?).bind f) = [x].filterMap f
      cases h2 : f x with
      | none => rw [List.filterMap_cons_none (by show (l[k]?).bind f = none; rw [h]; exact h2), List.filterMap_cons_none h2]; rfl
      | some y => rw [List.filterMap_cons_some (b := y) (by show (l[k]?).bind f = some y; rw [h]; exact h2), List.filterMap_cons_some h2]; rfl
theorem range_all {α β : Type} (l : List α) (f : α → Option β) : (List.range l.length).filterMap (fun i => (l[i]?).bind f) = l.filterMap f := by
  rw [range_items, List.take_of_length_le (Nat.le_refl _)]
theorem filterMap_some {α β : Type} (f : α → β) : ∀ l : List α, l.filterMap (fun x => some (f x)) = l.map f
  | [] => rfl
  | x :: l => by
    rw [List.filterMap_cons_some (f := fun x => some (f x)) (b := f x) rfl, filterMap_some f l]
    rfl
theorem toS_app (a b : List Nat) : toS a ++ toS b = toS (a ++ b) := by
  show (⟨a.toArray ++ b.toArray⟩ : Str) = ⟨(a ++ b).toArray⟩
  rw [List.append_toArray]
def vS (l : List (List Nat)) : List V := l.map fun x => V.str (toS x)
theorem vS_len (l : List (List Nat)) : (vS l).length = l.length := List.length_map _
theorem vS_app (a b : List (List Nat)) : vS a ++ vS b = vS (a ++ b) := by
  unfold vS
  rw [List.map_append]
theorem vS_get {l : List (List Nat)} {i : Nat} {x : List Nat} (h : l[i]? = some x) : (vS l)[i]? = some (.str (toS x)) := by
  unfold vS
  rw [List.getElem?_map, h]
  rfl
theorem c26_len : c26.length = 26 := by decide
theorem az_size : az.cps.size = 26 := by decide +kernel
theorem az_getA (i : Nat) : az.cps[i]? = c26[i]? := by
  rw [← az_cps, Array.getElem?_toList]
end My
/-! part Kit9 -/
namespace My
open PySem PySem.Spec PyProof.Rows L2
/-- each word with each letter behind -/
def ext1 (l : List (List Nat)) : List (List Nat) := l.flatMap fun a => c26.map fun b => a ++ [b]
theorem ext1_len : ∀ l : List (List Nat), (ext1 l).length = 26 * l.length
  | [] => rfl
  | a :: l => by
    show (c26.map (fun b => a ++ [b]) ++ ext1 l).length = 26 * (l.length + 1)
    rw [List.length_append, List.length_map, ext1_len l, c26_len]
    omega
theorem ext1_app (l m : List (List Nat)) : ext1 (l ++ m) = ext1 l ++ ext1 m := by
  unfold ext1
  rw [List.flatMap_append]
theorem ext1_one (a : List Nat) : ext1 [a] = c26.map fun b => a ++ [b] := by
  unfold ext1
  rw [List.flatMap_singleton]
theorem ext1_nil : ext1 [[]] = lw1 := by decide +kernel
theorem ext1_lw1 : ext1 lw1 = lw2 := by decide +kernel
theorem ext1_ab : ext1 (ext1 [[97], [98]]) = lw3 := by decide +kernel
theorem lw1_len : lw1.length = 26 := by decide
theorem lw2_len : lw2.length = 676 := by decide +kernel
theorem vS_c26 (a : List Nat) : c26.map (fun c => V.str (toS (a ++ [c]))) = vS (ext1 [a]) := by
  rw [ext1_one]
  unfold vS
  rw [List.map_map]
  rfl
theorem take_snoc {α : Type} {l : List α} {i : Nat} {x : α} (h : l[i]? = some x) : l.take (i + 1) = l.take i ++ [x] := by
  rw [List.take_add_one, h]
  rfl
theorem ab_cps : (Str.ofString "ab").cps.toList = [97, 98] := by decide +kernel
end My
namespace My
open PySem PySem.Spec PyProof.Rows L2
theorem ab_size : (Str.ofString "ab").cps.size = 2 := by decide +kernel
theorem kw_filter : ∀ l : List (List Nat), l.filterMap (fun x => if kwL.contains (toS x) = true then none else some (V.str (toS x))) = ((l.map toS).filter fun z => !kwL.contains z).map V.str
  | [] => rfl
  | x :: l => by
    have ih := kw_filter l
    cases h : kwL.contains (toS x) with
    | true =>
      rw [List.filterMap_cons_none (by rw [h] <;> rfl), List.map_cons, List.filter_cons_of_neg (by rw [h]; exact Bool.false_ne_true), ih]
    | false =>
      rw [List.filterMap_cons_some (b := .str (toS x)) (by rw [h] <;> rfl), List.map_cons, List.filter_cons_of_pos (by rw [h] <;> rfl), ih, List.map_cons]
end My
/-! part K02f -/
namespace Kx
open PySem PySem.Spec PyProof.Rows L2 My
section
variable {P : Program} {w : World} {K : PySem.W.Frag} {mg : Str → Option Value} {base : Heap} (T : Tx K mg)
theorem ok_keywords : FnOk P w K mg base CX0 1 T.f__law_keywords T.d__law_keywords [] spKw := by
  refine T.F__law_keywords.ok sc__law_keywords (fun vs H Q E h => ?_) (fun cdv A outer s H vs Q E hr h => ?_)
  · obtain ⟨rfl, _⟩ := h
    rfl
  obtain ⟨rfl, q⟩ := h
  refine ⟨_, (pss_one (ps_ret (pe_lst (pa_cons pe_str (pa_cons pe_str (pa_cons pe_str (pa_cons pe_str (pa_cons pe_str (pa_cons pe_str (pa_cons pe_str (pa_cons pe_str (pa_cons pe_str (pa_cons pe_str pa_nil))))))))))))), ?_⟩
  exact ⟨(by show 10 ≤ sizeLine; decide), fun p np => q _ p (same_new np _) np upd_same⟩
theorem ok_letters : FnOk P w K mg base CX0 1 T.f__law_letters T.d__law_letters [] spAz := by
  refine T.F__law_letters.ok sc__law_letters (fun vs H Q E h => ?_) (fun cdv A outer s H vs Q E hr h => ?_)
  · obtain ⟨rfl, _⟩ := h
    rfl
  obtain ⟨rfl, q⟩ := h
  exact ⟨_, (pss_one (ps_ret pe_str)), q⟩
/-- a comprehension that puts a text ahead of each letter -/
theorem snoc_str (l : List Str) (x : Str) : (l.map V.str) ++ [V.str x] = (l ++ [x]).map V.str := by
  rw [List.map_append]
  rfl
theorem ok_first_words : FnOk P w K mg base CX0 2 T.f__law_first_words T.d__law_first_words ["_law_many_z"] spWords := by
  have G__law_letters := ok_letters (P := P) (w := w) (base := base) T
  have G__law_keywords := ok_keywords (P := P) (w := w) (base := base) T
  refine T.F__law_first_words.ok sc__law_first_words (fun vs H Q E h => ?_) (fun cdv A outer s H vs Q E hr h => ?_)
  · obtain ⟨many, rfl, _⟩ := h
    rfl
  obtain ⟨many, rfl, q⟩ := h
  refine ⟨_, (pss_cons (ps_par (i := 1) (j := 2) (by rfl) sc__law_first_words.nd rfl rfl (by decide) rfl rfl (pa_cons (pe_lc (own := [("_law_sign", 3)]) (g := gName 3) (by rfl) sc__law_first_words.nd (pi_str (pe_call0 G__law_letters (hr.mono (by decide)) (by rfl) T.g__law_letters T.F__law_letters.kp T.b__law_letters .nil pass0)) (blkOk_by (own := [("_law_sign", 3)]) (N := N__law_first_words) (sc := defScope s__law_first_words) (by decide +kernel)) (fun _ _ _ _ _ => (pg_name (i := 3) sc__law_first_words.nd rfl (Or.inl rfl))) (fun _ _ _ _ _ => pts_nil) (fun _ _ _ _ _ => (pv 3))) (pa_cons (pe_lst pa_nil) pa_nil)) (by rfl))
  (pss_cons (ps_for PassesOwn.never rfl (pi_list (pe_op op_cat (pe_lst (pa_cons pe_str pa_nil)) (pe_lst (pa_cons pe_str pa_nil)))) (pg_name (i := 4) sc__law_first_words.nd rfl (Or.inl rfl))
    (pss_one (ps_for PassesOwn.never rfl (pi_list (pe_ifExp (pt_cmpR op_ne (pv 4) pe_str (nomark _)) (pv 1) (pe_lst (pa_cons pe_str pa_nil)))) (pg_name (i := 5) sc__law_first_words.nd rfl (Or.inr rfl))
      (pss_one (ps_set (i := 2) sc__law_first_words.nd rfl (Or.inl rfl) (pe_op op_cat (pv 2) (pe_lc (own := [("_law_late", 6)]) (g := gName 6) (by rfl) sc__law_first_words.nd (pi_list (pv 1)) (blkOk_by (own := [("_law_late", 6)]) (N := N__law_first_words) (sc := defScope s__law_first_words) (by decide +kernel)) (fun _ _ _ _ _ => (pg_name (i := 6) sc__law_first_words.nd rfl (Or.inl rfl))) (fun _ _ _ _ _ => pts_nil) (fun _ _ _ _ _ => (pe_op op_add_str (pv 5) (pv 6))))))))))
  (pss_cons (ps_for PassesOwn.never rfl (pi_str pe_str) (pg_name (i := 5) sc__law_first_words.nd rfl (Or.inr rfl))
    (pss_one (ps_for PassesOwn.never rfl (pi_str (pe_call0 G__law_letters (hr.mono (by decide)) (by rfl) T.g__law_letters T.F__law_letters.kp T.b__law_letters .nil pass0)) (pg_name (i := 6) sc__law_first_words.nd rfl (Or.inr rfl))
      (pss_one (ps_set (i := 2) sc__law_first_words.nd rfl (Or.inl rfl) (pe_op op_cat (pv 2) (pe_lc (own := [("_law_last", 7)]) (g := gName 7) (by rfl) sc__law_first_words.nd (pi_list (pv 1)) (blkOk_by (own := [("_law_last", 7)]) (N := N__law_first_words) (sc := defScope s__law_first_words) (by decide +kernel)) (fun _ _ _ _ _ => (pg_name (i := 7) sc__law_first_words.nd rfl (Or.inl rfl))) (fun _ _ _ _ _ => pts_nil) (fun _ _ _ _ _ => (pe_op op_add_str (pe_op op_add_str (pv 5) (pv 6)) (pv 7))))))))))
  (pss_one (ps_ret (pe_slice sl_list (pe_lc (own := [("_law_word", 8)]) (g := gName 8) (by rfl) sc__law_first_words.nd (pi_list (pv 2)) (blkOk_by (own := [("_law_word", 8)]) (N := N__law_first_words) (sc := defScope s__law_first_words) (by decide +kernel)) (fun _ _ _ _ _ => (pg_name (i := 8) sc__law_first_words.nd rfl (Or.inl rfl))) (fun _ _ _ _ _ => (pts_one (pt_cmpR (k_op_notIn_seq K) (pv 8) (pe_call0 G__law_keywords (hr.mono (by decide)) (by rfl) T.g__law_keywords T.F__law_keywords.kp T.b__law_keywords .nil pass0) (by rfl)))) (fun _ _ _ _ _ => (pv 8))) po_none (po_some (pv 0)))))))), ?_⟩
  -- the letters
  refine ⟨rfl, az, rfl, fun D nD => ?_⟩
  refine lc_gen walk_str (fun i => (c26[i]?).bind fun c => some (.str (toS [c]))) (by rw [az_size]; decide) nD (fun _ _ => trivial) ?_ ?_
  · rintro i x H1 H2 R Rn hi sm ⟨rfl, c, hc, rfl⟩ hy hn
    rw [az_getA] at hc
    refine ⟨rfl, ?_⟩
    exact ⟨_, rfl, hy _ (by rw [hc] <;> rfl) _ (Same.refl _)⟩
  intro H1 s1 d1
  rw [az_size, ← c26_len, range_all, filterMap_some] at d1
  refine ⟨Nat.zero_le _, fun f0 nf0 => ⟨_, _, rfl, ?_⟩⟩
  have f0n := same_new nf0 (.lst [])
  -- ['', '-']
  refine ⟨(by show 1 ≤ sizeLine; decide), fun p1 np1 => ⟨(by show 1 ≤ sizeLine; decide), fun p2 np2 => ⟨p1, p2, [.str (Str.ofString "")], [.str (Str.ofString "-")], rfl, rfl, ?_, upd_same, (by show 2 ≤ sizeLine; decide), fun t nt => ?_⟩⟩⟩
  · exact same_new np2 _ _ _ upd_same
  have s2 := same_new np1 (.lst [.str (Str.ofString "")])
  have s3 := same_new np2 (.lst [.str (Str.ofString "-")])
  have s4 := same_new nt (.lst ([.str (Str.ofString "")] ++ [.str (Str.ofString "-")]))
  refine ⟨t, rfl, ⟨_, .inl (.inl upd_same)⟩, ?_⟩
  have sA : Same H1 (upd (upd (upd (upd H1 f0 (.lst [])) p1 (.lst [.str (Str.ofString "")])) p2 (.lst [.str (Str.ofString "-")])) t (.lst ([.str (Str.ofString "")] ++ [.str (Str.ofString "-")]))) := f0n.trans (s2.trans (s3.trans s4))
  have f0A := s4 _ _ (s3 _ _ (s2 _ _ (upd_same (H := H1) (a := f0) (o := .lst []))))
  have dA := sA _ _ d1
  have tA := upd_same (H := upd (upd (upd H1 f0 (.lst [])) p1 (.lst [.str (Str.ofString "")])) p2 (.lst [.str (Str.ofString "-")])) (a := t) (o := .lst ([.str (Str.ofString "")] ++ [.str (Str.ofString "-")]))
  have sH := s1.trans sA
  generalize upd (upd (upd (upd H1 f0 (.lst [])) p1 (.lst [.str (Str.ofString "")])) p2 (.lst [.str (Str.ofString "-")])) t (.lst ([.str (Str.ofString "")] ++ [.str (Str.ofString "-")])) = HA at *
  -- one more of the words: [x + late for late in letters], put behind what is found
  let Found := fun (B : Hp) (l : List (List Nat)) (n : Nat) (σ : L2.St) (H' : Hp) => ∃ f x3 x4 x5 x6 x7 x8, σ = [some (.int many), some (.ref D), some (.ref f), x3, x4, x5, x6, x7, x8] ∧ Same B H' ∧ H' f = some (.lst (vS l)) ∧ l.length = n ∧ n ≤ 5000
  have cat : ∀ (B : Hp) (l : List (List Nat)) (a : List Nat) (f : Addr) (H' : Hp) (R : V → Hp → Prop), Same B H' → H' f = some (.lst (vS l)) → l.length ≤ 5000 → (∀ p H'', Same B H'' → H'' p = some (.lst (vS (l ++ ext1 [a]))) → R (.ref p) H'') →
      ∀ (E : Addr) (H'' : Hp), Same H' H'' → H'' E = some (.lst (c26.map fun c => V.str (toS (a ++ [c])))) → rCat (.ref f) (.ref E) H'' R := fun B l a f H' R sm ef hl k E H'' s e => by
    rw [vS_c26] at e
    refine ⟨f, E, _, _, rfl, rfl, s _ _ ef, e, ?_, fun p np => k p _ (sm.trans (s.trans (same_new np _))) ?_⟩
    · rw [vS_len, vS_len, ext1_len]
      show l.length + 26 * 1 ≤ sizeLine
      unfold sizeLine
      omega
    · rw [upd_same, vS_app]
  refine for_it (walk_list (K := K) (a := t) (xs := [.str (Str.ofString ""), .str (Str.ofString "-")])) (fun i => Found HA ([[], lw1, lw1 ++ lw2].getD i []) ([0, 26, 702].getD i 0)) ⟨f0, _, _, _, _, _, _, rfl, Same.refl _, f0A, rfl, by decide⟩ (fun i σ H' _ ⟨_, _, _, _, _, _, _, _, sm, _⟩ => .inl (.inl (sm _ _ tA))) ?_ ?_
  · rintro i x σ H2 H3 hi ⟨f, x3, x4, x5, x6, x7, x8, rfl, sm, ef, hl, hn⟩ ⟨rfl, hx⟩
    have hi2 : i < 2 := hi
    have two : i = 0 ∨ i = 1 := by omega
    rcases two with rfl | rfl
    · -- ['']
      obtain rfl : V.str (Str.ofString "") = x := Option.some.inj hx
      have c0 : (!decide (V.str (Str.ofString "") = V.str (Str.ofString ""))) = false := by
        rw [decide_eq_true rfl]
        rfl
      refine ⟨_, rfl, rfl, _, rfl, ite2 (fun c => by rw [c0] at c; cases c) fun _ => ?_⟩
      refine ⟨(by show 1 ≤ sizeLine; decide), fun u nu => ⟨u, rfl, ⟨_, .inl (.inl upd_same)⟩, ?_⟩⟩
      have su := same_new nu (.lst [.str (Str.ofString "")])
      have eu := upd_same (H := H3) (a := u) (o := .lst [.str (Str.ofString "")])
      have smu := sm.trans su
      have efu := su _ _ ef
      generalize upd H3 u (.lst [.str (Str.ofString "")]) = H4 at *
      refine for_it (walk_list (K := K) (a := u) (xs := [.str (Str.ofString "")])) (fun j σ H' => Found H4 (ext1 (([[]] : List (List Nat)).take j)) (26 * j) σ H') ⟨f, _, _, _, _, _, _, rfl, Same.refl _, efu, rfl, by decide⟩ (fun j σ H' _ ⟨_, _, _, _, _, _, _, _, p, _⟩ => .inl (.inl (p _ _ eu))) ?_ ?_
      · rintro j y σ H5 H6 hj ⟨f, y3, y4, y5, y6, y7, y8, rfl, sm5, ef5, hl5, hn5⟩ ⟨rfl, hy⟩
        obtain rfl : j = 0 := by
          have : j < 1 := hj
          omega
        obtain rfl : V.str (Str.ofString "") = y := Option.some.inj hy
        have dA5 := sm5 _ _ (smu _ _ dA)
        refine ⟨_, rfl, _, rfl, D, rfl, ⟨_, .inl (.inl dA5)⟩, fun E nE => ?_⟩
        refine lc_gen (walk_list (K := K) (a := D) (xs := c26.map fun c => V.str (toS [c]))) (fun k => (c26[k]?).bind fun c => some (.str (toS ([] ++ [c])))) (by rw [List.length_map, c26_len]; decide) nE (fun H' s => .inl (.inl (s _ _ dA5))) ?_ ?_
        · rintro k z H7 H8 R Rn hk s7 ⟨rfl, hz⟩ hy hnn
          rw [List.getElem?_map] at hz
          obtain ⟨c, hc, rfl⟩ := Option.map_eq_some_iff.mp hz
          refine ⟨rfl, ?_⟩
          refine ⟨_, rfl, _, rfl, _, _, rfl, rfl, (by show 0 + 1 ≤ sizeLine; decide), hy _ (by rw [hc] <;> rfl) _ (Same.refl _)⟩
        rintro H7 s7 e7
        rw [List.length_map, range_all, filterMap_some] at e7
        refine cat H4 _ [] f _ _ sm5 ef5 (by omega) (fun p H'' s e => ?_) E H7 s7 e7
        exact ⟨p, _, _, _, _, _, _, rfl, s, e, ext1_len _, by decide⟩
      · rintro σ H5 ⟨f, y3, y4, y5, y6, y7, y8, rfl, sm5, ef5, hl5, hn5⟩
        refine ⟨f, _, _, _, _, _, _, rfl, smu.trans sm5, ?_, lw1_len, by decide⟩
        rw [ef5]
        show some (HO.lst (vS (ext1 [[]]))) = _
        rw [ext1_nil]
        rfl
    · -- the letters
      obtain rfl : V.str (Str.ofString "-") = x := Option.some.inj hx
      have c1 : (!decide (V.str (Str.ofString "-") = V.str (Str.ofString ""))) = true := by decide +kernel
      refine ⟨_, rfl, rfl, _, rfl, ite2 (fun _ => ?_) fun c => absurd c1 c⟩
      refine ⟨_, rfl, D, rfl, ⟨_, .inl (.inl (sm _ _ dA))⟩, ?_⟩
      refine for_it (walk_list (K := K) (a := D) (xs := c26.map fun c => V.str (toS [c]))) (fun j σ H' => Found HA (lw1 ++ ext1 (lw1.take j)) (26 + 26 * j) σ H' ∧ j ≤ 26) ⟨⟨f, _, _, _, _, _, _, rfl, sm, ?_, by decide, by decide⟩, by decide⟩ (fun j σ H' _ ⟨⟨_, _, _, _, _, _, _, _, p, _⟩, _⟩ => .inl (.inl (p _ _ dA))) ?_ ?_
      · rw [ef]
        rfl
      · rintro j y σ H5 H6 hj ⟨⟨f, y3, y4, y5, y6, y7, y8, rfl, sm5, ef5, hl5, hn5⟩, hj2⟩ ⟨rfl, hy⟩
        rw [List.getElem?_map] at hy
        obtain ⟨c0, hc0, rfl⟩ := Option.map_eq_some_iff.mp hy
        have hj3 : j < 26 := by
          rw [List.length_map, c26_len] at hj
          exact hj
        have dA5 := sm5 _ _ dA
        refine ⟨_, rfl, _, rfl, D, rfl, ⟨_, .inl (.inl dA5)⟩, fun E nE => ?_⟩
        refine lc_gen (walk_list (K := K) (a := D) (xs := c26.map fun c => V.str (toS [c]))) (fun k => (c26[k]?).bind fun c => some (.str (toS ([c0] ++ [c])))) (by rw [List.length_map, c26_len]; decide) nE (fun H' s => .inl (.inl (s _ _ dA5))) ?_ ?_
        · rintro k z H7 H8 R Rn hk s7 ⟨rfl, hz⟩ hy hnn
          rw [List.getElem?_map] at hz
          obtain ⟨c, hc, rfl⟩ := Option.map_eq_some_iff.mp hz
          refine ⟨rfl, ?_⟩
          refine ⟨_, rfl, _, rfl, _, _, rfl, rfl, (by show 1 + 1 ≤ sizeLine; decide), hy _ (by rw [hc] <;> rfl) _ (Same.refl _)⟩
        rintro H7 s7 e7
        rw [List.length_map, range_all, filterMap_some] at e7
        refine cat HA _ [c0] f _ _ sm5 ef5 (by omega) (fun p H'' s e => ?_) E H7 s7 e7
        refine ⟨⟨p, _, _, _, _, _, _, rfl, s, ?_, ?_, by omega⟩, by omega⟩
        · rw [e, take_snoc (l := lw1) (i := j) (x := [c0]) (by unfold lw1; rw [List.getElem?_map, hc0] <;> rfl), ext1_app, List.append_assoc]
        · rw [List.length_append, ext1_len, List.length_take, lw1_len]
          omega
      · rintro σ H5 ⟨⟨f, y3, y4, y5, y6, y7, y8, rfl, sm5, ef5, hl5, hn5⟩, _⟩
        refine ⟨f, _, _, _, _, _, _, rfl, sm5, ?_, ?_, by decide⟩
        · rw [ef5, List.length_map, c26_len, List.take_of_length_le (by rw [lw1_len]; exact Nat.le_refl _), ext1_lw1]
          rfl
        · show (lw1 ++ lw2).length = 702
          rw [List.length_append, lw1_len, lw2_len]
  -- three letters
  rintro σ H2 ⟨f, x3, x4, x5, x6, x7, x8, rfl, sm, ef, hl, hn⟩
  refine ⟨_, rfl, ?_⟩
  refine for_it walk_str (fun i σ H' => Found HA (lw1 ++ lw2 ++ ext1 (ext1 (([[97], [98]] : List (List Nat)).take i))) (702 + 676 * i) σ H') ⟨f, _, _, _, _, _, _, rfl, sm, ?_, ?_, by decide⟩ (fun _ _ _ _ _ => trivial) ?_ ?_
  · rw [ef]
    show some (HO.lst (vS (lw1 ++ lw2))) = some (HO.lst (vS (lw1 ++ lw2 ++ [])))
    rw [List.append_nil]
  · rw [List.length_append, List.length_append, lw1_len, lw2_len]
    rfl
  · rintro i x σ H3 H4 hi ⟨f, x3, x4, x5, x6, x7, x8, rfl, sm3, ef3, hl3, hn3⟩ ⟨rfl, c1, hc1, rfl⟩
    rw [← Array.getElem?_toList, ab_cps] at hc1
    have hi2 : i < 2 := hi
    refine ⟨rfl, az, rfl, ?_⟩
    refine for_it walk_str (fun j σ H' => (Found HA (lw1 ++ lw2 ++ ext1 (ext1 (([[97], [98]] : List (List Nat)).take i)) ++ ext1 ((ext1 [[c1]]).take j)) (702 + 676 * i + 26 * j) σ H' ∧ σ[5]? = some (some (.str (toS [c1])))) ∧ j ≤ 26) ⟨⟨⟨f, _, _, _, _, _, _, rfl, sm3, ?_, ?_, ?_⟩, rfl⟩, by omega⟩ (fun _ _ _ _ _ => trivial) ?_ ?_
    · rw [ef3]
      show _ = some (HO.lst (vS (_ ++ [])))
      rw [List.append_nil]
    · show (_ ++ []).length = _
      rw [List.append_nil, hl3]
      rfl
    · omega
    · rintro j y σ H5 H6 hj ⟨⟨⟨f, y3, y4, y5, y6, y7, y8, rfl, sm5, ef5, hl5, hn5⟩, h5⟩, hj2⟩ ⟨rfl, c0, hc0, rfl⟩
      obtain rfl : y5 = some (.str (toS [c1])) := Option.some.inj h5
      rw [az_getA] at hc0
      have hj3 : j < 26 := by
        rw [az_size] at hj
        exact hj
      have dA5 := sm5 _ _ dA
      refine ⟨_, rfl, _, rfl, D, rfl, ⟨_, .inl (.inl dA5)⟩, fun E nE => ?_⟩
      refine lc_gen (walk_list (K := K) (a := D) (xs := c26.map fun c => V.str (toS [c]))) (fun k => (c26[k]?).bind fun c => some (.str (toS ([c1, c0] ++ [c])))) (by rw [List.length_map, c26_len]; decide) nE (fun H' s => .inl (.inl (s _ _ dA5))) ?_ ?_
      · rintro k z H7 H8 R Rn hk s7 ⟨rfl, hz⟩ hy hnn
        rw [List.getElem?_map] at hz
        obtain ⟨c, hc, rfl⟩ := Option.map_eq_some_iff.mp hz
        refine ⟨rfl, ?_⟩
        refine ⟨_, rfl, _, rfl, _, _, rfl, rfl, (by show 1 + 1 ≤ sizeLine; decide), _, rfl, _, _, rfl, rfl, (by show 2 + 1 ≤ sizeLine; decide), hy _ (by rw [hc] <;> rfl) _ (Same.refl _)⟩
      rintro H7 s7 e7
      rw [List.length_map, range_all, filterMap_some] at e7
      refine cat HA _ [c1, c0] f _ _ sm5 ef5 (by omega) (fun p H'' s e => ?_) E H7 s7 e7
      refine ⟨⟨⟨p, _, _, _, _, _, _, rfl, s, ?_, ?_, by omega⟩, rfl⟩, by omega⟩
      · rw [e, take_snoc (l := ext1 [[c1]]) (i := j) (x := [c1, c0]) (by rw [ext1_one, List.getElem?_map, hc0] <;> rfl), ext1_app, ← List.append_assoc]
      · rw [List.length_append, hl3, ext1_len, List.length_take, ext1_len]
        show _ + 26 * min (j + 1) 26 = _
        omega
    · rintro σ H5 ⟨⟨⟨f, y3, y4, y5, y6, y7, y8, rfl, sm5, ef5, hl5, hn5⟩, h5⟩, hj2⟩
      refine ⟨f, _, _, _, _, _, _, rfl, sm5, ?_, ?_, by omega⟩
      · have tk26 : (ext1 [[c1]]).take 26 = ext1 [[c1]] := List.take_of_length_le (by rw [ext1_len]; show 26 * 1 ≤ 26; decide)
        rw [ef5, az_size, tk26, List.append_assoc, ← ext1_app, ← ext1_app, take_snoc (x := [c1])]
        have q : ([97, 98].map fun c => [c])[i]? = some [c1] := by
          rw [List.getElem?_map, hc1]
          rfl
        exact q
      · have q : ([97, 98].map fun c => [c])[i]? = some [c1] := by
          rw [List.getElem?_map, hc1]
          rfl
        show (_ ++ ext1 (ext1 ((([97, 98].map fun c => [c]) : List (List Nat)).take (i + 1)))).length = _
        rw [take_snoc q, ext1_app, ext1_app, ← List.append_assoc, List.length_append, ext1_len, ext1_len]
        show (lw1 ++ lw2 ++ ext1 (ext1 (([[97], [98]] : List (List Nat)).take i))).length + 26 * (26 * 1) = _
        rw [hl3]
        omega
  · rintro σ H3 ⟨f, x3, x4, x5, x6, x7, x8, rfl, sm3, ef3, hl3, hn3⟩
    rw [ab_size] at ef3
    have ef4 : H3 f = some (.lst (vS (lw1 ++ lw2 ++ lw3))) := by
      rw [ef3]
      show some (HO.lst (vS (lw1 ++ lw2 ++ ext1 (ext1 [[97], [98]])))) = _
      rw [ext1_ab]
    have l4 : (lw1 ++ lw2 ++ lw3).length = 2054 := by decide +kernel
    generalize hL : lw1 ++ lw2 ++ lw3 = L at ef4 l4
    refine ⟨_, rfl, f, rfl, ⟨_, .inl (.inl ef4)⟩, fun E nE => ?_⟩
    refine lc_gen (walk_list (K := K) (a := f) (xs := vS L)) (fun k => (L[k]?).bind fun x => if kwL.contains (toS x) = true then none else some (.str (toS x))) (by rw [vS_len, l4]; decide) nE (fun H' s => .inl (.inl (s _ _ ef4))) ?_ ?_
    · rintro k z H7 H8 R Rn hk s7 ⟨rfl, hz⟩ hy hnn
      unfold vS at hz
      rw [List.getElem?_map] at hz
      obtain ⟨c, hc, rfl⟩ := Option.map_eq_some_iff.mp hz
      refine ⟨rfl, ?_⟩
      refine ⟨_, rfl, rfl, fun Hk pk sk nk ek => ⟨pk, _, rfl, .inl (.inl (.inl ek)), rfl, My.flat_strs kwL, _, rfl, ?_⟩⟩
      rw [inV_strs]
      cases hkw : kwL.contains (toS c)
      · exact ⟨_, rfl, hy _ (by rw [hc]; show (if _ then _ else _) = _; rw [hkw] <;> rfl) _ sk⟩
      · exact hnn (by rw [hc]; show (if _ then _ else _) = _; rw [hkw] <;> rfl) _ sk
    rintro H7 s7 e7
    rw [vS_len, range_all, kw_filter] at e7
    refine ⟨_, rfl, (many : Int), rfl, E, _, rfl, .inl (.inl e7), fun p np => ?_⟩
    rw [cut_to]
    refine q _ p (sH.trans (sm3.trans (s7.trans (same_new np _)))) ((sH.trans (sm3.trans s7)).free np) ?_
    rw [upd_same, ← List.map_take]
    unfold lawW
    rw [hL]
end
end Kx
/-! part KitA -/
namespace My
open PySem PySem.Spec PyProof.Rows L2
theorem letter_ok {c : Nat} (h1 : 97 ≤ c) (h2 : c < 123) : Unicode.isAlpha c = true ∧ Unicode.isLower c = true ∧ Unicode.isUpper c = false ∧ Unicode.isTitle c = false ∧ c < 128 := by
  have q : ∀ k : Fin 26, Unicode.isAlpha (97 + k.1) = true ∧ Unicode.isLower (97 + k.1) = true ∧ Unicode.isUpper (97 + k.1) = false ∧ Unicode.isTitle (97 + k.1) = false ∧ 97 + k.1 < 128 := by decide +kernel
  have e : c = 97 + (c - 97) := by omega
  rw [e]
  exact q ⟨c - 97, by omega⟩
/-- a word of letters is a name unless it is a keyword -/
theorem nameB_word {l : List Nat} (h0 : 0 < l.length) (h6 : l.length ≤ 6) (h : ∀ c ∈ l, 97 ≤ c ∧ c < 123) : nameB (toS l) = !kwL.contains (toS l) := by
  have a1 : Txt.isascii (toS l) = true := by
    show l.toArray.all (fun c => decide (c < 128)) = true
    rw [List.all_toArray]
    exact List.all_eq_true.mpr fun c hc => decide_eq_true (letter_ok (h c hc).1 (h c hc).2).2.2.2.2
  have a2 : Txt.isalpha (toS l) = true := by
    show (decide ((toS l).length > 0) && l.toArray.all Unicode.isAlpha) = true
    rw [List.all_toArray, toS_len, decide_eq_true h0]
    exact List.all_eq_true.mpr fun c hc => (letter_ok (h c hc).1 (h c hc).2).1
  have a3 : Txt.islower (toS l) = true := by
    show (l.toArray.any Unicode.isLower && !l.toArray.any fun c => Unicode.isUpper c || Unicode.isTitle c) = true
    rw [List.any_toArray, List.any_toArray]
    have b1 : l.any Unicode.isLower = true := by
      cases l with
      | nil => exact absurd h0 (by decide)
      | cons c r => exact List.any_eq_true.mpr ⟨c, List.mem_cons_self, (letter_ok (h c List.mem_cons_self).1 (h c List.mem_cons_self).2).2.1⟩
    have b2 : (l.any fun c => Unicode.isUpper c || Unicode.isTitle c) = false := List.any_eq_false.mpr fun c hc => by
      have q := letter_ok (h c hc).1 (h c hc).2
      rw [q.2.2.1, q.2.2.2.1]
      exact Bool.false_ne_true
    rw [b1, b2]
    rfl
  unfold nameB
  rw [if_neg (by rw [toS_len]; omega), a1, a2, a3]
  rfl
def lwAll : List (List Nat) := lw1 ++ lw2 ++ lw3
theorem lw_ok : lwAll.all (fun l => decide (0 < l.length) && decide (l.length ≤ 6) && l.all fun c => decide (97 ≤ c) && decide (c < 123)) = true := by decide +kernel
theorem lw_word {l : List Nat} (h : l ∈ lwAll) : nameB (toS l) = !kwL.contains (toS l) := by
  have q := List.all_eq_true.mp lw_ok l h
  simp only [Bool.and_eq_true, decide_eq_true_eq, List.all_eq_true] at q
  exact nameB_word q.1.1 q.1.2 fun c hc => q.2 c hc
theorem ws_eq {L : Nat} {l : List (List Nat)} {n : Nat} (h : (List.range n).map (sfx L) = l) (hn : n ≤ 26 ^ L) : (ws L).take n = l.map toS := by
  unfold ws
  rw [← List.map_take, List.take_range, Nat.min_eq_left hn, ← h, List.map_map]
  rfl
theorem pre_front : ∃ r, pre 6 = lwAll.map toS ++ r := by
  obtain ⟨r, e⟩ := pre_le (show 3 ≤ 6 by decide)
  have e1 : ws 1 = lw1.map toS := by
    rw [← ws_eq (L := 1) (n := 26) (l := lw1) (by decide +kernel) (by decide), List.take_of_length_le (by rw [ws_len]; decide)]
  have e2 : ws 2 = lw2.map toS := by
    rw [← ws_eq (L := 2) (n := 676) (l := lw2) (by decide +kernel) (by decide), List.take_of_length_le (by rw [ws_len]; decide)]
  have e3 : (ws 3).take 1352 = lw3.map toS := ws_eq (by decide +kernel) (by decide)
  refine ⟨(ws 3).drop 1352 ++ r, ?_⟩
  rw [e, show pre 3 = ws 1 ++ ws 2 ++ ws 3 by rw [pre_succ 2, pre_succ 1, pre_succ 0]; rfl]
  unfold lwAll
  rw [List.map_append, List.map_append, ← e1, ← e2, ← e3, ← List.append_assoc, List.append_assoc (ws 1 ++ ws 2) _ ((ws 3).drop 1352), List.take_append_drop]
theorem name_front : ∃ r, (pre 6).filter nameB = lawW ++ r := by
  obtain ⟨r, e⟩ := pre_front
  refine ⟨r.filter nameB, ?_⟩
  rw [e, List.filter_append]
  congr 1
  unfold lawW
  show _ = (lwAll.map toS).filter _
  refine List.filter_congr fun z hz => ?_
  obtain ⟨l, hl, rfl⟩ := List.mem_map.mp hz
  exact lw_word hl
/-! no word twice -/
def code (l : List Nat) : Nat := l.foldl (fun a c => a * 27 + (c - 96)) 0
def upB : List Nat → Bool
  | [] => true
  | [_] => true
  | a :: b :: r => decide (a < b) && upB (b :: r)
theorem up_pw : ∀ {l : List Nat}, upB l = true → l.Pairwise (· < ·)
  | [], _ => .nil
  | [a], _ => List.pairwise_singleton ..
  | a :: b :: r, h => by
    have h : (decide (a < b) && upB (b :: r)) = true := h
    rw [Bool.and_eq_true, decide_eq_true_eq] at h
    have ih := up_pw h.2
    refine List.pairwise_cons.mpr ⟨fun c hc => ?_, ih⟩
    rcases List.mem_cons.mp hc with e | e
    · rw [e]; exact h.1
    · exact Nat.lt_trans h.1 ((List.pairwise_cons.mp ih).1 c e)
theorem lw_chain : upB (lwAll.map code) = true := by decide +kernel
theorem toS_inj {a b : List Nat} (h : toS a = toS b) : a = b := by
  have q : a.toArray = b.toArray := congrArg Str.cps h
  simpa using q
theorem lw_nodup : (lwAll.map toS).Nodup := by
  have p : (lwAll.map code).Pairwise (· < ·) := up_pw lw_chain
  refine List.pairwise_map.mpr ((List.pairwise_map.mp p).imp fun {a b} h e => ?_)
  have q : a = b := toS_inj e
  rw [q] at h
  exact Nat.lt_irrefl _ h
theorem lawW_nodup : lawW.Nodup := List.Pairwise.filter _ lw_nodup
theorem lawW_len : lawW.length = 2052 := by decide +kernel
/-- of different words at most as many are avoided as there are to avoid -/
theorem left_over : ∀ (av : List Str) (l : List Str), l.Nodup → l.length ≤ (l.filter fun z => !av.contains z).length + av.length
  | [], l, _ => by
    have e : (l.filter fun z => !([] : List Str).contains z) = l := List.filter_eq_self.mpr fun _ _ => rfl
    rw [e]
    exact Nat.le_refl _
  | a :: av, l, h => by
    have e : (l.filter fun z => !(a :: av).contains z) = (l.filter fun z => z != a).filter fun z => !av.contains z := by
      rw [List.filter_filter]
      refine List.filter_congr fun z _ => ?_
      rw [List.contains_cons, Bool.not_or, Bool.and_comm]
      rfl
    have ih := left_over av (l.filter fun z => z != a) (List.Pairwise.filter _ h)
    have k : l.length ≤ (l.filter fun z => z != a).length + 1 := by
      rw [← List.Nodup.erase_eq_filter h, List.length_erase]
      split <;> omega
    rw [e, List.length_cons]
    omega
theorem fresh_law {many : Nat} {av : List Str} (h : many + av.length ≤ 1400) : fresh many av = ((lawW.take 1400).filter fun z => !av.contains z).take many := by
  obtain ⟨r, e⟩ := name_front
  have e2 : (pre 6).filter (okW av) = ((pre 6).filter nameB).filter fun z => !av.contains z := by
    rw [List.filter_filter]
    refine List.filter_congr fun z _ => ?_
    unfold okW
    rw [Bool.and_comm]
  unfold fresh
  rw [e2, e, show lawW ++ r = lawW.take 1400 ++ (lawW.drop 1400 ++ r) by rw [← List.append_assoc, List.take_append_drop], List.filter_append, List.take_append_of_le_length]
  have q := left_over av (lawW.take 1400) (lawW_nodup.sublist (List.take_sublist ..))
  rw [List.length_take, lawW_len] at q
  omega
end My
/-! part KitK -/
/-! calls by keywords alone -/
namespace My
open PySem PySem.Spec PyProof.Rows L2
/-- the items at these places -/
def pick {α : Type} (is : List Nat) (xs : List α) : List α := is.filterMap fun i => xs[i]?
theorem pick_rel : ∀ (is : List Nat) {zs : List V} {ws : List Value}, Vals zs ws → Vals (pick is zs) (pick is ws)
  | [], _, _, _ => .nil
  | i :: is, zs, ws, r => by
    have ih := pick_rel is r
    cases h : zs[i]? with
    | none =>
      have h2 := r.none_of h
      unfold pick
      rw [List.filterMap_cons_none h, List.filterMap_cons_none h2]
      exact ih
    | some v =>
      obtain ⟨u, h2, rv⟩ := r.get h
      unfold pick
      rw [List.filterMap_cons_some h, List.filterMap_cons_some h2]
      exact .cons rv ih
section
variable {K : PySem.W.Frag} {x qual : Str} {st : Stmt} {f : Addr} {fd : FuncData} {ps ks : List Str}
/-- how keywords bind: positional values first, then by the places `is` of the keywords -/
theorem kbn_of (F : L2.Fun K x qual st f fd) (n : Nat) (is : List Nat)
    (h : ∀ (kV doc pm : Value) (an : Option Addr) (cdv ct : Value) (us ws : List Value), us.length = n → ws.length = ks.length → bindArgs (PySem.W.fnOf x qual (defArgs st) (defBody st) (defScope st) .none kV doc pm an cdv ct) ⟨us, ks.zip ws⟩ = pure (ps.zip (us ++ pick is ws))) :
    KBn K fd ps n ks (fun us ws => us ++ pick is ws) (fun vs zs => vs ++ pick is zs) := by
  obtain ⟨oc, od, kV, doc, pm, an, cdv, ct, osl, rfl, lk, hcd⟩ := F.ex
  exact ⟨fun s us ws _ h1 h2 => .of_eq (h kV doc pm an cdv ct us ws h1 h2), fun r1 r2 => Vals.append r1 (pick_rel is r2)⟩
end
section
variable {X : Cx} {CX : CXT} {k n : Nat} {f : Addr} {fd : FuncData} {ps ks : List Str} {sp : Sp} {g : List Value → List Value → List Value} {gV : List V → List V → List V} {E : XK} {x : Str} {p pos : Pos} {kws : List Keyword} {tk : TA}
theorem pe_callK0 (F : FnOk X.prog X.w X.K X.mg X.base CX k f fd ps sp) (hr : Room k X.A) (hg : Gl X x) (hm : X.mg x = some (.ref f)) (hk : PySem.W.keepIn X.K (.ref f) = true) (hb : KBn X.K fd ps 0 ks g gV) (hx : Passes CX X E) (hkw : PK X kws tk)
    (hall : (backToKw pos (keywordEach kws X.env)).all (·.1.isSome) = true := by rfl) (hks : (backToKw pos (keywordEach kws X.env)).filterMap (·.1) = ks := by rfl) (hdb : (x == ("__debug__" : Str)) = false := by decide)
    (hpl : ((backTo pos (starEach [] X.env)).any (·.1) || (backToKw pos (keywordEach kws X.env)).any (·.1.isNone)) = false := by rfl) : PE X (.Call (.Name x p) [] kws pos) (tCallN 0 ks.length sp gV E tNil tk) := by
  refine ⟨fun pins s σ H Q I h => wpAny_Call_Name_kw (ld_glob I hg hm (PySem.W.callWith_KW0 (h₀ := X.base) I.ok.mod.kin hk hall ?_ hpl) hdb)⟩
  refine thn (hkw.run pos pins s σ H _ I h) fun ws s2 ⟨zs, H2, I2, rz, l1, l2, q2⟩ => ⟨I2.kIn, ?_⟩
  rw [hks]
  exact run_fnN F hr hb hx I2 .nil rz l1 l2 q2
end
end My
/-! part KitB -/
namespace My
open PySem PySem.Spec PyProof.Rows L2
def spLaw (K : PySem.W.Frag) : Sp := fun vs H Q _ => ∃ (a : Addr) (ns : List Int), vs = [.ref a] ∧ SqL K H a (ns.map V.int) ∧ ns.length ≤ 63 ∧ ∀ H', Q (.bl true) H'
/-- a list of texts -/
theorem strs_of {ys : List V} (h : ∀ (i : Nat) (y : V), ys[i]? = some y → ∃ s : Str, y = .str s) : ∃ ss : List Str, ys = ss.map V.str ∧ ss.length = ys.length := by
  induction ys with
  | nil => exact ⟨[], rfl, rfl⟩
  | cons y ys ih =>
    obtain ⟨s, rfl⟩ := h 0 y rfl
    obtain ⟨ss, e, l⟩ := ih fun i z hz => h (i + 1) z hz
    exact ⟨s :: ss, by rw [List.map_cons, ← e], by rw [List.length_cons, List.length_cons, l]⟩
/-- the same texts in two lists -/
theorem eqv_strs {K : PySem.W.Frag} {H : Hp} {a b : Addr} {ss : List Str} (h1 : SqL K H a (ss.map V.str)) (h2 : SqL K H b (ss.map V.str)) (hs : ss.length < sizeLine) (n : Nat) : Eqv K H (n + 2) (.ref a) (.ref b) := by
  refine .inr (.inl ⟨a, b, _, _, rfl, rfl, h1, h2, rfl, by rw [List.length_map]; exact hs, fun i x y hx hy => ?_⟩)
  rw [hx] at hy
  obtain rfl : x = y := Option.some.inj hy
  rw [List.getElem?_map] at hx
  obtain ⟨s, _, rfl⟩ := Option.map_eq_some_iff.mp hx
  exact .inl ⟨rfl, rfl⟩
theorem eqv_scal {K : PySem.W.Frag} {H : Hp} {n : Nat} {v : V} (h : scalV v = true) : Eqv K H (n + 1) v v := .inl ⟨rfl, h⟩
/-- a written list of things that are alike -/
theorem eqv_list {K : PySem.W.Frag} {H : Hp} {a b : Addr} {xs ys : List V} {n : Nat} (h1 : SqL K H a xs) (h2 : SqL K H b ys) (hs : xs.length < sizeLine) (h : Paired (Eqv K H n) xs ys) : Eqv K H (n + 1) (.ref a) (.ref b) := by
  refine .inr (.inl ⟨a, b, xs, ys, rfl, rfl, h1, h2, Paired.length h, hs, ?_⟩)
  clear h1 h2 hs
  induction h with
  | nil => intro i x y hx; simp at hx
  | cons r t ih =>
    intro i x y hx hy
    cases i with
    | zero =>
      obtain rfl := Option.some.inj hx
      obtain rfl := Option.some.inj hy
      exact r
    | succ i => exact ih i x y hx hy
theorem eqv_tup {K : PySem.W.Frag} {H : Hp} {a b : Addr} {xs ys : List V} {n : Nat} (h1 : SqT K H a xs) (h2 : SqT K H b ys) (hs : xs.length < sizeLine) (h : Paired (Eqv K H n) xs ys) : Eqv K H (n + 1) (.ref a) (.ref b) := by
  refine .inr (.inr ⟨a, b, xs, ys, rfl, rfl, h1, h2, Paired.length h, hs, ?_⟩)
  clear h1 h2 hs
  induction h with
  | nil => intro i x y hx; simp at hx
  | cons r t ih =>
    intro i x y hx hy
    cases i with
    | zero =>
      obtain rfl := Option.some.inj hx
      obtain rfl := Option.some.inj hy
      exact r
    | succ i => exact ih i x y hx hy
theorem str_filter (av : List Str) : ∀ l : List Str, l.filterMap (fun z => if av.contains z = true then none else some (V.str z)) = (l.filter fun z => !av.contains z).map V.str
  | [] => rfl
  | x :: l => by
    have ih := str_filter av l
    cases h : av.contains x with
    | true => rw [List.filterMap_cons_none (by rw [h] <;> rfl), List.filter_cons_of_neg (by rw [h]; exact Bool.false_ne_true), ih]
    | false => rw [List.filterMap_cons_some (b := .str x) (by rw [h] <;> rfl), List.filter_cons_of_pos (by rw [h] <;> rfl), ih, List.map_cons]
theorem same_none {K : PySem.W.Frag} {P : Program} {w : World} {mg : Str → Option Value} {base : Heap} {f : Addr} {fd : FuncData} {a b : Str} : FnOk P w K mg base CX0 0 f fd [a, b] (spSame K 0) :=
  ⟨fun vs H Q E h => (by obtain ⟨_, _, _, z, _⟩ := h; exact z.elim), fun A outer s H args us vs Q E _ _ _ _ h => (by obtain ⟨_, _, _, z, _⟩ := h; exact z.elim)⟩
end My
/-! part KitC -/
namespace My
open PySem PySem.Spec PyProof.Rows L2
theorem dp_strs {K : PySem.W.Frag} {H : Hp} : ∀ ss : List Str, DpAll K H (ss.map V.str) (ss.map PyData.str)
  | [] => .nil
  | s :: ss => .cons (.str s) (dp_strs ss)
theorem lay_strs : ∀ ss : List Str, (∀ s ∈ ss, PyData.strOk s = true) → PyData.canLayAll0 (ss.map PyData.str) = true
  | [], _ => rfl
  | s :: ss, h => by
    show (PyData.canLay0 (.str s) && PyData.canLayAll0 (ss.map PyData.str)) = true
    rw [lay_strs ss fun z hz => h z (List.mem_cons_of_mem _ hz), show PyData.canLay0 (.str s) = PyData.strOk s from rfl, h s List.mem_cons_self]
    rfl
theorem depth_strs : ∀ ss : List Str, PyData.depthAll (ss.map PyData.str) = 0
  | [] => by simp [PyData.depthAll]
  | s :: ss => by
    have ih := depth_strs ss
    simp [PyData.depthAll, PyData.depth, ih]
theorem shaped_strs {ss : List Str} (h : ∀ s ∈ ss, PyData.strOk s = true) : SeqAt.shaped (.list (ss.map PyData.str)) = true := by
  have d : PyData.depth (.list (ss.map PyData.str)) = 1 := by simp [PyData.depth, depth_strs]
  show (PyData.canLayAll0 (ss.map PyData.str) && decide (PyData.depth (.list (ss.map PyData.str)) ≤ 64)) = true
  rw [lay_strs ss h, d]
  rfl
theorem eqv_same {ss : List Str} (h : ∀ s ∈ ss, PyData.strOk s = true) : PyData.eqv (.list (ss.map PyData.str)) (.list (ss.map PyData.str)) = true := SeqAt.eqv_refl _ (lay_strs ss h)
theorem lawW_strOk : lawW.all (fun s => PyData.strOk s) = true := by decide +kernel
theorem strs_ok {ys : List V} (h : ∀ (i : Nat) (y : V), ys[i]? = some y → ∃ s : Str, y = .str s ∧ PyData.strOk s = true) : ∃ ss : List Str, ys = ss.map V.str ∧ ss.length = ys.length ∧ ∀ s ∈ ss, PyData.strOk s = true := by
  induction ys with
  | nil => exact ⟨[], rfl, rfl, fun s h => by cases h⟩
  | cons y ys ih =>
    obtain ⟨s, rfl, k⟩ := h 0 y rfl
    obtain ⟨ss, e, l, o⟩ := ih fun i z hz => h (i + 1) z hz
    refine ⟨s :: ss, by rw [List.map_cons, ← e], by rw [List.length_cons, List.length_cons, l], fun z hz => ?_⟩
    rcases List.mem_cons.mp hz with u | u
    · rw [u]; exact k
    · exact o z u
theorem new_at {H H' : Hp} {p : Addr} {o : HO} (hX : upd H p o = H') (np : H p = none) : Same H H' ∧ H' p = some o := by
  subst hX
  exact ⟨same_new np o, upd_same⟩
theorem same_over {H H' : Hp} {p : Addr} (s : Same H H') (n : H p = none) (o : HO) : Same H (upd H' p o) := fun b u e => by
  rw [upd_ne (ne_of_none e n)]
  exact s _ _ e
abbrev ww : List Str := lawW.take 1400
theorem ww_len : ww.length = 1400 := by
  show (lawW.take 1400).length = 1400
  rw [List.length_take, lawW_len]
  rfl
theorem late_all {m : Nat} (h : m ≤ 1400) : fresh m [] = ww.take m := by
  rw [fresh_law (by simpa using h)]
  have e : (ww.filter fun z => !([] : List Str).contains z) = ww := List.filter_eq_self.mpr fun _ _ => rfl
  rw [show (lawW.take 1400) = ww from rfl, e]
theorem late_mid {m : Nat} (h : 28 ≤ m) : ((ww.take m).drop 25).take 3 = [Str.ofString "z", Str.ofString "aa", Str.ofString "ab"] := by
  rw [List.drop_take, List.take_take, Nat.min_eq_left (by omega)]
  decide +kernel
theorem late_kw {m : Nat} {k : Str} (h : kwL.contains k = true) : (ww.take m).contains k = false := by
  cases q : (ww.take m).contains k
  · rfl
  · have mem : k ∈ lawW := List.mem_of_mem_take (List.mem_of_mem_take (List.contains_iff_mem.mp q))
    have z := (List.mem_filter.mp mem).2
    rw [h] at z
    cases z
abbrev held4 : List Str := [Str.ofString "a", Str.ofString "z", Str.ofString "zz", Str.ofString "dp"]
abbrev mid24 : List Str := (List.range 24).map fun i => toS [98 + i]
theorem late_held {m : Nat} (h1 : 26 ≤ m) (h2 : m ≤ 1000) : (fresh m held4).take 26 = mid24 ++ [Str.ofString "aa", Str.ofString "ab"] := by
  rw [fresh_law (by show m + 4 ≤ 1400; omega), List.take_take, Nat.min_eq_left h1]
  decide +kernel
end My
/-! part K02g -/
namespace Kx
open PySem PySem.Spec PyProof.Rows L2 My
section
variable {P : Program} {w : World} {K : PySem.W.Frag} {mg : Str → Option Value} {base : Heap} (T : Tx K mg)
theorem ok_same : ∀ n : Nat, FnOk P w K mg base CX0 n T.f__law_same T.d__law_same ["_law_found", "_law_due"] (spSame K n)
  | 0 => same_none
  | n + 1 => ok_same1 T (ok_same n)
theorem ok_law : FnOk P w K mg base CX0 4 T.f_law T.d_law ["_law_script"] (spLaw K) := by
  have G__law_bag := ok_bag (P := P) (w := w) (base := base) T
  have G__law_draw := ok_draw (P := P) (w := w) (base := base) T
  have G__law_of := ok_of (P := P) (w := w) (base := base) T
  have G__law_first_words := ok_first_words (P := P) (w := w) (base := base) T
  have G_fresh_names := ok_fresh_names (P := P) (w := w) (base := base) T
  have G__law_same := ok_same (P := P) (w := w) (base := base) T 3
  have KB : KBn K T.d_fresh_names ["many", "avoid"] 0 ["avoid", "many"] _ _ := kbn_of T.F_fresh_names 0 [1, 0] fun _ _ _ _ _ _ us ws h1 h2 => match us, ws, h1, h2 with | [], [_, _], _, _ => rfl
  refine T.F_law.ok sc_law (fun vs H Q E h => ?_) (fun cdv A outer s H vs Q E hr h => ?_)
  · obtain ⟨a, ns, rfl, _⟩ := h
    rfl
  obtain ⟨a, ns, rfl, hS, h63, q⟩ := h
  refine ⟨_, (pss_cons (ps_set (i := 1) sc_law.nd rfl (Or.inr rfl) (pe_call G__law_bag (hr.mono (by decide)) (by rfl) T.g__law_bag T.F__law_bag.kp T.b__law_bag .nil pass0 (pa_cons (pv 0) pa_nil)))
  (pss_cons (ps_set (i := 2) sc_law.nd rfl (Or.inr rfl) (pe_call G__law_first_words (hr.mono (by decide)) (by rfl) T.g__law_first_words T.F__law_first_words.kp T.b__law_first_words .nil pass0 (pa_cons pe_int pa_nil)))
  (pss_cons (ps_for PassesOwn.never rfl (pi_range1 (by rfl) T.z_range (pa_cons pe_int pa_nil)) (pg_name (i := 3) sc_law.nd rfl (Or.inl rfl))
    (pss_cons (ps_set (i := 4) sc_law.nd rfl (Or.inl rfl) (pe_call G__law_of (hr.mono (by decide)) (by rfl) T.g__law_of T.F__law_of.kp T.b__law_of .nil pass0 (pa_cons (pv 1) (pa_cons (pe_lst (pa_cons pe_int (pa_cons pe_int (pa_cons pe_int (pa_cons pe_int (pa_cons pe_int (pa_cons pe_int (pa_cons pe_int (pa_cons pe_int (pa_cons pe_int (pa_cons (pe_call G__law_draw (hr.mono (by decide)) (by rfl) T.g__law_draw T.F__law_draw.kp T.b__law_draw .nil pass0 (pa_cons (pv 1) (pa_cons pe_int pa_nil))) pa_nil))))))))))) pa_nil))))
    (pss_cons (ps_set (i := 5) sc_law.nd rfl (Or.inr rfl) (pe_lc (own := [("_law_k", 6)]) (g := gName 6) (by rfl) sc_law.nd (pi_range1 (by rfl) T.z_range (pa_cons (pe_call G__law_draw (hr.mono (by decide)) (by rfl) T.g__law_draw T.F__law_draw.kp T.b__law_draw .nil pass0 (pa_cons (pv 1) (pa_cons pe_int pa_nil))) pa_nil)) (blkOk_by (own := [("_law_k", 6)]) (N := N_law) (sc := defScope s_law) (by decide +kernel)) (fun _ _ _ _ _ => (pg_name (i := 6) sc_law.nd rfl (Or.inl rfl))) (fun _ _ _ _ _ => pts_nil) (fun _ _ _ _ _ => (pe_call G__law_of (hr.mono (by decide)) (by rfl) T.g__law_of T.F__law_of.kp T.b__law_of .nil pass0 (pa_cons (pv 1) (pa_cons (pe_slice (k_sl_list K) (pv 2) po_none (po_some (pe_call G__law_of (hr.mono (by decide)) (by rfl) T.g__law_of T.F__law_of.kp T.b__law_of .nil pass0 (pa_cons (pv 1) (pa_cons (pe_lst (pa_cons pe_int (pa_cons pe_int (pa_cons pe_int pa_nil)))) pa_nil))))) pa_nil))))))
    (pss_cons (ps_set (i := 5) sc_law.nd rfl (Or.inr rfl) (pe_op op_cat (pv 5) (pe_call G__law_of (hr.mono (by decide)) (by rfl) T.g__law_of T.F__law_of.kp T.b__law_of .nil pass0 (pa_cons (pv 1) (pa_cons (pe_lst (pa_cons (pe_lst pa_nil) (pa_cons (pe_lst (pa_cons pe_str (pa_cons pe_str (pa_cons pe_str (pa_cons pe_str pa_nil))))) (pa_cons (pv 5) (pa_cons (pe_lst (pa_cons pe_str (pa_cons pe_str (pa_cons pe_str pa_nil)))) pa_nil))))) pa_nil)))))
    (pss_cons (ps_set (i := 7) sc_law.nd rfl (Or.inl rfl) (pe_slice sl_list (pe_lc (own := [("_law_word", 8)]) (g := gName 8) (by rfl) sc_law.nd (pi_list (pv 2)) (blkOk_by (own := [("_law_word", 8)]) (N := N_law) (sc := defScope s_law) (by decide +kernel)) (fun _ _ _ _ _ => (pg_name (i := 8) sc_law.nd rfl (Or.inl rfl))) (fun _ _ _ _ _ => (pts_one (pt_cmpR (k_op_notIn_seq K) (pv 8) (pv 5) (by rfl)))) (fun _ _ _ _ _ => (pv 8))) po_none (po_some (pv 4))))
    (pss_cons (ps_set (i := 9) sc_law.nd rfl (Or.inl rfl) (pe_callTy call_list_of (by rfl) T.z_list (by decide +kernel) (pa_cons (pv 5) pa_nil)))
    (pss_cons (ps_if (PW.pt (pw_or (pt_not (pt_val (pe_call G__law_same (hr.mono (by decide)) (by rfl) T.g__law_same T.F__law_same.kp T.b__law_same .nil pass0 (pa_cons (pe_lst (pa_cons (pe_call G_fresh_names (hr.mono (by decide)) (by rfl) T.g_fresh_names T.F_fresh_names.kp T.b_fresh_names .nil pass0 (pa_cons (pv 4) (pa_cons (pv 5) pa_nil))) (pa_cons (pe_callK0 G_fresh_names (hr.mono (by decide)) (by rfl) T.g_fresh_names T.F_fresh_names.kp KB pass0 (pk_cons (pe_callTy call_tuple_of (by rfl) T.z_tuple (by decide +kernel) (pa_cons (pv 5) pa_nil)) (pk_cons (pv 4) pk_nil))) pa_nil))) (pa_cons (pe_lst (pa_cons (pv 7) (pa_cons (pv 7) pa_nil))) pa_nil))))) (pw_or1 (pt_cmpR (op_neD hr.units) (pv 5) (pv 9) (nomark _)))))
      (pss_one (ps_ret pe_bl))
      pss_nil)
    (pss_cons (ps_set (i := 10) sc_law.nd rfl (Or.inl rfl) (pe_call G_fresh_names (hr.mono (by decide)) (by rfl) T.g_fresh_names T.F_fresh_names.kp T.b_fresh_names .nil pass0 (pa_cons (pv 4) (pa_cons (pv 5) pa_nil))))
    (pss_cons (ps_expr (pe_bm PySem.F.plainAttrs_list PySem.F.slot_list_append PySem.F.type_list_append mt_append (pv 10) (pa_cons pe_str pa_nil)))
    (pss_one (ps_if (pt_not (pt_val (pe_call G__law_same (hr.mono (by decide)) (by rfl) T.g__law_same T.F__law_same.kp T.b__law_same .nil pass0 (pa_cons (pe_call G_fresh_names (hr.mono (by decide)) (by rfl) T.g_fresh_names T.F_fresh_names.kp T.b_fresh_names .nil pass0 (pa_cons (pv 4) (pa_cons (pv 5) pa_nil))) (pa_cons (pv 7) pa_nil)))))
      (pss_one (ps_ret pe_bl))
      pss_nil)))))))))))
  (pss_cons (ps_set (i := 4) sc_law.nd rfl (Or.inl rfl) (pe_op op_add pe_int (pe_call G__law_draw (hr.mono (by decide)) (by rfl) T.g__law_draw T.F__law_draw.kp T.b__law_draw .nil pass0 (pa_cons (pv 1) (pa_cons pe_int pa_nil)))))
  (pss_cons (ps_par (i := 11) (j := 9) (by rfl) sc_law.nd rfl rfl (by decide) rfl rfl (pa_cons (pe_call G_fresh_names (hr.mono (by decide)) (by rfl) T.g_fresh_names T.F_fresh_names.kp T.b_fresh_names .nil pass0 (pa_cons (pv 4) (pa_cons (pe_lst pa_nil) pa_nil))) (pa_cons (pe_lst (pa_cons pe_str (pa_cons pe_str (pa_cons pe_str (pa_cons pe_str pa_nil))))) pa_nil)) (by rfl))
  (pss_cons (ps_set (i := 10) sc_law.nd rfl (Or.inl rfl) (pe_lst (pa_cons (pe_slice sl_list (pv 11) (po_some pe_int) (po_some pe_int)) (pa_cons (pe_ix ix_list (pv 11) (pe_op op_sub (pe_callB call_len_seq (by rfl) T.z_len (by decide +kernel) (pa_cons (pv 11) pa_nil)) pe_int) (fun _ _ => rfl)) (pa_cons (pe_cmpR op_in_seq pe_str (pv 11) (by rfl)) (pa_cons (pe_cmpR op_in_seq pe_str (pv 11) (by rfl)) (pa_cons (pe_callB call_len_seq (by rfl) T.z_len (by decide +kernel) (pa_cons (pv 11) pa_nil)) (pa_cons (pe_slice sl_list (pe_call G_fresh_names (hr.mono (by decide)) (by rfl) T.g_fresh_names T.F_fresh_names.kp T.b_fresh_names .nil pass0 (pa_cons (pv 4) (pa_cons (pv 9) pa_nil))) po_none (po_some pe_int)) (pa_cons (pe_call G_fresh_names (hr.mono (by decide)) (by rfl) T.g_fresh_names T.F_fresh_names.kp T.b_fresh_names .nil pass0 (pa_cons pe_int (pa_cons (pv 9) pa_nil))) pa_nil)))))))))
  (pss_cons (ps_set (i := 7) sc_law.nd rfl (Or.inl rfl) (pe_lst (pa_cons (pe_lst (pa_cons pe_str (pa_cons pe_str (pa_cons pe_str pa_nil)))) (pa_cons (pe_ix ix_list (pv 2) (pe_op op_sub (pv 4) pe_int) (fun _ _ => rfl)) (pa_cons pe_bl (pa_cons pe_bl (pa_cons (pv 4) (pa_cons (pe_op op_cat (pe_lc (own := [("_law_sign", 12)]) (g := gName 12) (by rfl) sc_law.nd (pi_str pe_str) (blkOk_by (own := [("_law_sign", 12)]) (N := N_law) (sc := defScope s_law) (by decide +kernel)) (fun _ _ _ _ _ => (pg_name (i := 12) sc_law.nd rfl (Or.inl rfl))) (fun _ _ _ _ _ => pts_nil) (fun _ _ _ _ _ => (pv 12))) (pe_lst (pa_cons pe_str (pa_cons pe_str pa_nil)))) (pa_cons (pe_lst pa_nil) pa_nil)))))))))
  (pss_one (ps_ret (pe_call G__law_same (hr.mono (by decide)) (by rfl) T.g__law_same T.F__law_same.kp T.b__law_same .nil pass0 (pa_cons (pv 10) (pa_cons (pv 7) pa_nil)))))))))))), ?_⟩
  refine ⟨_, rfl, a, ns, rfl, hS, h63, fun H1 b s1 nb hb => ?_⟩
  refine ⟨1400, rfl, fun H2 wd s2 nw ew => ?_⟩
  have hb2 := hb.same s2
  have ew : H2 wd = some (.lst (ww.map V.str)) := ew
  have wwl := ww_len
  refine ⟨4, rfl, by decide, by decide, ?_⟩
  refine for_range (lo := 0) (n := 4) (fun i σ H' => ∃ x3 x4 x5 x6 x7 x8 x9 x10 x11 x12, σ = [some (.ref a), some (.ref b), some (.ref wd), x3, x4, x5, x6, x7, x8, x9, x10, x11, x12] ∧ Same H2 H') ⟨_, _, _, _, _, _, _, _, _, _, rfl, Same.refl _⟩ ?_ ?_
  · rintro i σ H3 hi ⟨x3, x4, x5, x6, x7, x8, x9, x10, x11, x12, rfl, s3⟩
    -- many
    refine ⟨_, rfl, _, rfl, b, 40, rfl, hb2.same s3, by decide, by decide, fun d d0 d1 => ?_⟩
    refine ⟨(by show 10 ≤ sizeLine; decide), fun p np => ?_⟩
    have sp := s3.trans (same_new np (.lst [.int 0, .int 1, .int 2, .int 5, .int 25, .int 26, .int 27, .int 60, .int 150, .int d]))
    refine ⟨b, p, _, rfl, hb2.same sp, .inl (.inl upd_same), (by show 0 < 10; decide), (by show 10 ≤ 1000000; decide), fun j v hv => ?_⟩
    have hm : ∃ m : Nat, v = .int m ∧ m ≤ 150 := by
      have mem := List.mem_of_getElem? hv
      simp only [List.mem_cons, List.not_mem_nil, or_false] at mem
      rcases mem with e | e | e | e | e | e | e | e | e | e
      · exact ⟨0, e, by decide⟩
      · exact ⟨1, e, by decide⟩
      · exact ⟨2, e, by decide⟩
      · exact ⟨5, e, by decide⟩
      · exact ⟨25, e, by decide⟩
      · exact ⟨26, e, by decide⟩
      · exact ⟨27, e, by decide⟩
      · exact ⟨60, e, by decide⟩
      · exact ⟨150, e, by decide⟩
      · refine ⟨d.toNat, ?_, by omega⟩
        rw [e, Int.toNat_of_nonneg d0]
    obtain ⟨m, rfl, hm⟩ := hm
    clear hv
    generalize upd H3 p (.lst [.int 0, .int 1, .int 2, .int 5, .int 25, .int 26, .int 27, .int 60, .int 150, .int d]) = H4 at sp ⊢
    -- avoid
    refine ⟨_, rfl, b, 30, rfl, hb2.same sp, by decide, by decide, fun d2 d20 d21 => ⟨d2, rfl, by omega, by omega, fun D nD => ?_⟩⟩
    refine lc_rel walk_range (fun _ y _ => ∃ s : Str, y = .str s ∧ PyData.strOk s = true) (by unfold sizeLine; omega) nD (fun _ _ => trivial) (fun _ _ _ _ _ h => h) ?_ ?_
    · rintro k y H5 H6 R Rn hk s5 nDn ⟨rfl, rfl⟩ hy
      have t5 := sp.trans s5
      refine ⟨rfl, ?_⟩
      refine ⟨_, rfl, _, rfl, _, rfl, (by show 3 ≤ sizeLine; decide), fun p3 np3 => ?_⟩
      have s6 := same_new np3 (.lst [.int 5, .int 30, .int 200])
      refine ⟨b, p3, _, rfl, hb2.same (t5.trans s6), .inl (.inl upd_same), by decide, by show 3 ≤ 1000000; decide, fun j v hv => ?_⟩
      have hc : ∃ c : Nat, v = .int c ∧ 0 < c ∧ c ≤ 200 := by
        have mem := List.mem_of_getElem? hv
        simp only [List.mem_cons, List.not_mem_nil, or_false] at mem
        rcases mem with e | e | e
        · exact ⟨5, e, by decide, by decide⟩
        · exact ⟨30, e, by decide, by decide⟩
        · exact ⟨200, e, by decide, by decide⟩
      obtain ⟨c, rfl, c0, c1⟩ := hc
      refine ⟨(c : Int), rfl, wd, _, rfl, .inl (.inl ((t5.trans s6) _ _ ew)), fun p7 np7 => ?_⟩
      have s7 := same_new np7 (.lst (cutV (ww.map V.str) none (some (c : Int))))
      refine ⟨b, p7, _, rfl, hb2.same (t5.trans (s6.trans s7)), .inl (.inl upd_same), ?_, ?_, fun j2 v2 hv2 => ?_⟩
      · rw [cut_to, List.length_take, List.length_map, wwl]
        omega
      · rw [cut_to, List.length_take, List.length_map, wwl]
        omega
      · rw [cut_to, ← List.map_take, List.getElem?_map] at hv2
        obtain ⟨z, hzz, rfl⟩ := Option.map_eq_some_iff.mp hv2
        have hzz := List.mem_of_getElem? hzz
        exact hy _ _ (s6.trans s7) ⟨z, rfl, List.all_eq_true.mp lawW_strOk z (List.mem_of_mem_take (List.mem_of_mem_take hzz))⟩
    rintro H5 ys s5 ly oks e5
    obtain ⟨ss, rfl, lss, oss⟩ := strs_ok oks
    have l29 : ss.length ≤ 29 := by
      rw [lss, ly]
      omega
    have t5 := sp.trans s5
    -- avoid + one of four
    refine ⟨_, rfl, _, rfl, Nat.zero_le _, fun p1 np1 => ?_⟩
    generalize hX : upd _ p1 _ = H5a
    obtain ⟨v1, w1⟩ := new_at hX np1
    clear hX
    refine ⟨(by show 4 ≤ sizeLine; decide), fun p2 np2 => ?_⟩
    generalize hX : upd _ p2 _ = H5b
    obtain ⟨v2, w2⟩ := new_at hX np2
    clear hX
    refine ⟨_, rfl, (by show 3 ≤ sizeLine; decide), fun p3 np3 => ?_⟩
    generalize hX : upd _ p3 _ = H5c
    obtain ⟨v3, w3⟩ := new_at hX np3
    clear hX
    refine ⟨(by show 4 ≤ sizeLine; decide), fun p4 np4 => ?_⟩
    generalize hX : upd _ p4 _ = H5d
    obtain ⟨v4, w4⟩ := new_at hX np4
    clear hX
    have t6 := t5.trans (v1.trans (v2.trans (v3.trans v4)))
    have e6 := (v1.trans (v2.trans (v3.trans v4))) _ _ e5
    refine ⟨b, p4, [.ref p1, .ref p2, .ref D, .ref p3], rfl, hb2.same t6, .inl (.inl w4), (by show 0 < 4; decide), (by show 4 ≤ 1000000; decide), fun j v hv => ?_⟩
    have hz : ∃ (z : Addr) (zs : List Str), v = .ref z ∧ H5d z = some (.lst (zs.map V.str)) ∧ zs.length ≤ 29 ∧ ∀ s ∈ zs, PyData.strOk s = true := by
      have mem := List.mem_of_getElem? hv
      simp only [List.mem_cons, List.not_mem_nil, or_false] at mem
      rcases mem with e | e | e | e
      · exact ⟨p1, [], e, (v2.trans (v3.trans v4)) _ _ w1, by decide, fun s h => by cases h⟩
      · exact ⟨p2, [Str.ofString "do", Str.ofString "A", Str.ofString "", Str.ofString "toolongname"], e, (v3.trans v4) _ _ w2, (by show 4 ≤ 29; decide), List.all_eq_true.mp (by decide +kernel)⟩
      · exact ⟨D, ss, e, e6, l29, oss⟩
      · exact ⟨p3, [Str.ofString "a", Str.ofString "b", Str.ofString "aa"], e, v4 _ _ w3, (by show 3 ≤ 29; decide), List.all_eq_true.mp (by decide +kernel)⟩
    obtain ⟨z, zs, rfl, ez, lz, ozs⟩ := hz
    refine ⟨D, z, _, _, rfl, rfl, e6, ez, ?_, fun av nav => ?_⟩
    · rw [List.length_map, List.length_map]
      unfold sizeLine
      omega
    generalize hX : upd _ av _ = H8
    obtain ⟨s8, e7⟩ := new_at hX nav
    clear hX
    have t7 := t6.trans s8
    rw [← List.map_append] at e7
    have lav : (ss ++ zs).length ≤ 58 := by
      rw [List.length_append]
      omega
    have oav : ∀ s ∈ ss ++ zs, PyData.strOk s = true := fun s hs => (List.mem_append.mp hs).elim (oss s) (ozs s)
    generalize ss ++ zs = avs at e7 lav oav
    clear w1 w2 w3 w4 e6 ez v1 v2 v3 v4 nav np1 np2 np3 np4 s8
    -- due
    refine ⟨_, rfl, wd, rfl, ⟨_, .inl (.inl (t7 _ _ ew))⟩, fun D2 nD2 => ?_⟩
    refine lc_gen (walk_list (K := K) (a := wd) (xs := ww.map V.str)) (fun k => (ww[k]?).bind fun z => if avs.contains z = true then none else some (.str z)) (by rw [List.length_map, wwl]; decide) nD2 (fun H' s => .inl (.inl (s _ _ (t7 _ _ ew)))) ?_ ?_
    · rintro k y H9 H10 R Rn hk s9 ⟨rfl, hx⟩ hy hn
      rw [List.getElem?_map] at hx
      obtain ⟨z, hz, rfl⟩ := Option.map_eq_some_iff.mp hx
      refine ⟨rfl, ?_⟩
      refine ⟨_, rfl, _, rfl, av, _, rfl, .inl (.inl (.inl (s9 _ _ e7))), rfl, My.flat_strs avs, _, rfl, ?_⟩
      rw [inV_strs]
      cases hc : avs.contains z
      · exact ⟨_, rfl, hy _ (by rw [hz]; show (if _ then _ else _) = _; rw [hc] <;> rfl) _ (Same.refl _)⟩
      · exact hn (by rw [hz]; show (if _ then _ else _) = _; rw [hc] <;> rfl) _ (Same.refl _)
    rintro H9 s9 e9
    rw [List.length_map, range_all, str_filter] at e9
    refine ⟨_, rfl, (m : Int), rfl, D2, _, rfl, .inl (.inl e9), fun du ndu => ?_⟩
    generalize hX : upd _ du _ = H10
    obtain ⟨s10, e10⟩ := new_at hX ndu
    clear hX
    have t10 := t7.trans (s9.trans s10)
    have e7b := (s9.trans s10) _ _ e7
    rw [cut_to, ← List.map_take] at e10
    have fl : fresh m avs = (ww.filter fun z => !avs.contains z).take m := fresh_law (by omega)
    rw [← fl] at e10
    have lfr : (fresh m avs).length < sizeLine := Nat.lt_of_le_of_lt (fresh_len m avs) (by unfold sizeLine; omega)
    clear e9 s9 nD2 ndu fl
    -- held
    refine ⟨_, rfl, av, _, rfl, .inl (.inl (.inl e7b)), fun hl nhl => ?_⟩
    generalize hX : upd _ hl _ = H11
    obtain ⟨s11, e11⟩ := new_at hX nhl
    clear hX
    have t11 := t10.trans s11
    have e7c := s11 _ _ e7b
    have e10b := s11 _ _ e10
    -- the two calls, and the comparison
    refine ⟨_, rfl, _, rfl, m, av, avs, rfl, .inl (.inl (.inl e7c)), by omega, by omega, fun H12 f1 s12 nf1 ef1 => ?_⟩
    refine ⟨_, rfl, av, _, rfl, .inl ⟨.inl (.inl (s12 _ _ e7c)), fun tl ntl => ?_⟩⟩
    generalize hX : upd _ tl _ = H13
    obtain ⟨s13, e13⟩ := new_at hX ntl
    clear hX
    refine ⟨_, rfl, rfl, rfl, m, tl, avs, rfl, .inr (.inl (.inl e13)), by omega, by omega, fun H14 f2 s14 nf2 ef2 => ?_⟩
    refine ⟨(by show 2 ≤ sizeLine; decide), fun l1 nl1 => ?_⟩
    generalize hX : upd _ l1 _ = H15
    obtain ⟨s15, e15⟩ := new_at hX nl1
    clear hX
    refine ⟨_, rfl, _, rfl, (by show 2 ≤ sizeLine; decide), fun l2 nl2 => ?_⟩
    generalize hX : upd _ l2 _ = H16
    obtain ⟨s16, e16⟩ := new_at hX nl2
    clear hX
    have dl := s16 _ _ (s15 _ _ (s14 _ _ (s13 _ _ (s12 _ _ e10b))))
    refine ⟨_, _, rfl, eqv_list (.inl (.inl (s16 _ _ e15))) (.inl (.inl e16)) (by show 2 < sizeLine; decide) (.cons (eqv_strs (.inl (.inl (s16 _ _ (s15 _ _ (s14 _ _ (s13 _ _ ef1)))))) (.inl (.inl dl)) lfr 0) (.cons (eqv_strs (.inl (.inl (s16 _ _ (s15 _ _ ef2)))) (.inl (.inl dl)) lfr 0) .nil)), fun H17 s17 => ?_⟩
    refine ⟨true, rfl, iteF ?_⟩
    have r17 := s12.trans (s13.trans (s14.trans (s15.trans (s16.trans s17))))
    refine ⟨_, rfl, _, rfl, _, _, .lst (.inl (.inl (r17 _ _ e7c))) (dp_strs avs), .lst (.inl (.inl (r17 _ _ e11))) (dp_strs avs), shaped_strs oav, shaped_strs oav, _, rfl, ?_⟩
    rw [eqv_same oav]
    refine iteF ?_
    have e7d := r17 _ _ e7c
    have e10c := r17 _ _ e10b
    have t17 := t11.trans r17
    -- told.append('x')
    refine ⟨_, rfl, _, rfl, m, av, avs, rfl, .inl (.inl (.inl e7d)), by omega, by omega, fun H18 fr s18 nfr efr => ?_⟩
    refine ⟨_, rfl, .inl ⟨rfl, _, .inl (.inl efr)⟩, fr, _, _, rfl, rfl, efr, by rw [List.length_map]; exact lfr, ?_⟩
    have s19 := same_over s18 nfr (.lst ((fresh m avs).map V.str ++ [.str (Str.ofString "x")]))
    refine ⟨_, rfl, _, rfl, m, av, avs, rfl, .inl (.inl (.inl (s19 _ _ e7d))), by omega, by omega, fun H20 f3 s20 nf3 ef3 => ?_⟩
    refine ⟨_, rfl, _, _, rfl, eqv_strs (.inl (.inl ef3)) (.inl (.inl (s20 _ _ (s19 _ _ e10c)))) lfr 1, fun H21 s21 => ⟨true, rfl, iteF ?_⟩⟩
    exact ⟨_, _, _, _, _, _, _, _, _, _, rfl, t17.trans (s19.trans (s20.trans s21))⟩
  · rintro σ H3 ⟨x3, x4, x5, x6, x7, x8, x9, x10, x11, x12, rfl, s3⟩
    have ew3 := s3 _ _ ew
    refine ⟨_, rfl, b, 30, rfl, hb2.same s3, by decide, by decide, fun d d0 d1 => ⟨_, _, rfl, rfl, ?_⟩⟩
    obtain ⟨m, em, m1, m2⟩ : ∃ m : Nat, (690 : Int) + d = m ∧ 690 ≤ m ∧ m ≤ 719 := ⟨(690 + d).toNat, by omega, by omega, by omega⟩
    -- late, held
    refine ⟨_, rfl, Nat.zero_le _, fun p np => ?_⟩
    generalize hX : upd _ p _ = H4
    obtain ⟨s4, e4⟩ := new_at hX np
    clear hX
    refine ⟨m, p, [], ?_, .inl (.inl (.inl e4)), by decide, by omega, fun H5 lt s5 nlt elt => ?_⟩
    · show [V.int (690 + d), V.ref p] = _
      rw [em]
    refine ⟨(by show 4 ≤ sizeLine; decide), fun hd nhd => ⟨_, _, rfl, ?_⟩⟩
    generalize hX : upd _ hd _ = H6
    obtain ⟨s6, ehd⟩ := new_at hX nhd
    clear hX
    have ehd : H6 hd = some (.lst (held4.map V.str)) := ehd
    rw [late_all (by omega)] at elt
    have lw6 := s6 _ _ elt
    have wlen : (ww.take m).length = m := by
      rw [List.length_take, wwl]
      omega
    have wlm : ((ww.take m).map V.str).length = m := by rw [List.length_map, wlen]
    -- told
    refine ⟨_, rfl, 25, rfl, 28, rfl, lt, _, rfl, .inl (.inl lw6), fun a1 na1 => ?_⟩
    generalize hX : upd _ a1 _ = H7
    obtain ⟨s7, e71⟩ := new_at hX na1
    clear hX
    rw [show cutV ((ww.take m).map V.str) (some 25) (some 28) = (([Str.ofString "z", Str.ofString "aa", Str.ofString "ab"] : List Str).map V.str) by
      rw [show cutV ((ww.take m).map V.str) (some 25) (some 28) = (((ww.take m).map V.str).drop 25).take 3 from cut_mid _ 25 28 (by decide) (by rw [wlm]; omega), ← List.map_drop, ← List.map_take, late_mid (by omega)]] at e71
    have lw7 := s7 _ _ lw6
    have hm1 : m - 1 < ww.length := by omega
    have at1 : atI ((ww.take m).map V.str) ((((ww.take m).map V.str).length : Int) - 1) = some (.str ww[m - 1]) := by
      rw [wlm, show (m : Int) - 1 = ((m - 1 : Nat) : Int) by omega]
      refine atI_nat ?_
      rw [List.getElem?_map, List.getElem?_take_of_lt (by omega), List.getElem?_eq_getElem hm1]
      rfl
    refine ⟨_, rfl, _, rfl, lt, _, rfl, .inl (.inl (.inl lw7)), _, _, rfl, rfl, _, _, _, _, rfl, rfl, .inl (.inl lw7), at1, ?_⟩
    refine ⟨_, rfl, lt, _, rfl, .inl (.inl (.inl lw7)), rfl, My.flat_strs _, ?_⟩
    refine ⟨_, rfl, lt, _, rfl, .inl (.inl (.inl lw7)), rfl, My.flat_strs _, ?_⟩
    refine ⟨_, rfl, lt, _, rfl, .inl (.inl (.inl lw7)), ?_⟩
    refine ⟨_, rfl, _, rfl, m, hd, held4, ?_, .inl (.inl (.inl (s7 _ _ ehd))), by decide, by omega, fun H8 f8 s8 nf8 ef8 => ?_⟩
    · show [V.int (690 + d), V.ref hd] = _
      rw [em]
    refine ⟨26, rfl, f8, _, rfl, .inl (.inl ef8), fun a6 na6 => ?_⟩
    generalize hX : upd _ a6 _ = H9
    obtain ⟨s9, e96⟩ := new_at hX na6
    clear hX
    rw [show cutV ((fresh m held4).map V.str) none (some 26) = ((fresh m held4).map V.str).take 26 from cut_to _ 26, ← List.map_take, late_held (by omega) (by omega)] at e96
    refine ⟨_, rfl, 0, hd, held4, rfl, .inl (.inl (.inl (s9 _ _ (s8 _ _ (s7 _ _ ehd))))), by decide, by decide, fun H10 f10 s10 nf10 ef10 => ?_⟩
    refine ⟨(by show 7 ≤ sizeLine; decide), fun tl ntl => ?_⟩
    generalize hX : upd _ tl _ = H11
    obtain ⟨s11, etl⟩ := new_at hX ntl
    clear hX
    -- due
    refine ⟨(by show 3 ≤ sizeLine; decide), fun b1 nb1 => ?_⟩
    generalize hX : upd _ b1 _ = H12
    obtain ⟨s12, eb1⟩ := new_at hX nb1
    clear hX
    have s312 := s4.trans (s5.trans (s6.trans (s7.trans (s8.trans (s9.trans (s10.trans (s11.trans s12)))))))
    have at2 : atI (ww.map V.str) ((690 + d) - 1) = some (.str ww[m - 1]) := by
      rw [em, show (m : Int) - 1 = ((m - 1 : Nat) : Int) by omega]
      refine atI_nat ?_
      rw [List.getElem?_map, List.getElem?_eq_getElem hm1]
      rfl
    refine ⟨_, rfl, _, rfl, _, _, rfl, rfl, _, _, _, _, rfl, rfl, .inl (.inl (s312 _ _ ew3)), at2, ?_⟩
    refine ⟨_, rfl, ?_⟩
    refine ⟨Str.ofString "bcdefghijklmnopqrstuvwxy", rfl, fun D nD => ?_⟩
    have bcps : (Str.ofString "bcdefghijklmnopqrstuvwxy").cps.toList = (List.range 24).map (98 + ·) := by decide +kernel
    have bsz : (Str.ofString "bcdefghijklmnopqrstuvwxy").cps.size = ((List.range 24).map (98 + ·)).length := by decide +kernel
    refine lc_gen walk_str (fun i => (((List.range 24).map (98 + ·))[i]?).bind fun c => some (.str (toS [c]))) (by rw [bsz]; decide) nD (fun _ _ => trivial) ?_ ?_
    · rintro i x H13 H14 R Rn hi sm ⟨rfl, c, hc, rfl⟩ hy hn
      rw [← Array.getElem?_toList, bcps] at hc
      refine ⟨rfl, ?_⟩
      exact ⟨_, rfl, hy _ (by rw [hc] <;> rfl) _ (Same.refl _)⟩
    rintro H13 s13 e13
    rw [bsz, range_all, filterMap_some] at e13
    refine ⟨(by show 2 ≤ sizeLine; decide), fun b6 nb6 => ?_⟩
    generalize hX : upd _ b6 _ = H14
    obtain ⟨s14, eb6⟩ := new_at hX nb6
    clear hX
    refine ⟨D, b6, _, _, rfl, rfl, s14 _ _ e13, eb6, (by rw [List.length_map, List.length_map, List.length_range]; show 24 + 2 ≤ sizeLine; decide), fun b7 nb7 => ?_⟩
    generalize hX : upd _ b7 _ = H15
    obtain ⟨s15, eb7⟩ := new_at hX nb7
    clear hX
    refine ⟨Nat.zero_le _, fun b8 nb8 => ?_⟩
    generalize hX : upd _ b8 _ = H16
    obtain ⟨s16, eb8⟩ := new_at hX nb8
    clear hX
    refine ⟨(by show 7 ≤ sizeLine; decide), fun dl ndl => ?_⟩
    generalize hX : upd _ dl _ = H17
    obtain ⟨s17, edl⟩ := new_at hX ndl
    clear hX
    -- the comparison
    have z12 := s13.trans (s14.trans (s15.trans (s16.trans s17)))
    have z11 := s12.trans z12
    refine ⟨_, rfl, _, rfl, _, _, rfl, ?_, fun H18 _ => q H18⟩
    have E0 : Eqv K H17 2 (.ref a1) (.ref b1) := eqv_strs (.inl (.inl ((s8.trans (s9.trans (s10.trans (s11.trans z11)))) _ _ e71))) (.inl (.inl (z12 _ _ eb1))) (by show 3 < sizeLine; decide) 0
    have l26 : (mid24 ++ [Str.ofString "aa", Str.ofString "ab"]).length < sizeLine := by
      rw [List.length_append, List.length_map, List.length_range]
      show 24 + 2 < sizeLine
      decide
    have E6 : Eqv K H17 2 (.ref a6) (.ref b7) := by
      refine eqv_strs (.inl (.inl ((s10.trans (s11.trans z11)) _ _ e96))) (.inl (.inl ((s16.trans s17) _ _ ?_))) l26 0
      rw [eb7, List.map_append, List.map_map, List.map_map]
      rfl
    have E7 : Eqv K H17 2 (.ref f10) (.ref b8) := eqv_strs (ss := []) (.inl (.inl ((s11.trans z11) _ _ ef10))) (.inl (.inl (s17 _ _ eb8))) (by decide) 0
    refine eqv_list (.inl (.inl (z11 _ _ etl))) (.inl (.inl edl)) (by show 7 < sizeLine; decide) (.cons E0 (.cons (eqv_scal rfl) (.cons ?_ (.cons ?_ (.cons ?_ (.cons E6 (.cons E7 .nil)))))))
    · show Eqv K H17 2 (.bl (inV (.str (Str.ofString "do")) ((ww.take m).map V.str))) (.bl false)
      rw [inV_strs, late_kw (by decide +kernel)]
      exact eqv_scal rfl
    · show Eqv K H17 2 (.bl (inV (.str (Str.ofString "if")) ((ww.take m).map V.str))) (.bl false)
      rw [inV_strs, late_kw (by decide +kernel)]
      exact eqv_scal rfl
    · rw [wlm]
      show Eqv K H17 2 (.int m) (.int (690 + d))
      rw [em]
      exact eqv_scal rfl

end
end Kx
/-! part K02h -/
namespace Kx
open PySem PySem.Spec PyProof.Rows L2 My
theorem all_mk {l : PySem.W.OpenLaw} {w : World} {K : PySem.W.Frag} {h : Heap} {mg : Str → Option Value} {fa : Addr} (X : K.In h) (G : h.Ns mainGlobals mg) (hfa : mg "law" = some (.ref fa))
    {f0 : Addr} {od0 an0 : Option Addr} {sl0 : Array (Option Value)} {oc0 kV0 dc0 pm0 cd0 ct0 : Value}
    {f1 : Addr} {od1 an1 : Option Addr} {sl1 : Array (Option Value)} {oc1 kV1 dc1 pm1 cd1 ct1 : Value}
    {f2 : Addr} {od2 an2 : Option Addr} {sl2 : Array (Option Value)} {oc2 kV2 dc2 pm2 cd2 ct2 : Value}
    {f3 : Addr} {od3 an3 : Option Addr} {sl3 : Array (Option Value)} {oc3 kV3 dc3 pm3 cd3 ct3 : Value}
    {f4 : Addr} {od4 an4 : Option Addr} {sl4 : Array (Option Value)} {oc4 kV4 dc4 pm4 cd4 ct4 : Value}
    {f5 : Addr} {od5 an5 : Option Addr} {sl5 : Array (Option Value)} {oc5 kV5 dc5 pm5 cd5 ct5 : Value}
    {f6 : Addr} {od6 an6 : Option Addr} {sl6 : Array (Option Value)} {oc6 kV6 dc6 pm6 cd6 ct6 : Value}
    {f7 : Addr} {od7 an7 : Option Addr} {sl7 : Array (Option Value)} {oc7 kV7 dc7 pm7 cd7 ct7 : Value}
    {f8 : Addr} {od8 an8 : Option Addr} {sl8 : Array (Option Value)} {oc8 kV8 dc8 pm8 cd8 ct8 : Value}
    {f9 : Addr} {od9 an9 : Option Addr} {sl9 : Array (Option Value)} {oc9 kV9 dc9 pm9 cd9 ct9 : Value}
    {f10 : Addr} {od10 an10 : Option Addr} {sl10 : Array (Option Value)} {oc10 kV10 dc10 pm10 cd10 ct10 : Value}
    {a_KEYWORDS : Addr} {od_KEYWORDS : Option Addr} {it_KEYWORDS : Array Value} {n_KEYWORDS : Nat} {sl_KEYWORDS : Array (Option Value)}
    {t_LETTERS : Tok}
    {t_LONGEST_NAME : Tok}
    (a0 : PySem.W.nsIn K mainGlobals "is_name" = some (some (.ref f0))) (l0 : K.lookup f0 = some ⟨oc0, od0, .func (PySem.W.fnOf "is_name" "is_name" (defArgs s_is_name) (defBody s_is_name) (defScope s_is_name) .none kV0 dc0 pm0 an0 cd0 ct0), sl0⟩) (c0 : PySem.W.codeIn K cd0 "is_name" = true) (k0 : PySem.W.keepIn K (.ref f0) = true)
    (a1 : PySem.W.nsIn K mainGlobals "fresh_names" = some (some (.ref f1))) (l1 : K.lookup f1 = some ⟨oc1, od1, .func (PySem.W.fnOf "fresh_names" "fresh_names" (defArgs s_fresh_names) (defBody s_fresh_names) (defScope s_fresh_names) .none kV1 dc1 pm1 an1 cd1 ct1), sl1⟩) (c1 : PySem.W.codeIn K cd1 "fresh_names" = true) (k1 : PySem.W.keepIn K (.ref f1) = true)
    (a2 : PySem.W.nsIn K mainGlobals "word_at" = some (some (.ref f2))) (l2 : K.lookup f2 = some ⟨oc2, od2, .func (PySem.W.fnOf "word_at" "word_at" (defArgs s_word_at) (defBody s_word_at) (defScope s_word_at) .none kV2 dc2 pm2 an2 cd2 ct2), sl2⟩) (c2 : PySem.W.codeIn K cd2 "word_at" = true) (k2 : PySem.W.keepIn K (.ref f2) = true)
    (a3 : PySem.W.nsIn K mainGlobals "_law_bag" = some (some (.ref f3))) (l3 : K.lookup f3 = some ⟨oc3, od3, .func (PySem.W.fnOf "_law_bag" "_law_bag" (defArgs s__law_bag) (defBody s__law_bag) (defScope s__law_bag) .none kV3 dc3 pm3 an3 cd3 ct3), sl3⟩) (c3 : PySem.W.codeIn K cd3 "_law_bag" = true) (k3 : PySem.W.keepIn K (.ref f3) = true)
    (a4 : PySem.W.nsIn K mainGlobals "_law_draw" = some (some (.ref f4))) (l4 : K.lookup f4 = some ⟨oc4, od4, .func (PySem.W.fnOf "_law_draw" "_law_draw" (defArgs s__law_draw) (defBody s__law_draw) (defScope s__law_draw) .none kV4 dc4 pm4 an4 cd4 ct4), sl4⟩) (c4 : PySem.W.codeIn K cd4 "_law_draw" = true) (k4 : PySem.W.keepIn K (.ref f4) = true)
    (a5 : PySem.W.nsIn K mainGlobals "_law_of" = some (some (.ref f5))) (l5 : K.lookup f5 = some ⟨oc5, od5, .func (PySem.W.fnOf "_law_of" "_law_of" (defArgs s__law_of) (defBody s__law_of) (defScope s__law_of) .none kV5 dc5 pm5 an5 cd5 ct5), sl5⟩) (c5 : PySem.W.codeIn K cd5 "_law_of" = true) (k5 : PySem.W.keepIn K (.ref f5) = true)
    (a6 : PySem.W.nsIn K mainGlobals "_law_same" = some (some (.ref f6))) (l6 : K.lookup f6 = some ⟨oc6, od6, .func (PySem.W.fnOf "_law_same" "_law_same" (defArgs s__law_same) (defBody s__law_same) (defScope s__law_same) .none kV6 dc6 pm6 an6 cd6 ct6), sl6⟩) (c6 : PySem.W.codeIn K cd6 "_law_same" = true) (k6 : PySem.W.keepIn K (.ref f6) = true)
    (a7 : PySem.W.nsIn K mainGlobals "_law_keywords" = some (some (.ref f7))) (l7 : K.lookup f7 = some ⟨oc7, od7, .func (PySem.W.fnOf "_law_keywords" "_law_keywords" (defArgs s__law_keywords) (defBody s__law_keywords) (defScope s__law_keywords) .none kV7 dc7 pm7 an7 cd7 ct7), sl7⟩) (c7 : PySem.W.codeIn K cd7 "_law_keywords" = true) (k7 : PySem.W.keepIn K (.ref f7) = true)
    (a8 : PySem.W.nsIn K mainGlobals "_law_letters" = some (some (.ref f8))) (l8 : K.lookup f8 = some ⟨oc8, od8, .func (PySem.W.fnOf "_law_letters" "_law_letters" (defArgs s__law_letters) (defBody s__law_letters) (defScope s__law_letters) .none kV8 dc8 pm8 an8 cd8 ct8), sl8⟩) (c8 : PySem.W.codeIn K cd8 "_law_letters" = true) (k8 : PySem.W.keepIn K (.ref f8) = true)
    (a9 : PySem.W.nsIn K mainGlobals "_law_first_words" = some (some (.ref f9))) (l9 : K.lookup f9 = some ⟨oc9, od9, .func (PySem.W.fnOf "_law_first_words" "_law_first_words" (defArgs s__law_first_words) (defBody s__law_first_words) (defScope s__law_first_words) .none kV9 dc9 pm9 an9 cd9 ct9), sl9⟩) (c9 : PySem.W.codeIn K cd9 "_law_first_words" = true) (k9 : PySem.W.keepIn K (.ref f9) = true)
    (a10 : PySem.W.nsIn K mainGlobals "law" = some (some (.ref f10))) (l10 : K.lookup f10 = some ⟨oc10, od10, .func (PySem.W.fnOf "law" "law" (defArgs s_law) (defBody s_law) (defScope s_law) .none kV10 dc10 pm10 an10 cd10 ct10), sl10⟩) (c10 : PySem.W.codeIn K cd10 "law" = true) (k10 : PySem.W.keepIn K (.ref f10) = true)
    (z_all : PySem.W.nsIn K mainGlobals "all" = some none)
    (z_bool : PySem.W.nsIn K mainGlobals "bool" = some none)
    (z_dict : PySem.W.nsIn K mainGlobals "dict" = some none)
    (z_divmod : PySem.W.nsIn K mainGlobals "divmod" = some none)
    (z_int : PySem.W.nsIn K mainGlobals "int" = some none)
    (z_isinstance : PySem.W.nsIn K mainGlobals "isinstance" = some none)
    (z_len : PySem.W.nsIn K mainGlobals "len" = some none)
    (z_list : PySem.W.nsIn K mainGlobals "list" = some none)
    (z_range : PySem.W.nsIn K mainGlobals "range" = some none)
    (z_set : PySem.W.nsIn K mainGlobals "set" = some none)
    (z_str : PySem.W.nsIn K mainGlobals "str" = some none)
    (z_tuple : PySem.W.nsIn K mainGlobals "tuple" = some none)
    (z_zip : PySem.W.nsIn K mainGlobals "zip" = some none)
    (g_KEYWORDS : PySem.W.nsIn K mainGlobals "KEYWORDS" = some (some (.ref a_KEYWORDS))) (l_KEYWORDS : K.lookup a_KEYWORDS = some ⟨.type "tuple", od_KEYWORDS, .seq it_KEYWORDS n_KEYWORDS, sl_KEYWORDS⟩) (v_KEYWORDS : Vals [.str (PySem.Str.ofString "let"), .str (PySem.Str.ofString "set"), .str (PySem.Str.ofString "out"), .str (PySem.Str.ofString "read"), .str (PySem.Str.ofString "do"), .str (PySem.Str.ofString "def"), .str (PySem.Str.ofString "if"), .str (PySem.Str.ofString "else"), .str (PySem.Str.ofString "repeat"), .str (PySem.Str.ofString "block")] it_KEYWORDS.toList) (s_KEYWORDS : it_KEYWORDS.size ≤ sizeLine)
    (g_LETTERS : PySem.W.nsIn K mainGlobals "LETTERS" = some (some (.str (PySem.Str.ofString "abcdefghijklmnopqrstuvwxyz") t_LETTERS)))
    (g_LONGEST_NAME : PySem.W.nsIn K mainGlobals "LONGEST_NAME" = some (some (.int 6 t_LONGEST_NAME))) :
    ∃ fd : FuncData, (∀ (s : Shared) (v : Value), BindsTo s fd ⟨[v], []⟩ [("_law_script", v)]) ∧ ∀ base : Heap, K.In base → base.Ns mainGlobals mg → FnOk l.prog w K mg base CX0 4 fa fd ["_law_script"] (spLaw K) := by
  have e := hfa.symm.trans (PySem.W.mg_of X G a10)
  cases e
  let T : Tx K mg := { f_is_name := f0, d_is_name := _, F_is_name := fun_mk (st := s_is_name) l0 c0 k0, g_is_name := PySem.W.mg_of X G a0, b_is_name := (fun_mk (st := s_is_name) l0 c0 k0).binds (ps := ["value"]) (fun _ _ _ _ _ _ us hl => match us, hl with | [_], _ => rfl), f_fresh_names := f1, d_fresh_names := _, F_fresh_names := fun_mk (st := s_fresh_names) l1 c1 k1, g_fresh_names := PySem.W.mg_of X G a1, b_fresh_names := (fun_mk (st := s_fresh_names) l1 c1 k1).binds (ps := ["many", "avoid"]) (fun _ _ _ _ _ _ us hl => match us, hl with | [_, _], _ => rfl), f_word_at := f2, d_word_at := _, F_word_at := fun_mk (st := s_word_at) l2 c2 k2, g_word_at := PySem.W.mg_of X G a2, b_word_at := (fun_mk (st := s_word_at) l2 c2 k2).binds (ps := ["length", "index"]) (fun _ _ _ _ _ _ us hl => match us, hl with | [_, _], _ => rfl), f__law_bag := f3, d__law_bag := _, F__law_bag := fun_mk (st := s__law_bag) l3 c3 k3, g__law_bag := PySem.W.mg_of X G a3, b__law_bag := (fun_mk (st := s__law_bag) l3 c3 k3).binds (ps := ["_law_script"]) (fun _ _ _ _ _ _ us hl => match us, hl with | [_], _ => rfl), f__law_draw := f4, d__law_draw := _, F__law_draw := fun_mk (st := s__law_draw) l4 c4 k4, g__law_draw := PySem.W.mg_of X G a4, b__law_draw := (fun_mk (st := s__law_draw) l4 c4 k4).binds (ps := ["_law_bag_here", "_law_many_z"]) (fun _ _ _ _ _ _ us hl => match us, hl with | [_, _], _ => rfl), f__law_of := f5, d__law_of := _, F__law_of := fun_mk (st := s__law_of) l5 c5 k5, g__law_of := PySem.W.mg_of X G a5, b__law_of := (fun_mk (st := s__law_of) l5 c5 k5).binds (ps := ["_law_bag_here", "_law_some"]) (fun _ _ _ _ _ _ us hl => match us, hl with | [_, _], _ => rfl), f__law_same := f6, d__law_same := _, F__law_same := fun_mk (st := s__law_same) l6 c6 k6, g__law_same := PySem.W.mg_of X G a6, b__law_same := (fun_mk (st := s__law_same) l6 c6 k6).binds (ps := ["_law_found", "_law_due"]) (fun _ _ _ _ _ _ us hl => match us, hl with | [_, _], _ => rfl), f__law_keywords := f7, d__law_keywords := _, F__law_keywords := fun_mk (st := s__law_keywords) l7 c7 k7, g__law_keywords := PySem.W.mg_of X G a7, b__law_keywords := (fun_mk (st := s__law_keywords) l7 c7 k7).binds (ps := []) (fun _ _ _ _ _ _ us hl => match us, hl with | [], _ => rfl), f__law_letters := f8, d__law_letters := _, F__law_letters := fun_mk (st := s__law_letters) l8 c8 k8, g__law_letters := PySem.W.mg_of X G a8, b__law_letters := (fun_mk (st := s__law_letters) l8 c8 k8).binds (ps := []) (fun _ _ _ _ _ _ us hl => match us, hl with | [], _ => rfl), f__law_first_words := f9, d__law_first_words := _, F__law_first_words := fun_mk (st := s__law_first_words) l9 c9 k9, g__law_first_words := PySem.W.mg_of X G a9, b__law_first_words := (fun_mk (st := s__law_first_words) l9 c9 k9).binds (ps := ["_law_many_z"]) (fun _ _ _ _ _ _ us hl => match us, hl with | [_], _ => rfl), f_law := fa, d_law := _, F_law := fun_mk (st := s_law) l10 c10 k10, g_law := hfa, z_all := PySem.W.mg_none_of X G z_all, z_bool := PySem.W.mg_none_of X G z_bool, z_dict := PySem.W.mg_none_of X G z_dict, z_divmod := PySem.W.mg_none_of X G z_divmod, z_int := PySem.W.mg_none_of X G z_int, z_isinstance := PySem.W.mg_none_of X G z_isinstance, z_len := PySem.W.mg_none_of X G z_len, z_list := PySem.W.mg_none_of X G z_list, z_range := PySem.W.mg_none_of X G z_range, z_set := PySem.W.mg_none_of X G z_set, z_str := PySem.W.mg_none_of X G z_str, z_tuple := PySem.W.mg_none_of X G z_tuple, z_zip := PySem.W.mg_none_of X G z_zip, a_KEYWORDS := a_KEYWORDS, g_KEYWORDS := PySem.W.mg_of X G g_KEYWORDS, q_KEYWORDS := (fun H => .inr ⟨_, _, _, l_KEYWORDS, rfl, rfl, s_KEYWORDS, v_KEYWORDS⟩), t_LETTERS := t_LETTERS, g_LETTERS := PySem.W.mg_of X G g_LETTERS, t_LONGEST_NAME := t_LONGEST_NAME, g_LONGEST_NAME := PySem.W.mg_of X G g_LONGEST_NAME }
  exact ⟨_, fun s v => .of_eq rfl, fun base _ _ => ok_law T⟩
end Kx
open PySem PySem.W PyProof.Rows
set_option maxRecDepth 100000 in
set_option maxHeartbeats 0 in
theorem PySem.Challenge.cw_piercednames_k02_fresh_names_in_order_holds : PySem.Challenge.rw_piercednames_k02_fresh_names_in_order.Holds := by
  w_on; o_law; k_head; (case hw => w_witness2)
  k_fill
  refine L2.walk_of (l := PySem.Challenge.rw_piercednames_k02_fresh_names_in_order) (n := 63) (k := 4) (x := "_law_script") (CX := fun _ => L2.CX0) (sp := fun w => My.spLaw _) rfl (by decide) rfl ⟨rfl, by decide, by decide⟩ (fun w h Y => PySem.W.kIn_of Y) ?F (fun _ _ a ns hl _ hS => ⟨a, ns, rfl, hS, hl, fun _ => rfl⟩) (fun _ _ _ _ _ h => h)
  case F =>
    intro w mg fa h KX G hmg
    refine' Kx.all_mk KX G hmg ?a0 ?l0 ?c0 ?k0 ?a1 ?l1 ?c1 ?k1 ?a2 ?l2 ?c2 ?k2 ?a3 ?l3 ?c3 ?k3 ?a4 ?l4 ?c4 ?k4 ?a5 ?l5 ?c5 ?k5 ?a6 ?l6 ?c6 ?k6 ?a7 ?l7 ?c7 ?k7 ?a8 ?l8 ?c8 ?k8 ?a9 ?l9 ?c9 ?k9 ?a10 ?l10 ?c10 ?k10 ?z_all ?z_bool ?z_dict ?z_divmod ?z_int ?z_isinstance ?z_len ?z_list ?z_range ?z_set ?z_str ?z_tuple ?z_zip ?g_KEYWORDS ?l_KEYWORDS ?v_KEYWORDS ?s_KEYWORDS ?g_LETTERS ?g_LONGEST_NAME
    (case a0 => k_is)
    (case l0 => k_is)
    (case c0 => k_is)
    (case k0 => k_is)
    (case a1 => k_is)
    (case l1 => k_is)
    (case c1 => k_is)
    (case k1 => k_is)
    (case a2 => k_is)
    (case l2 => k_is)
    (case c2 => k_is)
    (case k2 => k_is)
    (case a3 => k_is)
    (case l3 => k_is)
    (case c3 => k_is)
    (case k3 => k_is)
    (case a4 => k_is)
    (case l4 => k_is)
    (case c4 => k_is)
    (case k4 => k_is)
    (case a5 => k_is)
    (case l5 => k_is)
    (case c5 => k_is)
    (case k5 => k_is)
    (case a6 => k_is)
    (case l6 => k_is)
    (case c6 => k_is)
    (case k6 => k_is)
    (case a7 => k_is)
    (case l7 => k_is)
    (case c7 => k_is)
    (case k7 => k_is)
    (case a8 => k_is)
    (case l8 => k_is)
    (case c8 => k_is)
    (case k8 => k_is)
    (case a9 => k_is)
    (case l9 => k_is)
    (case c9 => k_is)
    (case k9 => k_is)
    (case a10 => k_is)
    (case l10 => k_is)
    (case c10 => k_is)
    (case k10 => k_is)
    (case z_all => k_is)
    (case z_bool => k_is)
    (case z_dict => k_is)
    (case z_divmod => k_is)
    (case z_int => k_is)
    (case z_isinstance => k_is)
    (case z_len => k_is)
    (case z_list => k_is)
    (case z_range => k_is)
    (case z_set => k_is)
    (case z_str => k_is)
    (case z_tuple => k_is)
    (case z_zip => k_is)
    (case g_KEYWORDS => k_is)
    (case l_KEYWORDS => k_is)
    (case g_LETTERS => k_is)
    (case g_LONGEST_NAME => k_is)
    (case v_KEYWORDS => (repeat (refine Paired.cons ⟨_, rfl⟩ ?_)); exact Paired.nil)
    (case s_KEYWORDS => decide)
